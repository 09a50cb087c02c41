import PyProof.Rows.All
import Wide.All
import OpenK.AllK
import Wide.FinOn
import Lean
import PyProof.EqAt
import PyProof.EqKinds
import PyProof.TupleCall
import PySem.Challenge.RW_talehands_k16_beginnings_and_rests
open PySem renaming wpAny_bind → ay0, wpAny_pure → ay1, sizeLine → by3, mainGlobals → cy0, Program → cy7, wpAny_call_entry → dy4, foldedSetIterable → ey4, wpAny_newObj_type → ey5, FuncData → ey7, wpAny_callSpecial?_slot → ey8, bootBuiltins → fy0, wpAny_holding → fy1, starEach → fy4, wpAny_mono → fy6, compareOp → gy5, strKind → gy9, Spec → hy7, codeAny_builtin → iy0, wpAny_setField_rec → iy9, mem_of_lookup → jy4, wpAny_field → jy5, wpAny_setField → jy8, wpAny_dictEntries → ky1, plainId_quiet → ky2, sysModules → ky7, wpAny_truthy_bool → ky9, wpAny_standAt → ly3, codeAny → ly4, assignEach → my1, DictEntry → my6, sizeLine_eq → my9, wpAny_dictEpoch → ny8, wpAny_typeNameOfWhole_itemiter → ny9, binaryOp → oy0, wpAny_typeNameOfWhole_keyiter → oy2, wpAny_typeNameOfWhole_valiter → oy3, attributeBase → oy4, wpAny_rule → oy6, letOwnedTupleGo → oy9, wpAny_updateSeq → py3, wpAny_eqBool_str → py5, wpAny_isInstance → qy0, wpAny_notOrdered_dict → qy3, wpAny_attempt → qy5, wpAny_typeNameOf_itemiter → ry1, wpAny_passesOwn → ry2, Builtin → ry5, scanBound → ry6, wpAny_ite_split → ry7, wpAny_pyIter_slot → ry8, wpAny_typeNameOf_keyiter → sy0, wpAny_typeNameOf_valiter → sy1, wpAny_seqItems → sy9, wpAny_fieldsOf → ty2, setField → ty6, codeAny_mono → ty9, wpAny_loadPart' → uy0, wpAny_typeOf → uy1, builtinLookup_eq_fast → uy6, NameKind → wy9
open PySem.Heap renaming get?_push_of_some → ay2, get?_push_size → ay7, lt_size → by2, get?_update_other → dy5, SameBut → fy3, get?_update_self → gy0, size_push → ny2
open List renaming length_map → ay3, getElem?_eq_some_iff → ay4, getElem?_append_left → ay8, mem_cons_self → ay9, mem_cons_of_mem → by0, getElem?_map → by1, getElem?_eq_getElem → by5, mem_cons → by7, size_toArray → cy1, getElem?_append_right → cy2, mem_map → cy3, length_append → cy5, getElem?_set_ne → cy6, mem_of_getElem? → cy8, length_take → dy1, mem_append_right → dy3, mem_append → ey0, mem_singleton → ey2, map_map → ey6, map_cons → ey9, take_add_one → fy5, map_append → gy1, getElem?_take_of_lt → gy2, getElem?_set_self → gy3, mem_filter → gy4, mem_iff_getElem? → gy7, mem_of_mem_take → hy4, take_length → hy5, getElem_inj → iy4, find?_cons → iy5, append_assoc → iy7, range → jy9, mem_append_left → ky3, nodup_cons → ly5, length_set → ly6, getD → ly8, not_mem_nil → my4, take_of_length_le → my8, map_congr_left → ny0, append_nil → ny4, length_singleton → ny5, getElem?_eq_none → ny7, lookup_cons → oy1, ext_getElem? → oy8, length_cons → py7, getElem_mem → py9, length_filter_le → qy1, map_take → qy2, any_cons → sy3, prefix_refl → sy6, take_prefix → sy7, mem_flatMap → sy8, filter_append → ty5, take_append_drop → uy8, mem_iff_getElem → vy5, set_append_left → vy6, take_left → vy8, length_drop → wy1, any_eq_true → wy2, zipIdx_map_fst → wy7, filter_map → xy1
open PySem.W renaming Frag → ay5, nsIn → cy4, keepIn → dy0, codeIn → dy2, fnOf → dy7, mg_of → dy8, mg_none_of → ey3, kia_one → jy3
open Nat renaming le_refl → ay6, lt_of_lt_of_le → by6, ne_of_lt → by8, zero_le → dy9, le_trans → ey1, lt_succ_self → ky6, le_of_lt → ky8, lt_succ_of_lt → ly1, lt_of_le_of_lt → ly7, add_sub_cancel_left → my0, ne_of_gt → my2, lt_irrefl → ny1, min_eq_left → py1, le_succ → uy2, le_succ_of_le → vy4
open Bool renaming false_ne_true → by9, false_eq_true → jy0, eq_iff_iff → py0, false_and → qy6, and_eq_true → sy5
open PySem.Value renaming ref → cy9, none → dy6, type → py6, isStrOf_shape → wy3
open Ne renaming symm → fy2
open Option renaming map_eq_some_iff → fy7, map_some → xy0
open PySem.Around renaming under_plainId → fy8
open PySem.F renaming plainAttrs_list → fy9, slot_list_append → iy1, type_list_append → iy2, plainAttrs_dict → iy3, slot_dict_itemiterator_next → iy6, plain_extend_loop → iy8, slot_dict_valueiterator_next → ky4, plain_min_loop → ky5, slot_dict_keyiterator_next → ly2, slot_tuple_iterator_next → my5, slot_enumerate_next → py2, slot_dict_get → qy4, slot_dict_values → sy2, plain_list_iadd → sy4, plain_any_loop → ty4, called_set → uy5, type_dict_get → uy9, slot_dict_getitem → vy9
open PySem.Builtin.Dict_items renaming ownsTuple → gy6, ownedTupleFields → wy5, ownedTupleIsFree → wy6
open PySem.Builtin.Int renaming intBits → gy8
open PySem.Obj renaming data_mapFields → hy0, mapSeq → hy9, isFreed_of_fields → ny6, cls_mapFields → vy2, mapFields → vy3
open PySem.Heap.SameBut renaming update → hy1
open PySem.PyData renaming str → hy3, eqvAll → ny3, canLayAll0 → oy7, eqv → py8, canLay0 → qy8, depthAll → ry4, strOk → uy4
open PyProof.Rows renaming slot_tuple_getitem → hy8, subscriptTail_builtinR → py4, callWith_type1 → ty8
open Option.some renaming inj → jy1
open Array renaming length_toList → jy2, getElem?_toList → ly0, getElem?_eq_none → my7, getElem?_eq_getElem → qy9
open PySem.Builtin.List renaming listExtendWith → jy6, listSameRef → ry9, listLengthHint → uy7
open PySem.Builtin.Dict renaming showsAll → jy7
open Int renaming toNat_natCast → ky0
open PySem.PassesOwn renaming never → ly9
open PySem.Str renaming ofString → my3
open PySem.NameKind renaming free → oy5
open PySem.Builtin.Slice renaming slicePlaces → qy7, sliceAdjust → vy7
open PySem.Builtin.SmallTypes renaming nextOf → ry0, ownedTupleHandOut → wy0, ownedTupleIsFree → wy4
open PySem.Builtin.Tuple renaming tupleExact → ry3
open PySem.SetTable renaming grown → ty0
open PySem.Calls renaming callWith_builtin → ty3
open Sum.inr renaming inj → ty7
open ForInStep renaming yield → uy3
open False renaming elim → vy0
open True renaming intro → vy1
open PySem.Builtin.Str renaming occurrences → wy8
open List.Perm renaming refl → xy2
open Sum renaming inr → xy3
noncomputable section
set_option Elab.async false
set_option linter.all false
set_option maxRecDepth 100000
set_option Elab.async false
set_option linter.all false
set_option maxRecDepth 100000
theorem anE3 {P0 P1 P2 G : Prop} (h : P0 /\ P1 /\ P2) (k : P0->P1->P2->G) : G:=by
 obtain ⟨a0,a1,a2⟩:=h;exact k a0 a1 a2
theorem anE4 {P0 P1 P2 P3 G : Prop} (h : P0 /\ P1 /\ P2 /\ P3) (k : P0->P1->P2->P3->G) : G:=by
 obtain ⟨a0,a1,a2,a3⟩:=h;exact k a0 a1 a2 a3
theorem anE5 {P0 P1 P2 P3 P4 G : Prop} (h : P0 /\ P1 /\ P2 /\ P3 /\ P4) (k : P0->P1->P2->P3->P4->G) : G:=by
 obtain ⟨a0,a1,a2,a3,a4⟩:=h;exact k a0 a1 a2 a3 a4
theorem anE6 {P0 P1 P2 P3 P4 P5 G : Prop} (h : P0 /\ P1 /\ P2 /\ P3 /\ P4 /\ P5) (k : P0->P1->P2->P3->P4->P5->G) : G:=by
 obtain ⟨a0,a1,a2,a3,a4,a5⟩:=h;exact k a0 a1 a2 a3 a4 a5
theorem anE7 {P0 P1 P2 P3 P4 P5 P6 G : Prop} (h : P0 /\ P1 /\ P2 /\ P3 /\ P4 /\ P5 /\ P6) (k : P0->P1->P2->P3->P4->P5->P6->G) : G:=by
 obtain ⟨a0,a1,a2,a3,a4,a5,a6⟩:=h;exact k a0 a1 a2 a3 a4 a5 a6
theorem anE8 {P0 P1 P2 P3 P4 P5 P6 P7 G : Prop} (h : P0 /\ P1 /\ P2 /\ P3 /\ P4 /\ P5 /\ P6 /\ P7) (k : P0->P1->P2->P3->P4->P5->P6->P7->G) : G:=by
 obtain ⟨a0,a1,a2,a3,a4,a5,a6,a7⟩:=h;exact k a0 a1 a2 a3 a4 a5 a6 a7
theorem anE9 {P0 P1 P2 P3 P4 P5 P6 P7 P8 G : Prop} (h : P0 /\ P1 /\ P2 /\ P3 /\ P4 /\ P5 /\ P6 /\ P7 /\ P8) (k : P0->P1->P2->P3->P4->P5->P6->P7->P8->G) : G:=by
 obtain ⟨a0,a1,a2,a3,a4,a5,a6,a7,a8⟩:=h;exact k a0 a1 a2 a3 a4 a5 a6 a7 a8
theorem zd28 {P0 P1 P2 P3 P4 P5 P6 P7 P8 P9 G : Prop} (h : P0 /\ P1 /\ P2 /\ P3 /\ P4 /\ P5 /\ P6 /\ P7 /\ P8 /\ P9) (k : P0->P1->P2->P3->P4->P5->P6->P7->P8->P9->G) : G:=by
 obtain ⟨a0,a1,a2,a3,a4,a5,a6,a7,a8,a9⟩:=h;exact k a0 a1 a2 a3 a4 a5 a6 a7 a8 a9
theorem ze55 {P0 P1 P2 P3 P4 P5 P6 P7 P8 P9 P10 G : Prop} (h : P0 /\ P1 /\ P2 /\ P3 /\ P4 /\ P5 /\ P6 /\ P7 /\ P8 /\ P9 /\ P10) (k : P0->P1->P2->P3->P4->P5->P6->P7->P8->P9->P10->G) : G:=by
 obtain ⟨a0,a1,a2,a3,a4,a5,a6,a7,a8,a9,a10⟩:=h;exact k a0 a1 a2 a3 a4 a5 a6 a7 a8 a9 a10
theorem exE2 {A0 A1 : Type} {p : A0->A1->Prop} {G : Prop} (h : ∃ a0 a1,p a0 a1) (k : ∀ a0 a1,p a0 a1->G) : G:=by
 obtain ⟨a0,a1,q⟩:=h;exact k a0 a1 q
theorem exE3 {A0 A1 A2 : Type} {p : A0->A1->A2->Prop} {G : Prop} (h : ∃ a0 a1 a2,p a0 a1 a2) (k : ∀ a0 a1 a2,p a0 a1 a2->G) : G:=by
 obtain ⟨a0,a1,a2,q⟩:=h;exact k a0 a1 a2 q
theorem exE4 {A0 A1 A2 A3 : Type} {p : A0->A1->A2->A3->Prop} {G : Prop} (h : ∃ a0 a1 a2 a3,p a0 a1 a2 a3) (k : ∀ a0 a1 a2 a3,p a0 a1 a2 a3->G) : G:=by
 obtain ⟨a0,a1,a2,a3,q⟩:=h;exact k a0 a1 a2 a3 q
theorem exE5 {A0 A1 A2 A3 A4 : Type} {p : A0->A1->A2->A3->A4->Prop} {G : Prop} (h : ∃ a0 a1 a2 a3 a4,p a0 a1 a2 a3 a4) (k : ∀ a0 a1 a2 a3 a4,p a0 a1 a2 a3 a4->G) : G:=by
 obtain ⟨a0,a1,a2,a3,a4,q⟩:=h;exact k a0 a1 a2 a3 a4 q
theorem exE6 {A0 A1 A2 A3 A4 A5 : Type} {p : A0->A1->A2->A3->A4->A5->Prop} {G : Prop} (h : ∃ a0 a1 a2 a3 a4 a5,p a0 a1 a2 a3 a4 a5) (k : ∀ a0 a1 a2 a3 a4 a5,p a0 a1 a2 a3 a4 a5->G) : G:=by
 obtain ⟨a0,a1,a2,a3,a4,a5,q⟩:=h;exact k a0 a1 a2 a3 a4 a5 q
theorem exE7 {A0 A1 A2 A3 A4 A5 A6 : Type} {p : A0->A1->A2->A3->A4->A5->A6->Prop} {G : Prop} (h : ∃ a0 a1 a2 a3 a4 a5 a6,p a0 a1 a2 a3 a4 a5 a6) (k : ∀ a0 a1 a2 a3 a4 a5 a6,p a0 a1 a2 a3 a4 a5 a6->G) : G:=by
 obtain ⟨a0,a1,a2,a3,a4,a5,a6,q⟩:=h;exact k a0 a1 a2 a3 a4 a5 a6 q
theorem zd30 {A0 A1 A2 A3 A4 A5 A6 A7 A8 A9 A10 A11 : Type} {p : A0->A1->A2->A3->A4->A5->A6->A7->A8->A9->A10->A11->Prop} {G : Prop} (h : ∃ a0 a1 a2 a3 a4 a5 a6 a7 a8 a9 a10 a11,p a0 a1 a2 a3 a4 a5 a6 a7 a8 a9 a10 a11) (k : ∀ a0 a1 a2 a3 a4 a5 a6 a7 a8 a9 a10 a11,p a0 a1 a2 a3 a4 a5 a6 a7 a8 a9 a10 a11->G) : G:=by
 obtain ⟨a0,a1,a2,a3,a4,a5,a6,a7,a8,a9,a10,a11,q⟩:=h;exact k a0 a1 a2 a3 a4 a5 a6 a7 a8 a9 a10 a11 q
theorem za0 {p : Prop} (h : (p->False)->False) : p:=Classical.byContradiction h
namespace L2
open PySem PySem.Spec PyProof.Rows
abbrev Key:=Sum Int Str
def zJ6 : Key->Value->Bool
 | .inl k,v=>Value.isInt k v
 | .inr x,v=>Value.isStrOf x v
def keyH (w : World) : Key->Int
 | .inl k=>hashInt k
 | .inr x=>hashStr w x
theorem zd5 : ∀ {k : Key} {v : Value},zJ6 k v = true->(∃ i t,k = Sum.inl i /\ v = Value.int i t) \/ (∃ x t,k = xy3 x /\ v = Value.str x t)
 | .inl i,v,h=>by
  obtain ⟨t,e⟩:=Value.isInt_shape (k:=i) (v:=v) h;exact .inl ⟨i,t,rfl,e⟩
 | .inr x,v,h=>by
  obtain ⟨t,e⟩:=wy3 (x:=x) (v:=v) h;exact .inr ⟨x,t,rfl,e⟩
theorem zX8 (i : Int) (t : Tok) : zJ6 (.inl i) (.int i t) = true:=by simp [zJ6,Value.isInt]
theorem zX9 (x : Str) (t : Tok) : zJ6 (.inr x) (.str x t) = true:=by simp [zJ6,Value.isStrOf]
theorem zd31 (a b : Int) : decide ((Sum.inl a : Key) = Sum.inl b) = (a == b):=by
 by_cases e : a = b
 ·subst e; simp
 ·have h : ¬ (Sum.inl a : Key) = Sum.inl b:=fun q=>e (Sum.inl.inj q);rw [decide_eq_false h];exact (beq_eq_false_iff_ne.mpr e).symm
theorem zd32 (a b : Str) : decide ((xy3 a : Key) = xy3 b) = decide (a = b):=by
 by_cases e : a = b
 ·subst e; simp
 ·have h : ¬ (xy3 a : Key) = xy3 b:=fun q=>e (ty7 q);rw [decide_eq_false h,decide_eq_false e]
theorem zd33 (a : Int) (b : Str) : decide ((Sum.inl a : Key) = xy3 b) = false:=decide_eq_false (fun q=>nomatch q)
theorem zd34 (a : Str) (b : Int) : decide ((xy3 a : Key) = Sum.inl b) = false:=decide_eq_false (fun q=>nomatch q)
def zc5 (prog : cy7) (w : World) : PySem.KeyKind prog w Key where
 is:=zJ6
 hash:=keyH w
 inj:=fun v a b ha hb=>by
  rcases zd5 ha with ⟨i,t,rfl,rfl⟩ | ⟨x,t,rfl,rfl⟩
  ·rcases zd5 hb with ⟨j,u,rfl,e⟩ | ⟨y,u,rfl,e⟩
   ·injection e with e1 _; rw [e1]
   ·exact nomatch e
  ·rcases zd5 hb with ⟨j,u,rfl,e⟩ | ⟨y,u,rfl,e⟩
   ·exact nomatch e
   ·injection e with e1 _; rw [e1]
 byValue:=fun k v h=>by
  rcases zd5 h with ⟨i,t,rfl,rfl⟩ | ⟨x,t,rfl,rfl⟩ <;> rfl
 pyHash:=fun hv h=>by
  rcases zd5 hv with ⟨i,t,rfl,rfl⟩ | ⟨x,t,rfl,rfl⟩
  ·exact wpAny_pyHash_int h
  ·exact wpAny_pyHash_str h
 eqBool:=fun hu hv h=>by
  rcases zd5 hu with ⟨i,t,rfl,rfl⟩ | ⟨x,t,rfl,rfl⟩
  ·rcases zd5 hv with ⟨j,u,rfl,rfl⟩ | ⟨y,u,rfl,rfl⟩
   ·rw [zd31] at h; exact wpAny_eqBool_int h
   ·rw [zd33] at h; exact SeqAt.EqAt.int_str i t y u _ _ _ _ h
  ·rcases zd5 hv with ⟨j,u,rfl,rfl⟩ | ⟨y,u,rfl,rfl⟩
   ·rw [zd34] at h; exact SeqAt.EqAt.str_int x t j u _ _ _ _ h
   ·rw [zd32] at h; exact py5 h
 «strs»:=fun k x t v h=>by
  rcases zd5 h with ⟨i,u,rfl,e⟩ | ⟨y,u,rfl,e⟩
  ·exact nomatch e
  ·injection e with e1 _
   subst e1;cases v <;> rfl
theorem zJ7 (prog : cy7) (w : World) (i : Int) (t : Tok) : (zc5 prog w).is (.inl i) (.int i t) = true:=zX8 i t
theorem zu5 (prog : cy7) (w : World) (x : Str) (t : Tok) : (zc5 prog w).is (.inr x) (.str x t) = true:=zX9 x t
inductive V where
 | non | bl (b : Bool) | int (i : Int) | str (x : Str) | byt (b : Array UInt8) | flt (b : UInt64) | ref (a : Addr) | ty (n : String)
 deriving DecidableEq
def RelV : V->Value->Prop
 | .non,u=>u = dy6
 | .bl b,u=>u = Value.bool b
 | .int i,u=>∃ t,u = Value.int i t
 | .str x,u=>∃ t,u = Value.str x t
 | .byt b,u=>∃ t,u = Value.bytes b t
 | .flt b,u=>∃ t,u = Value.float b t
 | .ref a,u=>u = cy9 a
 | .ty n,u=>u = py6 n
abbrev Vals : List V->List Value->Prop:=Paired RelV
theorem Vals.length {xs : List V} {us : List Value} (r : Vals xs us) : xs.length = us.length:=Paired.length r
theorem Vals.get : ∀ {xs : List V} {us : List Value} {i : Nat} {x : V},Vals xs us->xs[i]? = some x->∃ u,us[i]? = some u /\ RelV x u
 | _,_,_,_,.nil,e=>by simp at e
 | _,_,0,_,.cons r _,e=>by simp at e; subst e; exact ⟨_,rfl,r⟩
 | _,_,i + 1,x,.cons _ t,e=>by
  refine za0 fun gG=>?_;obtain ⟨u,h1,h2⟩:=Vals.get (i:=i) (x:=x) t (by simpa using e);refine gG ?_;clear gG;exact ⟨u,by simpa using h1,h2⟩
theorem Vals.set {x : V} {u : Value} (r : RelV x u) : ∀ {xs : List V} {us : List Value} (i : Nat),Vals xs us->Vals (xs.set i x) (us.set i u)
 | _,_,_,.nil=>.nil
 | _,_,0,.cons _ t=>.cons r t
 | _,_,i + 1,.cons q t=>.cons q (Vals.set r i t)
theorem Vals.append {xs ys : List V} {us ws : List Value} (h : Vals xs us) (s : Vals ys ws) : Vals (xs++ys) (us++ws):=by
 induction h with
 | nil=>exact s
 | cons r t ih=>exact .cons r ih
theorem Vals.take : ∀ {xs : List V} {us : List Value} (n : Nat),Vals xs us->Vals (xs.take n) (us.take n)
 | _,_,0,_=>.nil
 | _,_,_ + 1,.nil=>.nil
 | _,_,n + 1,.cons r t=>.cons r (Vals.take n t)
theorem Vals.drop : ∀ {xs : List V} {us : List Value} (n : Nat),Vals xs us->Vals (xs.drop n) (us.drop n)
 | _,_,0,r=>r
 | _,_,_ + 1,.nil=>.nil
 | _,_,n + 1,.cons _ t=>Vals.drop n t
def zA1 : Option V->Option Value->Prop
 | some v,some u=>RelV v u
 | none,none=>True
 | _,_=>False
def KV {κ : Type} : List (κ × V)->List (κ × Value)->Prop:=Paired fun (p : κ × V) (q : κ × Value)=>p.1 = q.1 /\ RelV p.2 q.2
def kV : Key->V
 | .inl i=>.int i
 | .inr x=>.str x
inductive HO where
 | lst (xs : List V)
 | tup (xs : List V)
 | dK (kvs : List (Key × V)) | dT (kvs : List (List Key × V))
 | set (S : Int->Bool) (n : Nat)
 | ins (C dx : Addr) (fs : List (Str × V))
 | own (x : Addr)
 | xd (fs : List (Str × V))
 | met (f x : Addr)
 | rng (lo hi : Int)
 | frz (o : Obj) (u : HO)
 | tbl (ps : Array Value)
 | ext (φ : Heap->Prop)
abbrev Hp:=Addr->Option HO
def upd (H : Hp) (a : Addr) (o : HO) : Hp:=fun b=>if b = a then some o else H b
theorem zb5 {H : Hp} {a : Addr} {o : HO} : upd H a o a = some o:=by unfold upd; rw [if_pos rfl]
theorem za8 {H : Hp} {a b : Addr} {o : HO} (h : b ≠ a) : upd H a o b = H b:=by unfold upd; rw [if_neg h]
theorem zJ8 {H : Hp} {a b : Addr} {o u : HO} (h : H a = some o) (h' : H b = some u) (d : o ≠ u) : a ≠ b:=by
 intro e; subst e; rw [h] at h'; exact d (jy1 h')
theorem za5 {H : Hp} {a b : Addr} {o : HO} (h : H a = some o) (h' : H b = none) : a ≠ b:=by
 intro e; subst e; rw [h] at h'; cases h'
section
variable (P : cy7) (w : World)
def zc1 (H : Hp) (h : Heap) (a : Addr) : HO->Prop
 | .lst xs=>xs.length <= by3 /\ ∃ (its : List Value) (n : Nat),Vals xs its /\ h.get? a = some { cls:=.type "list",data:=.seq its.toArray n }
 | .tup xs=>xs.length <= by3 /\ ∃ its : List Value,Vals xs its /\ IsTup h a its.toArray
 | .dK kvs=>kvs.length <= by3 /\ (a == ky7) = false /\ ∃ vs,KV kvs vs /\ h.DictOf (zc5 P w) a vs
 | .dT kvs=>kvs.length <= by3 /\ (a == ky7) = false /\ ∃ xs : List (List Key × Addr × Value),
   Paired (fun (p : List Key × V) (q : List Key × Addr × Value)=>p.1 = q.1 /\ H q.2.1 = some (.tup (p.1.map kV)) /\ RelV p.2 q.2.2) kvs xs /\
   ∃ o es ep,h.get? a = some o /\ o.ExactDict /\ o.data = .dict es ep /\ es.toList = xs.map (entryOfKey (tupleKind (zc5 P w))) /\ (xs.map (·.1)).Nodup
 | .set S n=>h.SetOf (intKind P w) a S n
 | .ins C dx fs=>H dx = some (.own a) /\ fs.length <= 1000 /\ dx ≠ a /\ h.get? a = some (PySem.W.instObj C dx) /\
   ∃ mA,h.Ns1 dx mA /\ (∀ f,zA1 (fs.lookup f) (mA f)) /\ PySem.Within mA (fs.map (·.1))
 | .own _=>∃ o,h.get? a = some o
 | .xd fs=>∃ mA,h.Ns1 a mA /\ ∀ f,zA1 (fs.lookup f) (mA f)
 | .rng lo hi=>∃ t u v,h.get? a = some { cls:=.type "range",data:=.fields #[.int lo t,.int hi u,.int 1 v] }
 | .frz o u=>h.get? a = some o /\ zc1 H h a u
 | .tbl ps=>h.get? a = some { cls:=.none,data:=.fields ps }
 | .met f x=>h.get? a = some (PySem.W.methodObj (.ref f) (.ref x))
 | .ext φ=>φ h /\ (∃ o,h.get? a = some o) /\ ∀ h1 h2 : Heap,φ h1->(∀ o,h1.get? a = some o->h2.get? a = some o)->φ h2
def HOk (H : Hp) (h : Heap) : Prop:=∀ a o,H a = some o->zc1 P w H h a o
end
section
variable {P : cy7} {w : World} {H H' : Hp} {h h' : Heap} {a : Addr} {o : HO}
theorem zc1.lt (x : zc1 P w H h a o) : a < h.objs.size:=by
 cases o with
 | lst xs=>obtain ⟨_,_,_,_,e⟩:=x; exact by2 e
 | tup xs=>obtain ⟨_,_,_,p⟩:=x; exact p.lt
 | dK kvs=>obtain ⟨_,_,_,_,o,_,_,e,_⟩:=x; exact by2 e
 | dT kvs=>obtain ⟨_,_,_,_,o,_,_,e,_⟩:=x; exact by2 e
 | set S n=>obtain ⟨o,_,_,_,e,_⟩:=x; exact by2 e
 | ins C dx fs=>obtain ⟨_,_,_,e,_⟩:=x; exact by2 e
 | own y=>obtain ⟨_,e⟩:=x; exact by2 e
 | xd fs=>obtain ⟨_,⟨_,_,_,e,_⟩,_⟩:=x; exact by2 e
 | rng lo hi=>obtain ⟨_,_,_,e⟩:=x; exact by2 e
 | frz ob u=>obtain ⟨e,_⟩:=x; exact by2 e
 | tbl ps=>exact by2 (show h.get? a = some _ from x)
 | met f y=>exact by2 (show h.get? a = some _ from x)
 | ext φ=>obtain ⟨_,⟨_,e⟩,_⟩:=x; exact by2 e
theorem Paired.mapP {α β : Type} {F G : α->β->Prop} {l₁ : List α} {l₂ : List β} (p : Paired F l₁ l₂) (f : ∀ a b,F a b->G a b) : Paired G l₁ l₂:=by
 induction p with
 | nil=>exact .nil
 | cons a t ih=>exact .cons (f _ _ a) ih
theorem zc1.zS7 (x : zc1 P w H h a o) (k : ∀ b u,(b = a \/ H b = some (.own a))->h.get? b = some u->h'.get? b = some u)
  (ho : ∀ b,H b = some (.own a)->H' b = some (.own a)) (ht : ∀ b xs,H b = some (.tup xs)->H' b = some (.tup xs)) : zc1 P w H' h' a o:=by
 induction o with
 | lst xs=>obtain ⟨z,its,n,r,e⟩:=x; exact ⟨z,its,n,r,k _ _ (.inl rfl) e⟩
 | tup xs=>obtain ⟨z,its,r,ob,e,c⟩:=x; exact ⟨z,its,r,ob,k _ _ (.inl rfl) e,c⟩
 | dK kvs=>obtain ⟨z,y,vs,r,ob,es,ep,e,c⟩:=x; exact ⟨z,y,vs,r,ob,es,ep,k _ _ (.inl rfl) e,c⟩
 | dT kvs =>
  refine za0 fun gG=>?_;obtain ⟨z,y,xs,r,ob,es,ep,e,c⟩:=x;refine gG ?_;clear gG;exact ⟨z,y,xs,Paired.mapP r fun p q z=>⟨z.1,ht _ _ z.2.1,z.2.2⟩,ob,es,ep,k _ _ (.inl rfl) e,c⟩
 | set S n=>obtain ⟨ob,es,ep,t,e,c⟩:=x; exact ⟨ob,es,ep,t,k _ _ (.inl rfl) e,c⟩
 | ins C dx fs =>
  refine za0 fun gG=>?_;obtain ⟨d,z,ne,e,mA,⟨od,es,ep,e2,c⟩,r⟩:=x;refine gG ?_;clear gG;exact ⟨ho _ d,z,ne,k _ _ (.inl rfl) e,mA,⟨od,es,ep,k _ _ (.inr d) e2,c⟩,r⟩
 | own y=>obtain ⟨ob,e⟩:=x; exact ⟨ob,k _ _ (.inl rfl) e⟩
 | xd fs=>obtain ⟨mA,⟨od,es,ep,e,c⟩,r⟩:=x; exact ⟨mA,⟨od,es,ep,k _ _ (.inl rfl) e,c⟩,r⟩
 | rng lo hi=>obtain ⟨t,u,v,e⟩:=x; exact ⟨t,u,v,k _ _ (.inl rfl) e⟩
 | frz ob u ih=>obtain ⟨e,q⟩:=x; exact ⟨k _ _ (.inl rfl) e,ih q⟩
 | tbl ps =>
  have e : h.get? a = some { cls:=.none,data:=.fields ps }:=x;show h'.get? a = some { cls:=.none,data:=.fields ps };exact k a _ (.inl rfl) e
 | met f y =>
  have e : h.get? a = some (PySem.W.methodObj (.ref f) (.ref y)):=x;show h'.get? a = some (PySem.W.methodObj (.ref f) (.ref y));exact k a _ (.inl rfl) e
 | ext φ=>obtain ⟨p,⟨o,e⟩,st⟩:=x; exact ⟨st _ _ p fun o q=>k _ _ (.inl rfl) q,⟨o,k _ _ (.inl rfl) e⟩,st⟩
theorem HOk.lt (x : HOk P w H h) (e : H a = some o) : a < h.objs.size:=(x a o e).lt
theorem HOk.fresh (x : HOk P w H h) (e : h.objs.size <= a) : H a = none:=by
 cases q : H a with
 | none=>rfl
 | some u=>exact absurd (by6 (x.lt q) e) (ny1 _)
theorem HOk.kept (x : HOk P w H h) (k : ∀ b u,h.get? b = some u->h'.get? b = some u) : HOk P w H h':=fun a o e =>
 (x a o e).zS7 (fun b u _ q=>k b u q) (fun _ q=>q) fun _ _ q=>q
theorem HOk.laid (x : HOk P w H h) (k : ∀ b u,h.get? b = some u->h'.get? b = some u) (hp : h.objs.size <= a) (new : zc1 P w (upd H a o) h' a o) : HOk P w (upd H a o) h':=fun b u e=>by
 have hn:=x.fresh hp
 by_cases hb : b = a
 ·subst hb; rw [zb5] at e; cases e; exact new
 ·rw [za8 hb] at e;exact (x b u e).zS7 (fun c v _ q=>k c v q) (fun c q=>by rw [za8 (za5 q hn)]; exact q) fun c xs q=>by rw [za8 (za5 q hn)]; exact q
end
def Rd (H : Hp) (a : Addr) (u : HO) : Prop:=H a = some u \/ ∃ o,H a = some (.frz o u)
theorem Rd.ok {P : cy7} {w : World} {H : Hp} {h : Heap} {a : Addr} {u : HO} (r : Rd H a u) (x : HOk P w H h) : zc1 P w H h a u:=by
 rcases r with r | ⟨o,r⟩
 ·exact x a u r
 ·obtain ⟨_,q⟩:=x a _ r;exact q
def Mut : Option HO->Prop
 | some (.lst _)=>True
 | some (.dK _)=>True
 | some (.dT _)=>True
 | some (.set _ _)=>True
 | some (.ins _ _ _)=>True
 | some (.ext _)=>True
 | _=>False
section
variable {P : cy7} {w : World} {H : Hp} {h h' : Heap} {x e : Addr} {o' : HO}
theorem HOk.write (ok : HOk P w H h) (mu : Mut (H x)) (he : e = x \/ H e = some (.own x)) (k : ∀ b u,b ≠ e->h.get? b = some u->h'.get? b = some u) (heo : ∃ u,h'.get? e = some u)
  (new : zc1 P w (upd H x o') h' x o') : HOk P w (upd H x o') h':=fun b u q=>by
 have nown : ∀ c y,H c = some (.own y)->c ≠ x:=fun c y r z=>by subst z; rw [r] at mu; exact mu
 have ntup : ∀ c xs,H c = some (.tup xs)->c ≠ x:=fun c xs r z=>by subst z; rw [r] at mu; exact mu
 by_cases hb : b = x
 ·subst hb; rw [zb5] at q; cases q; exact new
 ·rw [za8 hb] at q
  by_cases hbe : b = e
  ·have q' : H b = some (.own x):=by
    rcases he with z | z
    ·exact absurd (hbe.trans z) hb
    ·rw [hbe]; exact z
   rw [q] at q'; cases q';obtain ⟨v,hv⟩:=heo;exact ⟨v,by rw [hbe]; exact hv⟩
  ·refine (ok b u q).zS7 (fun c v hc r=>k c v ?_ r) (fun c r=>by rw [za8 (nown c b r)]; exact r) fun c xs r=>by rw [za8 (ntup c xs r)]; exact r
   rcases hc with rfl | hc
   ·exact hbe
   ·rintro rfl;rcases he with z | z
    ·exact nown c b hc z
    ·rw [hc] at z; cases z; exact hb rfl
end
structure Un (fs ex : List Addr) (H H' : Hp) (h h' : Heap) : Prop where
 keep : ∀ b o,h.get? b = some o->H b = none->b ∉ fs->b ∉ ex->h'.get? b = some o
 slot : ∀ b o,h.get? b = some o->H b = none->b∈fs->b ∉ ex->∃ sl,h'.get? b = some { o with slots:=sl }
 free : ∀ b o,h.get? b = some o->H b = none->b ∉ ex->H' b = none
 there : ∀ b o,h.get? b = some o->b ∉ ex->∃ o',h'.get? b = some o'
 tups : ∀ b xs,H b = some (.tup xs)->H' b = some (.tup xs)
 frzs : ∀ b o u,H b = some (.frz o u)->H' b = some (.frz o u)
 tbls : ∀ b ps,H b = some (.tbl ps)->∃ more,H' b = some (.tbl (ps++more))
section
variable {fs fs' ex ex' : List Addr} {H H1 H2 : Hp} {h h1 h2 h' : Heap} {a x e : Addr} {o : HO}
theorem Un.any (u : Un fs ex H H1 h h1) {b : Addr} {ob : Obj} (q : h.get? b = some ob) (n : H b = none) (hx : b ∉ ex) : ∃ sl,h1.get? b = some { ob with slots:=sl }:=by
 by_cases hb : b∈fs
 ·exact u.slot b ob q n hb hx
 ·exact ⟨ob.slots,u.keep b ob q n hb hx⟩
theorem Un.kept (k : ∀ b u,h.get? b = some u->h'.get? b = some u) : Un fs ex H H h h' :=
 ⟨fun b ob q _ _ _=>k b ob q,fun b ob q _ _ _=>⟨ob.slots,k b ob q⟩,fun _ _ _ n _=>n,fun b ob q _=>⟨ob,k b ob q⟩,fun _ _ q=>q,fun _ _ _ q=>q,fun _ ps q=>⟨#[],by rw [q]; simp⟩⟩
theorem Un.refl : Un fs ex H H h h:=Un.kept fun _ _ q=>q
theorem Un.laid (k : ∀ b u,h.get? b = some u->h'.get? b = some u) (hp : h.objs.size <= a) (hn : H a = none) : Un fs ex H (upd H a o) h h' where
 keep:=fun b u q _ _ _=>k b u q
 slot:=fun b u q _ _ _=>⟨u.slots,k b u q⟩
 free:=fun b u q n _=>by rw [za8 (by8 (by6 (by2 q) hp))]; exact n
 there:=fun b u q _=>⟨u,k b u q⟩
 tups:=fun b xs q=>by rw [za8 (za5 q hn)]; exact q
 frzs:=fun b u xs q=>by rw [za8 (za5 q hn)]; exact q
 tbls:=fun b ps q=>⟨#[],by rw [za8 (za5 q hn),q]; simp⟩
theorem Un.write (mu : Mut (H x)) (he : e = x \/ H e = some (.own x)) (k : ∀ b u,b ≠ e->h.get? b = some u->h'.get? b = some u) (heo : ∃ u,h'.get? e = some u) : Un fs ex H (upd H x o) h h':=by
 have hx : ∀ b,H b = none->b ≠ x:=fun b n z=>by subst z; rw [n] at mu; exact mu
 have hb : ∀ b,H b = none->b ≠ e:=fun b n z=>by
  subst z;rcases he with r | r
  ·exact hx b n r
  ·rw [n] at r; cases r
 have hm : ∀ b u,H b = some u->¬ Mut (some u)->b ≠ x:=fun b u q nm z=>by subst z; rw [q] at mu; exact nm mu
 refine ⟨fun b u q n _ _=>k b u (hb b n) q,fun b u q n _ _=>⟨u.slots,k b u (hb b n) q⟩,fun b u q n _=>by rw [za8 (hx b n)]; exact n,fun b u q _=>?_,
  fun b xs q=>by rw [za8 (hm b _ q fun z=>z)]; exact q,fun b u xs q=>by rw [za8 (hm b _ q fun z=>z)]; exact q,fun b ps q=>⟨#[],by rw [za8 (hm b _ q fun z=>z),q]; simp⟩⟩
 by_cases hbe : b = e
 ·subst hbe; exact heo
 ·exact ⟨u,k b u hbe q⟩
end
def trk (h : Heap) (H : Hp) : List Addr:=(jy9 h.objs.size).filter fun a=>(H a).isSome
def hidT (h : Heap) (H : Hp) : Heap:=PySem.W.hideAll h (trk h H)
theorem zY0 (h : Heap) (H : Hp) : (hidT h H).objs.size = h.objs.size:=PySem.W.hideAll_size _ _
theorem zb12 {h : Heap} {H : Hp} {b : Addr} {o : Obj} (e : h.get? b = some o) (n : H b = none) : (hidT h H).get? b = some o :=
 PySem.W.hideAll_get _ e fun hm=>by
  have q : (H b).isSome = true:=(gy4.mp hm).2;rw [n] at q; simp at q
theorem zc35 {h : Heap} {H : Hp} {b : Addr} {o : Obj} (e : (hidT h H).get? b = some o) : h.get? b = some o /\ H b = none:=by
 have e' : h.get? b = some o:=PySem.W.of_hideAll (trk h H) e;refine ⟨e',?_⟩;cases q : H b with
 | none=>rfl
 | some x =>
  have hm : b∈trk h H:=gy4.mpr ⟨List.mem_range.mpr (by2 e'),by simp [q]⟩;have z : (hidT h H).get? b = none:=PySem.W.hideAll_none (trk h H) hm;rw [z] at e; cases e
structure Mod (K : ay5) (mg : Str->Option Value) (base : Heap) : Prop where
 kin : K.In base
 glob : base.Ns cy0 mg
 blt : ∃ mb,base.Ns builtinsNs mb /\ ∀ x : Str,x ≠ "__name__" -> mb x = fy0 x
 nolimit : base.NoLimit
structure Cx where
 prog : cy7
 w : World
 K : ay5
 mg : Str->Option Value
 base : Heap
 A : Around
 N : List Str
 s₀ : Shared
 H₀ : Hp
 env : Env
 outer : List Env
 stack : List Env
 ex : List Addr
 fn : Str->Bool
 calm : Bool
 pn : List (Addr × Obj)
 xe : Value->Shared->Prop
def frs (l : List Env) : List Addr:=l.filterMap (·.frame)
abbrev Cx.fs (X : Cx) : List Addr:=frs X.outer
def Vis (sc : Scope) (x : Str) : Prop:=sc.names.lookup x = some .local \/ sc.names.lookup x = some .cell \/ sc.names.lookup x = some .free
def Loc (sc : Scope) (x : Str) : Prop:=sc.names.lookup x = some .local \/ sc.names.lookup x = some .cell
def Look (env : Env) (h : Heap) (m : Str->Option Value) (x : Str) (u : Value) : Prop :=
 (env.kindOf x = some .local /\ m x = some u) \/ ((env.kindOf x = some .cell \/ env.kindOf x = some .free) /\ ∃ c,env.cells.lookup x = some c /\ h.IsCell c (some u))
structure Cx.Ok (X : Cx) : Prop where
 mod : Mod X.K X.mg X.base
 kind : X.env.scope.kind = .function
 glob : X.env.globals = cy0
 blt : X.env.builtins = builtinsNs
 above : X.s₀.heap.objs.size <= X.env.locals
 inj : ∀ x y c,X.env.cells.lookup x = some c->X.env.cells.lookup y = some c->x = y
 has : ∀ x,(X.env.kindOf x = some .cell \/ X.env.kindOf x = some .free)->∃ c,X.env.cells.lookup x = some c
 cab : ∀ x c,X.fn x = true->X.env.cells.lookup x = some c->X.s₀.heap.objs.size <= c
 hd : X.calm = true->X.A.handled = none
 frames : X.A.frames = some X.stack
 stk : X.stack = X.outer \/ (X.stack = X.env :: X.outer /\ X.env.frame = some X.env.locals)
 exf : ∀ b∈X.ex,b ≠ X.env.locals /\ ∀ x c,X.env.cells.lookup x = some c->c ≠ b
 bs : ∀ b o,X.base.get? b = some o->X.s₀.heap.get? b = some o /\ X.H₀ b = none
 bsz : X.base.objs.size <= X.s₀.heap.objs.size
 noex : ∀ b o,X.base.get? b = some o->b ∉ X.ex
 exfs : ∀ b∈X.ex,b ∉ X.fs
 zS8 : X.s₀.heap.FunFrames X.base X.outer
 frf : ∀ b∈X.fs,X.H₀ b = none
structure Inv (X : Cx) (pins : List (Addr × Obj)) (σ : List (Option V)) (H : Hp) (s : Shared) : Prop where
 ok : X.Ok
 os : s.os = X.s₀.os
 bare : AllBare s.gens
 base : Un X.fs X.ex X.H₀ H X.s₀.heap s.heap
 loc : ∃ m,s.heap.Ns X.env.locals m /\ ∀ (i : Nat) (x : Str) (v : V),X.N[i]? = some x->σ[i]? = some (some v)->Vis X.env.scope x->∃ u,RelV v u /\ Look X.env s.heap m x u
 cell : ∀ x c,X.env.cells.lookup x = some c->∃ v,s.heap.IsCell c v
 free : H X.env.locals = none
 freeC : ∀ x c,X.env.cells.lookup x = some c->H c = none
 pin : ∀ p∈X.pn++pins,s.heap.get? p.1 = some p.2 /\ H p.1 = none /\ p.1 ≠ X.env.locals /\ p.1 ∉ X.fs /\ ∀ v,p.2.data ≠ .cell v
 hok : HOk X.prog X.w H s.heap
 len : σ.length = X.N.length
section
variable {X : Cx} {pins : List (Addr × Obj)} {σ : List (Option V)} {H H' : Hp} {s : Shared} {h' : Heap}
theorem Cx.Ok.nofr (ok : X.Ok) {b : Addr} {o : Obj} (e : X.base.get? b = some o) : b ∉ X.fs:=fun hb=>by
 have:=(ok.zS8.mem hb).1;rw [e] at this; cases this
theorem Inv.bs (I : Inv X pins σ H s) : ∀ b o,X.base.get? b = some o->s.heap.get? b = some o /\ H b = none:=fun b o e =>
 ⟨I.base.keep b o (I.ok.bs b o e).1 (I.ok.bs b o e).2 (I.ok.nofr e) (I.ok.noex b o e),I.base.free b o (I.ok.bs b o e).1 (I.ok.bs b o e).2 (I.ok.noex b o e)⟩
theorem Inv.bk (I : Inv X pins σ H s) : ∀ b o,X.base.get? b = some o->s.heap.get? b = some o:=fun b o e=>(I.bs b o e).1
theorem Inv.mod (I : Inv X pins σ H s) : Mod X.K X.mg X.base:=I.ok.mod
theorem Inv.kIn (I : Inv X pins σ H s) : X.K.In s.heap:=I.ok.mod.kin.keeps I.bk
theorem Inv.fr (I : Inv X pins σ H s) : ∃ m,Fr X.base X.env.locals s.heap m :=
 let ⟨m,hn,_⟩:=I.loc
 ⟨m,hn,I.bk,ey1 I.ok.bsz I.ok.above⟩
theorem Inv.lt (I : Inv X pins σ H s) : X.env.locals < s.heap.objs.size:=let ⟨_,hn,_⟩:=I.loc; hn.lt
theorem Inv.sz (I : Inv X pins σ H s) : X.s₀.heap.objs.size <= s.heap.objs.size:=ey1 I.ok.above (ky8 I.lt)
theorem Inv.nofs (I : Inv X pins σ H s) {a : Addr} (h : s.heap.objs.size <= a) : a ∉ X.fs:=fun hb=>by
 refine za0 fun gG=>?_;obtain ⟨_,o,ho,_⟩:=I.ok.zS8.mem hb;refine gG ?_;clear gG;exact absurd (by6 (by2 ho) (ey1 I.sz h)) (ny1 _)
theorem Inv.cne (I : Inv X pins σ H s) : ∀ x c,X.env.cells.lookup x = some c->c ≠ X.env.locals:=fun x c e z=>by
 refine za0 fun gG=>?_;obtain ⟨v,o,ho,hd⟩:=I.cell x c e;obtain ⟨m,⟨o',es,ep,ho',hd',_⟩,_⟩:=I.loc;refine gG ?_;clear gG;rw [z,ho'] at ho; cases ho; rw [hd'] at hd; cases hd
theorem Inv.zS8 (I : Inv X pins σ H s) : s.heap.FunFrames X.base X.outer:=by
 have all : ∀ (l : List Env),(∀ b∈frs l,b∈X.fs)->X.s₀.heap.FunFrames X.base l->s.heap.FunFrames X.base l:=by
  intro l
  induction l with
  | nil=>intro _ _; trivial
  | cons env r ih =>
   intro hs hl;refine za0 fun gG=>?_;obtain ⟨hk,⟨L,o,hf,hn,ho,hd⟩,hr⟩:=hl;refine gG ?_;clear gG;have hL : L∈X.fs:=hs L (by unfold frs; rw [List.filterMap_cons,hf]; exact ay9);obtain ⟨sl,e⟩:=I.base.slot L o ho (I.ok.frf L hL) hL fun z=>I.ok.exfs L z hL;exact ⟨hk,⟨L,_,hf,hn,e,hd⟩,ih (fun b hb=>hs b (by unfold frs; rw [List.filterMap_cons,hf]; exact by0 _ hb)) hr⟩
 exact all X.outer (fun _ hb=>hb) I.ok.zS8
theorem Inv.stack (I : Inv X pins σ H s) : s.heap.FunFrames X.base X.stack:=by
 rcases I.ok.stk with e | ⟨e,hf⟩
 ·rw [e]; exact I.zS8
 ·rw [e];refine za0 fun gG=>?_;obtain ⟨m,hn,_⟩:=I.loc;refine gG ?_;clear gG;refine .cons (by rw [I.ok.kind]; decide) hf hn ?_ I.zS8;exact Heap.get?_none_of_le (ey1 I.ok.bsz I.ok.above)
theorem Inv.zY1 (I : Inv X pins σ H s) : ∀ b∈frs X.stack,b∈X.env.locals :: X.fs:=fun b hb=>by
 rcases I.ok.stk with e | ⟨e,hf⟩
 ·rw [e] at hb; exact by0 _ hb
 ·rw [e] at hb;unfold frs at hb;rw [List.filterMap_cons,hf] at hb;exact hb
theorem Inv.zY2 (I : Inv X pins σ H s) : ∀ b∈frs X.stack,H b = none:=fun b hb=>by
 rcases by7.mp (I.zY1 b hb) with e | hb
 ·rw [e]; exact I.free
 ·refine za0 fun gG=>?_;obtain ⟨_,o,ho,_⟩:=I.ok.zS8.mem hb;refine gG ?_;clear gG;exact I.base.free b o ho (I.ok.frf b hb) fun z=>I.ok.exfs b z hb
theorem Inv.step {g' : Array GenState} {t' : Nat} {d' : Drawn} {ch : List Addr} (I : Inv X pins σ H s)
  (hch : ∀ b∈ch,(b∈X.ex \/ X.s₀.heap.objs.size <= b) /\ b ≠ X.env.locals /\ (∀ x c,X.env.cells.lookup x = some c->c ≠ b) /\ ∀ p∈X.pn++pins,p.1 ≠ b)
  (keep : ∀ b o,b ≠ X.env.locals->b ∉ X.fs->b ∉ ch->s.heap.get? b = some o->H b = none->h'.get? b = some o)
  (slot : ∀ b o,b ≠ X.env.locals->b∈X.fs->b ∉ ch->s.heap.get? b = some o->H b = none->∃ sl,h'.get? b = some { o with slots:=sl }) (free : ∀ b o,b ∉ ch->s.heap.get? b = some o->H b = none->H' b = none)
  (there : ∀ b o,b ∉ ch->s.heap.get? b = some o->∃ o',h'.get? b = some o')
  (tups : ∀ b xs,H b = some (.tup xs)->H' b = some (.tup xs)) (frzs : ∀ b o u,H b = some (.frz o u)->H' b = some (.frz o u)) (tbls : ∀ b ps,H b = some (.tbl ps)->∃ more,H' b = some (.tbl (ps++more)))
  (ns : ∀ m,s.heap.Ns X.env.locals m->h'.Ns X.env.locals m) (hok : HOk X.prog X.w H' h') (hg : AllBare g') :
  Inv X pins σ H' { s with heap:=h',gens:=g',drawn:=d',toks:=t' }:=by
 have neL : ∀ b o,X.s₀.heap.get? b = some o->b ≠ X.env.locals:=fun b o e=>by8 (by6 (by2 e) I.ok.above)
 have neC : ∀ b o,X.s₀.heap.get? b = some o->b ∉ X.ex->b ∉ ch:=fun b o e hx hb=>by
  rcases (hch b hb).1 with z | z
  ·exact hx z
  ·exact absurd (by6 (by2 e) z) (ny1 _)
 have cellK : ∀ x c,X.env.cells.lookup x = some c->∀ v,s.heap.IsCell c v->h'.IsCell c v:=fun x c e v zR=>by
  refine za0 fun gG=>?_;obtain ⟨o,ho,hd⟩:=zR;refine gG ?_;clear gG;have nch : c ∉ ch:=fun z=>(hch c z).2.2.1 x c e rfl
  by_cases hc : c∈X.fs
  ·obtain ⟨sl,q⟩:=slot c o (I.cne x c e) hc nch ho (I.freeC x c e);exact ⟨_,q,hd⟩
  ·exact ⟨o,keep c o (I.cne x c e) hc nch ho (I.freeC x c e),hd⟩
 refine ⟨I.ok,I.os,hg,⟨fun b o e n hb hx=>?_,fun b o e n hb hx=>?_,fun b o e n hx=>?_,fun b o e hx=>?_,fun b xs e=>tups b xs (I.base.tups b xs e),fun b o xs e=>frzs b o xs (I.base.frzs b o xs e),fun b ps e=>?_⟩,?_,fun x c e=>?_,?_,fun x c e=>?_,fun p hp=>?_,hok,I.len⟩
 ·exact keep b o (neL b o e) hb (neC b o e hx) (I.base.keep b o e n hb hx) (I.base.free b o e n hx)
 ·refine za0 fun gG=>?_;obtain ⟨sl,e1⟩:=I.base.slot b o e n hb hx;obtain ⟨sl',e2⟩:=slot b _ (neL b o e) hb (neC b o e hx) e1 (I.base.free b o e n hx);refine gG ?_;clear gG;exact ⟨sl',e2⟩
 ·obtain ⟨o',e1⟩:=I.base.there b o e hx;exact free b o' (neC b o e hx) e1 (I.base.free b o e n hx)
 ·obtain ⟨o',e1⟩:=I.base.there b o e hx;exact there b o' (neC b o e hx) e1
 ·refine za0 fun gG=>?_;obtain ⟨m1,e1⟩:=I.base.tbls b ps e;obtain ⟨m2,e2⟩:=tbls b _ e1;refine gG ?_;clear gG;exact ⟨m1++m2,by rw [e2,Array.append_assoc]⟩
 ·refine za0 fun gG=>?_;obtain ⟨m,hn,hl⟩:=I.loc;refine gG ?_;clear gG;refine ⟨m,ns m hn,fun i x v e1 e2 e3=>?_⟩;refine za0 fun gG=>?_;obtain ⟨u,r,l⟩:=hl i x v e1 e2 e3;refine gG ?_;clear gG;refine ⟨u,r,?_⟩;rcases l with l | ⟨k,c,e,z⟩
  ·exact .inl l
  ·exact .inr ⟨k,c,e,cellK x c e _ z⟩
 ·obtain ⟨v,z⟩:=I.cell x c e;exact ⟨v,cellK x c e v z⟩
 ·refine za0 fun gG=>?_;obtain ⟨m,⟨o,_,_,ho,_⟩,_⟩:=I.loc;refine gG ?_;clear gG;exact free _ o (fun z=>(hch _ z).2.1 rfl) ho I.free
 ·refine za0 fun gG=>?_;obtain ⟨v,o,ho,hd⟩:=I.cell x c e;refine gG ?_;clear gG;exact free c o (fun z=>(hch c z).2.2.1 x c e rfl) ho (I.freeC x c e)
 ·refine za0 fun gG=>?_;obtain ⟨e,n,ne,nf,d⟩:=I.pin p hp;refine gG ?_;clear gG;have nch : p.1 ∉ ch:=fun z=>(hch p.1 z).2.2.2 p hp rfl;exact ⟨keep p.1 p.2 ne nf nch e n,free p.1 p.2 nch e n,ne,nf,d⟩
theorem Inv.un {t' : Nat} (I : Inv X pins σ H s) (u : Un X.fs [] H H' s.heap h') (hok : HOk X.prog X.w H' h') : Inv X pins σ H' { s with heap:=h',toks:=t' }:=by
 refine za0 fun gG=>?_;obtain ⟨m,⟨o,es,ep,ho,r⟩,_⟩:=id I.loc;obtain ⟨sl,hL⟩:=u.any ho I.free (by simp);refine gG ?_;clear gG
 exact I.step (g':=s.gens) (d':=s.drawn) (ch:=[]) (fun _ z=>nomatch z) (fun b o _ hb _ e n=>u.keep b o e n hb (by simp)) (fun b o _ hb _ e n=>u.slot b o e n hb (by simp)) (fun b o _ e n=>u.free b o e n (by simp)) (fun b o _ e=>u.there b o e (by simp)) u.tups u.frzs u.tbls (fun m' hm=>by
  refine za0 fun gG=>?_;obtain ⟨o',es',ep',ho',r'⟩:=hm;refine gG ?_;clear gG;rw [ho] at ho'; cases ho'
  exact ⟨_,es',ep',hL,r'⟩) hok I.bare
theorem Inv.call {g' : Array GenState} {t' : Nat} {d' : Drawn} {ch : List Addr} (I : Inv X pins σ H s) (u : Un (frs X.stack) ch H H' s.heap h') (hok : HOk X.prog X.w H' h') (hg : AllBare g')
  (hch : ∀ b∈ch,(b∈X.ex \/ X.s₀.heap.objs.size <= b) /\ b ≠ X.env.locals /\ (∀ x c,X.env.cells.lookup x = some c->c ≠ b) /\ ∀ p∈X.pn++pins,p.1 ≠ b) :
  Inv X pins σ H' { s with heap:=h',gens:=g',drawn:=d',toks:=t' }:=by
 refine za0 fun gG=>?_;obtain ⟨m,⟨o,es,ep,ho,r⟩,_⟩:=id I.loc;obtain ⟨sl,hL⟩:=u.any ho I.free fun z=>(hch _ z).2.1 rfl;refine gG ?_;clear gG
 exact I.step (ch:=ch) hch (fun b o hL hb hc e n=>u.keep b o e n (fun z=>(by7.mp (I.zY1 b z)).elim hL hb) hc) (fun b o _ _ hc e n=>u.any e n hc) (fun b o hc e n=>u.free b o e n hc) (fun b o hc e=>u.there b o e hc) u.tups u.frzs u.tbls (fun m' hm=>by
  refine za0 fun gG=>?_;obtain ⟨o',es',ep',ho',r'⟩:=hm;refine gG ?_;clear gG;rw [ho] at ho'; cases ho'
  exact ⟨_,es',ep',hL,r'⟩) hok hg
theorem Inv.turned {t' : Nat} {it : Addr} (I : Inv X pins σ H s) (k : ∀ b o,b ≠ it->s.heap.get? b = some o->h'.get? b = some o) (hn : H it = none) (hL : it ≠ X.env.locals)
  (h1 : it∈X.ex \/ X.s₀.heap.objs.size <= it) (h2 : ∀ x c,X.env.cells.lookup x = some c->c ≠ it) (h3 : ∀ p∈X.pn++pins,p.1 ≠ it) : Inv X pins σ H { s with heap:=h',toks:=t' }:=by
 have nit : ∀ b u,H b = some u->b ≠ it:=fun b u e z=>by rw [z,hn] at e; cases e
 refine I.step (g':=s.gens) (d':=s.drawn) (ch:=[it]) (fun b hb=>?_) (fun b o _ _ hc e _=>k b o (fun z=>hc (by simp [z])) e) (fun b o _ _ hc e _=>⟨o.slots,k b o (fun z=>hc (by simp [z])) e⟩) (fun _ _ _ _ n=>n)
  (fun b o hc e=>⟨o,k b o (fun z=>hc (by simp [z])) e⟩) (fun _ _ e=>e) (fun _ _ _ e=>e) (fun b ps e=>⟨#[],by rw [e]; simp⟩) (fun m hm=>?_) (fun b u e=>?_) I.bare
 ·have e : b = it:=by simpa using hb
  subst e;exact ⟨h1,hL,h2,h3⟩
 ·refine za0 fun gG=>?_;obtain ⟨o,es,ep,ho,r⟩:=hm;refine gG ?_;clear gG;exact ⟨o,es,ep,k _ o (fy2 hL) ho,r⟩
 ·refine (I.hok b u e).zS7 (fun c v hc q=>k c v ?_ q) (fun _ q=>q) fun _ _ q=>q;rcases hc with z | z
  ·rw [z]; exact nit b u e
  ·exact nit c _ z
theorem Inv.tok (I : Inv X pins σ H s) (t : Nat) : Inv X pins σ H { s with toks:=t }:=I.un (h':=s.heap) (t':=t) Un.refl I.hok
theorem Inv.kept {t' : Nat} (I : Inv X pins σ H s) (k : ∀ b u,s.heap.get? b = some u->h'.get? b = some u) : Inv X pins σ H { s with heap:=h',toks:=t' }:=I.un (Un.kept k) (I.hok.kept k)
theorem Inv.laid {a : Addr} {o : HO} {t' : Nat} (I : Inv X pins σ H s) (k : ∀ b u,s.heap.get? b = some u->h'.get? b = some u) (hp : s.heap.objs.size <= a) (new : zc1 X.prog X.w (upd H a o) h' a o) :
  Inv X pins σ (upd H a o) { s with heap:=h',toks:=t' }:=I.un (Un.laid k hp (I.hok.fresh hp)) (I.hok.laid k hp new)
theorem Inv.write {x e : Addr} {o : HO} {t' : Nat} (I : Inv X pins σ H s) (mu : Mut (H x)) (he : e = x \/ H e = some (.own x)) (k : ∀ b u,b ≠ e->s.heap.get? b = some u->h'.get? b = some u) (heo : ∃ u,h'.get? e = some u)
  (new : zc1 X.prog X.w (upd H x o) h' x o) : Inv X pins σ (upd H x o) { s with heap:=h',toks:=t' }:=I.un (Un.write mu he k heo) (I.hok.write mu he k heo new)
theorem Inv.weak {σ' : List (Option V)} (I : Inv X pins σ H s) (hl : σ'.length = σ.length) (w : ∀ (i : Nat) v,σ'[i]? = some (some v)->σ[i]? = some (some v)) : Inv X pins σ' H s :=
 ⟨I.ok,I.os,I.bare,I.base,let ⟨m,hn,hl'⟩:=I.loc; ⟨m,hn,fun i x v e1 e2 e3=>hl' i x v e1 (w i v e2) e3⟩,I.cell,I.free,I.freeC,I.pin,I.hok,hl.trans I.len⟩
theorem Inv.zl7 {pins' : List (Addr × Obj)} (I : Inv X pins σ H s) (h : ∀ p∈pins',s.heap.get? p.1 = some p.2 /\ H p.1 = none /\ p.1 ≠ X.env.locals /\ p.1 ∉ X.fs /\ ∀ v,p.2.data ≠ .cell v) : Inv X pins' σ H s :=
 ⟨I.ok,I.os,I.bare,I.base,I.loc,I.cell,I.free,I.freeC,fun p hp=>(ey0.mp hp).elim (fun z=>I.pin p (ky3 _ z)) (h p),I.hok,I.len⟩
theorem zO5 {N : List Str} (hN : N.Nodup) {i j : Nat} {x : Str} (a : N[i]? = some x) (b : N[j]? = some x) : i = j:=by
 refine za0 fun gG=>?_;obtain ⟨h1,e1⟩:=ay4.mp a;obtain ⟨h2,e2⟩:=ay4.mp b;refine gG ?_;clear gG;exact (iy4 hN).mp (e1.trans e2.symm)
theorem zu6 {M : Model} {A : Around} {E : Value->Shared->Prop} {i : Nat} {x : Str} {v : V} {u : Value} {Q : Unit->Shared->Prop} (I : Inv X pins σ H s) (hN : X.N.Nodup) (hi : X.N[i]? = some x) (hx : Loc X.env.scope x) (r : RelV v u)
  (h : ∀ s',Inv X pins (σ.set i (some v)) H s'->(∃ a,fy3 a s.heap s'.heap /\ (a = X.env.locals \/ X.env.cells.lookup x = some a))->Q () s') (hf : X.fn x = true \/ X.env.scope.names.lookup x = some .local:=by first | exact .inl rfl | exact .inr rfl | assumption) : wpAny M A (storeName X.env x u) Q E s:=by
 refine za0 fun gG=>?_;obtain ⟨m,hn,hl⟩:=id I.loc;refine gG ?_;clear gG;have hcls : (X.env.scope.kind == .class || (X.env.scope.kind == .module && X.env.locals != X.env.globals)) = false:=by rw [I.ok.kind]; rfl
 have hiσ : i < σ.length:=by rw [I.len]; exact (ay4.mp hi).1
 have cne:=I.cne
 have tracked : ∀ {a : Addr} {h' : Heap},(∃ o,s.heap.get? a = some o /\ H a = none)->fy3 a s.heap h'->HOk X.prog X.w H h':=fun {a h'} ha hs b ob e=>by
  refine za0 fun gG=>?_;obtain ⟨_,_,hfree⟩:=ha;refine gG ?_;clear gG;refine (I.hok b ob e).zS7 (fun c w' hc q=>(hs.2 c ?_).trans q) (fun _ q=>q) fun _ _ q=>q;rintro rfl;rcases hc with rfl | hc
  ·rw [hfree] at e; cases e
  ·rw [hfree] at hc; cases hc
 rcases hx with hk | hk
 ·refine wpAny_storeName_local hk hn (fun h' hn' hs=>?_) hcls;refine za0 fun gG=>?_;obtain ⟨oL,_,_,hoL,_⟩:=id hn;refine gG ?_;clear gG;refine h _ ⟨I.ok,I.os,I.bare,⟨fun b o e n hb hx=>?_,fun b o e n hb hx=>?_,I.base.free,fun b o e hx=>?_,I.base.tups,I.base.frzs,I.base.tbls⟩,⟨_,hn',fun j y v' e1 e2 e3=>?_⟩,fun y c e=>?_,I.free,I.freeC,fun p hp=>?_,tracked ⟨oL,hoL,I.free⟩ hs,by simpa using I.len⟩ ⟨_,hs,.inl rfl⟩
  ·exact (hs.2 b (by8 (by6 (by2 e) I.ok.above))).trans (I.base.keep b o e n hb hx)
  ·obtain ⟨sl,e1⟩:=I.base.slot b o e n hb hx;exact ⟨sl,(hs.2 b (by8 (by6 (by2 e) I.ok.above))).trans e1⟩
  ·obtain ⟨o',e1⟩:=I.base.there b o e hx;exact ⟨o',(hs.2 b (by8 (by6 (by2 e) I.ok.above))).trans e1⟩
  ·by_cases hj : j = i
   ·subst hj;rw [hi] at e1; cases e1;rw [gy3 hiσ] at e2;cases e2;exact ⟨u,r,.inl ⟨hk,by simp⟩⟩
   ·rw [cy6 (fy2 hj)] at e2;refine za0 fun gG=>?_;obtain ⟨u',r',q⟩:=hl j y v' e1 e2 e3;refine gG ?_;clear gG;refine ⟨u',r',?_⟩;rcases q with ⟨k,e⟩ | ⟨k,c,e,z⟩
    ·refine .inl ⟨k,?_⟩;have : y ≠ x:=fun e=>hj (zO5 hN e1 (e ▸ hi));simp [this,e]
    ·exact .inr ⟨k,c,e,z.sameBut hs (cne y c e)⟩
  ·obtain ⟨w',z⟩:=I.cell y c e;exact ⟨w',z.sameBut hs (cne y c e)⟩
  ·refine za0 fun gG=>?_;obtain ⟨e,n,ne,nf,d⟩:=I.pin p hp;refine gG ?_;clear gG;exact ⟨(hs.2 p.1 ne).trans e,n,ne,nf,d⟩
 ·have hfn : X.fn x = true:=by
   rcases hf with z | z
   ·exact z
   ·rw [z] at hk; cases hk
  refine za0 fun gG=>?_;obtain ⟨c,hc⟩:=I.ok.has x (.inl hk);obtain ⟨w',z⟩:=I.cell x c hc;refine gG ?_;clear gG;refine wpAny_storeName_cell I.ok.kind hk hc z (fun h' hc' hs=>?_);refine za0 fun gG=>?_;obtain ⟨oc,hoc,hocd⟩:=id z;refine gG ?_;clear gG;refine h { s with heap:=h' } ⟨I.ok,I.os,I.bare,⟨fun b o e n hb hx=>?_,fun b o e n hb hx=>?_,I.base.free,fun b o e hx=>?_,I.base.tups,I.base.frzs,I.base.tbls⟩,⟨m,hn.sameBut hs (fy2 (cne x c hc)),fun j y v' e1 e2 e3=>?_⟩,fun y c' e=>?_,I.free,I.freeC,fun p hp=>?_,tracked ⟨oc,hoc,I.freeC x c hc⟩ hs,by simpa using I.len⟩ ⟨c,hs,.inr hc⟩
  ·exact (hs.2 b (by8 (by6 (by2 e) (I.ok.cab x c hfn hc)))).trans (I.base.keep b o e n hb hx)
  ·obtain ⟨sl,e1⟩:=I.base.slot b o e n hb hx;exact ⟨sl,(hs.2 b (by8 (by6 (by2 e) (I.ok.cab x c hfn hc)))).trans e1⟩
  ·obtain ⟨o',e1⟩:=I.base.there b o e hx;exact ⟨o',(hs.2 b (by8 (by6 (by2 e) (I.ok.cab x c hfn hc)))).trans e1⟩
  ·by_cases hj : j = i
   ·subst hj;rw [hi] at e1; cases e1;rw [gy3 hiσ] at e2;cases e2;exact ⟨u,r,.inr ⟨.inl hk,c,hc,hc'⟩⟩
   ·rw [cy6 (fy2 hj)] at e2;refine za0 fun gG=>?_;obtain ⟨u',r',q⟩:=hl j y v' e1 e2 e3;refine gG ?_;clear gG;refine ⟨u',r',?_⟩;rcases q with q | ⟨k,c',e,z'⟩
    ·exact .inl q
    ·refine .inr ⟨k,c',e,z'.sameBut hs ?_⟩;rintro rfl;exact hj (zO5 hN e1 (I.ok.inj _ _ _ e hc ▸ hi))
  ·by_cases hcc : c' = c
   ·subst hcc; exact ⟨_,hc'⟩
   ·obtain ⟨w2,z2⟩:=I.cell y c' e;exact ⟨w2,z2.sameBut hs hcc⟩
  ·refine za0 fun gG=>?_;obtain ⟨e,n,ne,nf,d⟩:=I.pin p hp;refine gG ?_;clear gG;refine ⟨(hs.2 p.1 ?_).trans e,n,ne,nf,d⟩;intro q;rw [q,hoc] at e;have q' : oc = p.2:=jy1 e;exact d w' (by rw [<- q']; exact hocd)
theorem zO6 {M : Model} {A : Around} {E : Value->Shared->Prop} {i : Nat} {x : Str} {v : V} {u : Value} {Q : Unit->Shared->Prop} (I : Inv X pins σ H s) (hN : X.N.Nodup) (hi : X.N[i]? = some x) (hx : Loc X.env.scope x) (r : RelV v u)
  (h : ∀ s',Inv X pins (σ.set i (some v)) H s'->Q () s') (hf : X.fn x = true \/ X.env.scope.names.lookup x = some .local:=by first | exact .inl rfl | exact .inr rfl | assumption) : wpAny M A (storeName X.env x u) Q E s :=
 zu6 I hN hi hx r (fun s' I' _=>h s' I') hf
theorem Inv.zb13 {s' : Shared} {ch : List Addr} (I : Inv X pins σ H s) (ho : s'.os = s.os) (u : Un (frs X.stack) ch H H' s.heap s'.heap) (hok : HOk X.prog X.w H' s'.heap) (hg : AllBare s'.gens)
  (hch : ∀ b∈ch,(b∈X.ex \/ X.s₀.heap.objs.size <= b) /\ b ≠ X.env.locals /\ (∀ x c,X.env.cells.lookup x = some c->c ≠ b) /\ ∀ p∈X.pn++pins,p.1 ≠ b) : Inv X pins σ H' s':=by
 refine za0 fun gG=>?_;obtain ⟨h',g',d',t',o'⟩:=s';have e : o' = s.os:=ho;subst e;refine gG ?_;clear gG;exact I.call (g':=g') (t':=t') (d':=d') u hok hg hch
end
abbrev XK:=Value->Option Addr->Hp->Prop
abbrev St:=List (Option V)
abbrev VK:=V->Hp->Prop
abbrev TE:=St->Hp->VK->Prop
abbrev TT:=St->Hp->(Bool->Hp->Prop)->Prop
abbrev TA:=St->Hp->(List V->Hp->Prop)->Prop
structure Ends where
 nx : St->Hp->Prop
 rt : VK
 bk : St->Hp->Prop:=fun _ _=>False
 ct : St->Hp->Prop:=fun _ _=>False
abbrev TS:=Ends->St->Hp->Prop
def EP (X : Cx) (pins : List (Addr × Obj)) (σ : St) (Q : VK) (u : Value) (s' : Shared) : Prop:=∃ v H',Inv X pins σ H' s' /\ RelV v u /\ Q v H'
def TP (X : Cx) (pins : List (Addr × Obj)) (σ : St) (Q : Bool->Hp->Prop) (b : Bool) (s' : Shared) : Prop:=∃ H',Inv X pins σ H' s' /\ Q b H'
def AP (X : Cx) (pins : List (Addr × Obj)) (σ : St) (Q : List V->Hp->Prop) (us : List Value) (s' : Shared) : Prop:=∃ vs H',Inv X pins σ H' s' /\ Vals vs us /\ Q vs H'
def SP (X : Cx) (pins : List (Addr × Obj)) (D : Ends) (f : Flow) (s' : Shared) : Prop :=
 match f with
 | .next=>∃ σ' H',Inv X pins σ' H' s' /\ D.nx σ' H'
 | .brk=>∃ σ' H',Inv X pins σ' H' s' /\ D.bk σ' H'
 | .cont=>∃ σ' H',Inv X pins σ' H' s' /\ D.ct σ' H'
 | .ret u=>∃ v σ' H',Inv X pins σ' H' s' /\ RelV v u /\ D.rt v H'
def PE (X : Cx) (e : Expr) (t : TE) : Prop :=
 ∀ (pins : List (Addr × Obj)) (s : Shared) (σ : St) (H : Hp) (Q : VK),Inv X pins σ H s->t σ H Q->wpAny (model X.prog X.w) X.A (eval e X.env) (EP X pins σ Q) X.xe s
def PT (X : Cx) (e : Expr) (t : TT) : Prop :=
 ∀ (pins : List (Addr × Obj)) (s : Shared) (σ : St) (H : Hp) (Q : Bool->Hp->Prop),Inv X pins σ H s->t σ H Q->wpAny (model X.prog X.w) X.A (isTrue e X.env (eval e X.env)) (TP X pins σ Q) X.xe s
def PW (X : Cx) (e : Expr) (t : TT) : Prop :=
 ∀ (whole : Sem Value) (pins : List (Addr × Obj)) (s : Shared) (σ : St) (H : Hp) (Q : Bool->Hp->Prop),Inv X pins σ H s->t σ H Q->wpAny (model X.prog X.w) X.A (isTrue e X.env whole) (TP X pins σ Q) X.xe s
theorem PW.pt {X : Cx} {e : Expr} {t : TT} (h : PW X e t) : PT X e t:=h _
def PA (X : Cx) (es : List Expr) (t : TA) : Prop :=
 ∀ (pos : Pos) (pins : List (Addr × Obj)) (s : Shared) (σ : St) (H : Hp) (Q : List V->Hp->Prop),Inv X pins σ H s->t σ H Q->wpAny (model X.prog X.w) X.A (spliced (backTo pos (fy4 es X.env))) (AP X pins σ Q) X.xe s
def PS (X : Cx) (st : Stmt) (t : TS) : Prop :=
 ∀ (pins : List (Addr × Obj)) (s : Shared) (σ : St) (H : Hp) (D : Ends),Inv X pins σ H s->t D σ H->wpAny (model X.prog X.w) X.A (exec st X.env) (SP X pins D) X.xe s
def PSs (X : Cx) (st : List Stmt) (t : TS) : Prop :=
 ∀ (pins : List (Addr × Obj)) (s : Shared) (σ : St) (H : Hp) (D : Ends),Inv X pins σ H s->t D σ H->wpAny (model X.prog X.w) X.A (execs st X.env) (SP X pins D) X.xe s
theorem thn {α : Type} {t : Sem α} {Q Q' : α->Shared->Prop} {M : Model} {A : Around} {E : Value->Shared->Prop} {s : Shared} (h : wpAny M A t Q E s) (hQ : ∀ a s,Q a s->Q' a s) : wpAny M A t Q' E s:=fy6 h hQ fun _ _ x=>x
section
variable {X : Cx}
def tVar (i : Nat) : TE:=fun σ H Q=>∃ v,σ[i]? = some (some v) /\ Q v H
def tC (v : V) : TE:=fun _ H Q=>Q v H
theorem zd35 {i : Nat} {x : Str} {pos : Pos} (hN : X.N[i]? = some x) (hv : Vis X.env.scope x) (hd : (x == ("__debug__" : Str)) = false:=by decide) (hcd : (x == ("__classdict__" : Str)) = false:=by decide) : PE X (.Name x pos) (tVar i):=by
 intro pins s σ H Q I h;refine za0 fun gG=>?_;obtain ⟨v,e,h⟩:=h;obtain ⟨m,hn,hl⟩:=I.loc;obtain ⟨u,r,l⟩:=hl i x v hN e hv;refine gG ?_;clear gG;have fin : EP X pins σ Q u s:=⟨v,H,I,r,h⟩
 rcases l with ⟨hk,hm⟩ | ⟨hk,c,hc,hcell⟩
 ·exact wpAny_Name (wpAny_loadName_local I.ok.kind hk hn hm fin) hd
 ·rcases hk with hk | hk
  ·exact wpAny_Name (wpAny_loadName_cell I.ok.kind hk hc hcell fin) hd
  ·exact wpAny_Name (wpAny_loadName_free I.ok.kind hk hc hcell fin hcd) hd
theorem zd36 {i j pos} : PE X (.Constant (.int i) j pos) (tC (.int i)):=fun _ _ _ H _ I h=>wpAny_Constant_int ⟨.int i,H,I.tok _,⟨_,rfl⟩,h⟩
theorem ze56 {b j pos} : PE X (.Constant (.bool b) j pos) (tC (.bl b)):=fun _ _ _ H _ I h=>Constant_bool ⟨.bl b,H,I,rfl,h⟩
theorem zd37 {j pos} : PE X (.Constant .none j pos) (tC .non):=fun _ _ _ H _ I h=>Constant_none ⟨.non,H,I,rfl,h⟩
theorem zd38 {x j pos} : PE X (.Constant (.str x) j pos) (tC (.str x)):=fun _ _ _ H _ I h=>Calls.Constant_str ⟨.str x,H,I.tok _,⟨_,rfl⟩,h⟩
def Gl (X : Cx) (x : Str) : Prop:=X.env.kindOf x = some .globalImplicit
theorem zY3 {E : Value->Shared->Prop} {pins : List (Addr × Obj)} {s : Shared} {σ : St} {H : Hp} {x : Str} {u : Value} {pos : Pos} {Q : Value->Shared->Prop} (I : Inv X pins σ H s) (hg : Gl X x) (hm : X.mg x = some u) (h : Q u s)
  (hd : (x == ("__debug__" : Str)) = false:=by decide) : wpAny (model X.prog X.w) X.A (eval (.Name x pos) X.env) Q E s :=
 Calls.Name_function_global I.ok.kind hg (Calls.loadGlobal_global (by rw [I.ok.glob]; exact I.mod.glob.keeps I.bk) hm h) hd
theorem zE8 {E : Value->Shared->Prop} {pins : List (Addr × Obj)} {s : Shared} {σ : St} {H : Hp} {x : Str} {u : Value} {pos : Pos} {Q : Value->Shared->Prop} (I : Inv X pins σ H s) (hg : Gl X x) (hm : X.mg x = none) (hv : fy0 x = some u) (h : Q u s)
  (hn : x ≠ "__name__" := by decide) (hd : (x == ("__debug__" : Str)) = false:=by decide) : wpAny (model X.prog X.w) X.A (eval (.Name x pos) X.env) Q E s:=by
 refine za0 fun gG=>?_;obtain ⟨mb,h1,h2⟩:=I.mod.blt;refine gG ?_;clear gG;exact Calls.Name_function_global I.ok.kind hg (Calls.loadGlobal_builtin (by rw [I.ok.glob]; exact I.mod.glob.keeps I.bk) hm (by rw [I.ok.blt]; exact h1.keeps I.bk) ((h2 x hn).trans hv) h) hd
theorem zc36 {x : Str} {v : V} {u : Value} {pos : Pos} (hg : Gl X x) (hm : X.mg x = some u) (r : RelV v u) (hd : (x == ("__debug__" : Str)) = false:=by decide) : PE X (.Name x pos) (tC v) :=
 fun _ _ _ H _ I h=>zY3 I hg hm ⟨v,H,I,r,h⟩ hd
theorem zc37 {x : Str} {v : V} {u : Value} {pos : Pos} (hg : Gl X x) (hm : X.mg x = none) (hv : fy0 x = some u) (r : RelV v u) (hn : x ≠ "__name__" := by decide) (hd : (x == ("__debug__" : Str)) = false:=by decide) : PE X (.Name x pos) (tC v) :=
 fun _ _ _ H _ I h=>zE8 I hg hm hv ⟨v,H,I,r,h⟩ hn hd
variable {a b : Expr} {ta tb : TE} {pos : Pos}
def tB (t : TE) : TT:=fun σ H Q=>t σ H fun x H1=>∃ c,x = .bl c /\ Q c H1
theorem zd39 {e : Expr} {t : TE} (h : PE X e t) (he : ∀ whole,isTrue e X.env whole = (do let v <- whole; standAt e.pos; holding [v] (truthy v)):=by intro _; rfl) : PT X e (tB t):=by
 intro pins s σ H Q I hw;refine isTrue_plain (thn (h pins s σ H _ I hw) fun v s1 ⟨x,H1,I1,r1,q1⟩=>?_) (he _);refine za0 fun gG=>?_;obtain ⟨d,rfl,q⟩:=q1;refine gG ?_;clear gG;cases r1;exact ky9 ⟨H1,I1,q⟩
variable {tA tB' : TT} {rest : List Expr}
def tAnd (t u : TT) : TT:=fun σ H Q=>t σ H fun c H1=>if c = true then u σ H1 Q else Q false H1
def tOr (t u : TT) : TT:=fun σ H Q=>t σ H fun c H1=>if c = true then Q true H1 else u σ H1 Q
def tNot (t : TT) : TT:=fun σ H Q=>t σ H fun c H1=>Q (!c) H1
theorem zc38 (ha : PT X a tA) : PW X (.BoolOp .And [a] pos) tA:=by
 intro wh pins s σ H Q I h;refine isTrue_and (thn (ha pins s σ H Q I h) fun c s1 e=>?_);cases c with
 | true=>exact isTrue_and_nil e
 | false=>exact e
theorem zd40 (ha : PT X a tA) : PW X (.BoolOp .Or [a] pos) tA:=by
 intro wh pins s σ H Q I h;refine isTrue_or (thn (ha pins s σ H Q I h) fun c s1 e=>?_);cases c with
 | false=>exact isTrue_or_nil e
 | true=>exact e
theorem zd41 (ha : PT X a tA) (hb : PW X (.BoolOp .And (b :: rest) pos) tB') : PW X (.BoolOp .And (a :: b :: rest) pos) (tAnd tA tB'):=by
 intro wh pins s σ H Q I h;refine isTrue_and (thn (ha pins s σ H _ I h) fun c s1 ⟨H1,I1,q1⟩=>?_);cases c with
 | true=>exact hb wh pins s1 σ H1 Q I1 q1
 | false=>exact ⟨H1,I1,q1⟩
theorem ze57 (ha : PT X a tA) (hb : PW X (.BoolOp .Or (b :: rest) pos) tB') : PW X (.BoolOp .Or (a :: b :: rest) pos) (tOr tA tB'):=by
 intro wh pins s σ H Q I h;refine isTrue_or (thn (ha pins s σ H _ I h) fun c s1 ⟨H1,I1,q1⟩=>?_);cases c with
 | true=>exact ⟨H1,I1,q1⟩
 | false=>exact hb wh pins s1 σ H1 Q I1 q1
theorem zd42 (ha : PT X a tA) : PT X (.UnaryOp .Not a pos) (tNot tA):=by
 intro pins s σ H Q I h;exact isTrue_not (ha pins s σ H (fun c H1=>Q (!c) H1) I h)
def ze58 (ta tb : TE) : TE:=fun σ H Q=>ta σ H fun x H1=>∃ c,x = .bl c /\ if c = true then tb σ H1 Q else Q (.bl false) H1
def tOrV (ta tb : TE) : TE:=fun σ H Q=>ta σ H fun x H1=>∃ c,x = .bl c /\ if c = true then Q (.bl true) H1 else tb σ H1 Q
theorem zd43 {op} {t : TE} (h : PE X a t) : PE X (.BoolOp op [a] pos) t:=fun pins s σ H Q I hw=>BoolOp_one (h pins s σ H Q I hw)
theorem zd44 (ha : PE X a ta) (hb : PE X (.BoolOp .And (b :: rest) pos) tb) : PE X (.BoolOp .And (a :: b :: rest) pos) (ze58 ta tb):=by
 intro pins s σ H Q I h;refine BoolOp_and (thn (ha pins s σ H _ I h) fun v s1 ⟨x,H1,I1,r1,q1⟩=>?_);refine za0 fun gG=>?_;obtain ⟨c,rfl,q1⟩:=q1;refine gG ?_;clear gG;cases r1;refine ky9 ?_;cases c with
 | true=>exact hb pins s1 σ H1 Q I1 q1
 | false=>exact ⟨.bl false,H1,I1,rfl,q1⟩
theorem ze59 (ha : PE X a ta) (hb : PE X (.BoolOp .Or (b :: rest) pos) tb) : PE X (.BoolOp .Or (a :: b :: rest) pos) (tOrV ta tb):=by
 intro pins s σ H Q I h;refine BoolOp_or (thn (ha pins s σ H _ I h) fun v s1 ⟨x,H1,I1,r1,q1⟩=>?_);refine za0 fun gG=>?_;obtain ⟨c,rfl,q1⟩:=q1;refine gG ?_;clear gG;cases r1;refine ky9 ?_;cases c with
 | false=>exact hb pins s1 σ H1 Q I1 q1
 | true=>exact ⟨.bl true,H1,I1,rfl,q1⟩
def tIf (t : TT) (ta tb : TE) : TE:=fun σ H Q=>t σ H fun c H1=>if c = true then ta σ H1 Q else tb σ H1 Q
theorem zb14 {c : Expr} (hc : PT X c tA) (ha : PE X a ta) (hb : PE X b tb) : PE X (.IfExp c a b pos) (tIf tA ta tb):=by
 intro pins s σ H Q I h;refine wpAny_IfExp (thn (hc pins s σ H _ I h) fun d s1 ⟨H1,I1,q1⟩=>?_);cases d with
 | true=>exact ha pins s1 σ H1 Q I1 q1
 | false=>exact hb pins s1 σ H1 Q I1 q1
end
def SqL (K : ay5) (H : Hp) (a : Addr) (xs : List V) : Prop :=
 Rd H a (.lst xs) \/
  ∃ (o : Obj) (its : Array Value) (n : Nat),K.lookup a = some o /\ o.cls = .type "list" /\ o.dict = none /\ o.data = .seq its n /\ its.size <= by3 /\ Vals xs its.toList
def SqT (K : ay5) (H : Hp) (a : Addr) (xs : List V) : Prop :=
 Rd H a (.tup xs) \/
  ∃ (o : Obj) (its : Array Value) (n : Nat),K.lookup a = some o /\ o.cls = .type "tuple" /\ o.data = .seq its n /\ its.size <= by3 /\ Vals xs its.toList
def absV : Value->Option V
 | .none=>some .non
 | .bool b=>some (.bl b)
 | .int i _=>some (.int i)
 | .str x _=>some (.str x)
 | .bytes b _=>some (.byt b)
 | .float b _=>some (.flt b)
 | .ref a=>some (.ref a)
 | .type n=>some (.ty n)
 | _=>none
theorem RelV.abs {x : V} {u : Value} (r : RelV x u) : absV u = some x:=by
 cases x with
 | non=>cases r; rfl
 | bl _=>cases r; rfl
 | int _=>obtain ⟨t,rfl⟩:=r; rfl
 | str _=>obtain ⟨t,rfl⟩:=r; rfl
 | byt _=>obtain ⟨t,rfl⟩:=r; rfl
 | flt _=>obtain ⟨t,rfl⟩:=r; rfl
 | ref _=>cases r; rfl
 | ty _=>cases r; rfl
theorem RelV.inj {x y : V} {u : Value} (r : RelV x u) (q : RelV y u) : x = y:=jy1 (r.abs.symm.trans q.abs)
theorem Vals.inj {xs ys : List V} {us : List Value} (h : Vals xs us) (h' : Vals ys us) : xs = ys:=by
 induction h generalizing ys with
 | nil=>cases h'; rfl
 | cons r t ih=>cases h' with
  | cons r' t'=>rw [r.inj r',ih t']
section
variable {X : Cx} {pins : List (Addr × Obj)} {σ : St} {H : Hp} {s : Shared} {a : Addr} {xs ys : List V}
theorem SqL.of {K : ay5} (h : H a = some (.lst xs)) : SqL K H a xs:=.inl (.inl h)
theorem SqT.of {K : ay5} (h : H a = some (.tup xs)) : SqT K H a xs:=.inl (.inl h)
theorem Inv.list (I : Inv X pins σ H s) (h : SqL X.K H a xs) : ∃ its : List Value,Vals xs its /\ PlainL s.heap a its.toArray /\ xs.length <= by3:=by
 rcases h with h | ⟨o,its,n,hk,hc,hd,hs,hz,r⟩
 ·refine za0 fun gG=>?_;obtain ⟨z,its,n,r,e⟩:=h.ok I.hok;refine gG ?_;clear gG;exact ⟨its,r,⟨_,n,e,rfl,rfl,rfl⟩,z⟩
 ·refine ⟨its.toList,r,⟨o,n,I.kIn a o hk,hc,hd,by simpa using hs⟩,?_⟩;have e:=r.length;simp only [jy2] at e;omega
theorem Inv.tuple (I : Inv X pins σ H s) (h : SqT X.K H a xs) : ∃ its : List Value,Vals xs its /\ IsTup s.heap a its.toArray /\ xs.length <= by3:=by
 rcases h with h | ⟨o,its,n,hk,hc,hs,hz,r⟩
 ·refine za0 fun gG=>?_;obtain ⟨z,its,r,p⟩:=h.ok I.hok;refine gG ?_;clear gG;exact ⟨its,r,p,z⟩
 ·refine ⟨its.toList,r,⟨o,I.kIn a o hk,hc,n,by simpa using hs⟩,?_⟩;have e:=r.length;simp only [jy2] at e;omega
theorem Inv.zb15 (I : Inv X pins σ H s) (h : SqL X.K H a xs) (h' : SqL X.K H a ys) : xs = ys:=by
 refine za0 fun gG=>?_;obtain ⟨its,r,⟨o,n,e,_,_,d⟩,_⟩:=I.list h;obtain ⟨its',r',⟨o',n',e',_,_,d'⟩,_⟩:=I.list h';refine gG ?_;clear gG;rw [e] at e'; cases e';rw [d] at d';injection d' with d1 _
 have : its = its':=by simpa using congrArg Array.toList d1
 subst this;exact r.inj r'
theorem Inv.zE9 (I : Inv X pins σ H s) (h : SqT X.K H a xs) (h' : SqT X.K H a ys) : xs = ys:=by
 refine za0 fun gG=>?_;obtain ⟨its,r,⟨o,e,_,n,d⟩,_⟩:=I.tuple h;obtain ⟨its',r',⟨o',e',_,n',d'⟩,_⟩:=I.tuple h';refine gG ?_;clear gG;rw [e] at e'; cases e';rw [d] at d';injection d' with d1 _
 have : its = its':=by simpa using congrArg Array.toList d1
 subst this;exact r.inj r'
end
abbrev Cx.wish (X : Cx) (E : Value->Shared->Prop) : Cx:={ X with xe:=E }
abbrev Cx.nox (X : Cx) : Cx:=X.wish fun _ _=>False
theorem Cx.Ok.wish {X : Cx} (ok : X.Ok) (E : Value->Shared->Prop) : (X.wish E).Ok :=
 ⟨ok.mod,ok.kind,ok.glob,ok.blt,ok.above,ok.inj,ok.has,ok.cab,ok.hd,ok.frames,ok.stk,ok.exf,ok.bs,ok.bsz,ok.noex,ok.exfs,ok.zS8,ok.frf⟩
theorem Cx.Ok.zr8 {X : Cx} {E : Value->Shared->Prop} (ok : (X.wish E).Ok) : X.Ok :=
 ⟨ok.mod,ok.kind,ok.glob,ok.blt,ok.above,ok.inj,ok.has,ok.cab,ok.hd,ok.frames,ok.stk,ok.exf,ok.bs,ok.bsz,ok.noex,ok.exfs,ok.zS8,ok.frf⟩
section
variable {X : Cx} {pins : List (Addr × Obj)} {σ : St} {H : Hp} {s : Shared} {E : Value->Shared->Prop}
theorem Inv.wish (I : Inv X pins σ H s) (E : Value->Shared->Prop) : Inv (X.wish E) pins σ H s:=⟨I.ok.wish E,I.os,I.bare,I.base,I.loc,I.cell,I.free,I.freeC,I.pin,I.hok,I.len⟩
theorem Inv.zr8 (I : Inv (X.wish E) pins σ H s) : Inv X pins σ H s:=⟨I.ok.zr8,I.os,I.bare,I.base,I.loc,I.cell,I.free,I.freeC,I.pin,I.hok,I.len⟩
theorem SP.zr8 {D : Ends} {f : Flow} {s' : Shared} (h : SP (X.wish E) pins D f s') : SP X pins D f s':=by
 cases f with
 | next=>obtain ⟨σ',H',I,q⟩:=h; exact ⟨σ',H',I.zr8,q⟩
 | brk=>obtain ⟨σ',H',I,q⟩:=h; exact ⟨σ',H',I.zr8,q⟩
 | cont=>obtain ⟨σ',H',I,q⟩:=h; exact ⟨σ',H',I.zr8,q⟩
 | ret u=>obtain ⟨v,σ',H',I,r,q⟩:=h; exact ⟨v,σ',H',I.zr8,r,q⟩
theorem PSs.nox {st : List Stmt} {t : TS} (h : PSs X.nox st t) : PSs X st t:=fun pins s σ H D I hw =>
 fy6 (h pins s σ H D (I.wish _) hw) (fun _ _ q=>q.zr8) fun _ _ z=>vy0 z
end
section
variable {X : Cx} {st : Stmt} {rest : List Stmt} {t u : TS} {e : Expr} {te : TE} {pos : Pos}
def ze60 : TS:=fun D σ H=>D.nx σ H
def tSeq (t u : TS) : TS:=fun D σ H=>t { D with nx:=u D } σ H
theorem zc39 : PSs X [] ze60:=fun _ _ σ H _ I h=>wpAny_execs_nil ⟨σ,H,I,h⟩
theorem zb16 (h1 : PS X st t) (h2 : PSs X rest u) : PSs X (st :: rest) (tSeq t u):=by
 intro pins s σ H D I h;refine wpAny_execs_cons (thn (h1 pins s σ H { D with nx:=u D } I h) fun f s1 q=>?_);cases f with
 | next =>
  refine za0 fun gG=>?_;obtain ⟨σ',H',I',q⟩:=q;refine gG ?_;clear gG;exact h2 pins s1 σ' H' D I' q
 | ret v=>exact q
 | brk=>exact q
 | cont=>exact q
theorem zc40 (h1 : PS X st t) : PSs X [st] t:=by
 intro pins s σ H D I h;refine wpAny_execs_cons (thn (h1 pins s σ H D I h) fun f s1 q=>?_);cases f with
 | next=>exact wpAny_execs_nil q
 | ret v=>exact q
 | brk=>exact q
 | cont=>exact q
theorem Inv.quiet {pins : List (Addr × Obj)} {σ : St} {H : Hp} {s : Shared} (I : Inv X pins σ H s) : interactive X.env = false:=by simp [interactive,I.ok.kind]
def ze61 (te : TE) : TS:=fun D σ H=>te σ H fun _ H1=>D.nx σ H1
theorem zc41 (he : PE X e te) (hs : swapsWith e none pos.line X.env = pure false:=by rfl) : PS X (.Expr e pos) (ze61 te):=by
 intro pins s σ H D I h;exact wpAny_Expr_any (thn (he pins s σ H _ I h) fun v s1 zR=>by obtain ⟨x,H1,I1,r1,q1⟩:=zR; exact ⟨σ,H1,I1,q1⟩) I.quiet hs
def tRet (te : TE) : TS:=fun D σ H=>te σ H D.rt
theorem zY4 (he : PE X e te) : PS X (.Return (some e) pos) (tRet te):=by
 intro pins s σ H D I h;exact wpAny_Return_some (thn (he pins s σ H _ I h) fun v s1 zR=>by obtain ⟨x,H1,I1,r1,q1⟩:=zR; exact ⟨x,σ,H1,I1,r1,q1⟩)
def tIfS (c : TT) (t u : TS) : TS:=fun D σ H=>c σ H fun b H1=>if b = true then t D σ H1 else u D σ H1
theorem ze62 {c : Expr} {a b : List Stmt} {tc : TT} (hc : PT X c tc) (ha : PSs X a t) (hb : PSs X b u) : PS X (.If c a b pos) (tIfS tc t u):=by
 intro pins s σ H D I h;refine wpAny_If (thn (hc pins s σ H _ I h) fun d s1 ⟨H1,I1,q1⟩=>?_);cases d with
 | true=>exact ha pins s1 σ H1 D I1 q1
 | false=>exact hb pins s1 σ H1 D I1 q1
end
abbrev TG:=V->St->Hp->(St->Hp->Prop)->Prop
abbrev TGs:=List V->St->Hp->(St->Hp->Prop)->Prop
def PG (X : Cx) (target : Expr) (t : TG) : Prop :=
 ∀ (pins : List (Addr × Obj)) (s : Shared) (σ : St) (H : Hp) (v : V) (u : Value) (Q : St->Hp->Prop),Inv X pins σ H s->RelV v u->t v σ H Q ->
  wpAny (model X.prog X.w) X.A (assign target X.env u) (fun _ s'=>∃ σ' H',Inv X pins σ' H' s' /\ Q σ' H') X.xe s
def PGs (X : Cx) (ts : List Expr) (t : TGs) : Prop :=
 ∀ (pins : List (Addr × Obj)) (s : Shared) (σ : St) (H : Hp) (vs : List V) (us : List Value) (Q : St->Hp->Prop),Inv X pins σ H s->Vals vs us->t vs σ H Q ->
  wpAny (model X.prog X.w) X.A (assignInOrder ((my1 ts X.env).map (·.2)) us) (fun _ s'=>∃ σ' H',Inv X pins σ' H' s' /\ Q σ' H') X.xe s
abbrev TSet:=V->V->V->Hp->(Hp->Prop)->Prop
def PSet (X : Cx) (t : TSet) : Prop :=
 ∀ (pins : List (Addr × Obj)) (s : Shared) (σ : St) (H : Hp) (o i v : V) (ov iv u : Value) (Q : Hp->Prop),Inv X pins σ H s->RelV o ov->RelV i iv->RelV v u->t o i v H Q ->
  wpAny (model X.prog X.w) X.A (setItem ov iv u) (fun _ s'=>∃ H',Inv X pins σ H' s' /\ Q H') X.xe s
section
variable {X : Cx} {pos : Pos}
def zn9 (i : Nat) : TG:=fun v σ H Q=>Q (σ.set i (some v)) H
theorem zu7 {i : Nat} {x : Str} (hN : X.N.Nodup) (hi : X.N[i]? = some x) (hx : Loc X.env.scope x) (hf : X.fn x = true \/ X.env.scope.names.lookup x = some .local:=by first | exact .inl rfl | exact .inr rfl | assumption) : PG X (.Name x pos) (zn9 i):=by
 intro pins s σ H v u Q I r h;exact wpAny_assign_Name (zO6 I hN hi hx r (fun s' I'=>⟨_,H,I',h⟩) hf)
def gNil : TGs:=fun vs σ H Q=>vs = [] /\ Q σ H
def zS9 (t : TG) (u : TGs) : TGs:=fun vs σ H Q=>∃ v r,vs = v :: r /\ t v σ H fun σ' H'=>u r σ' H' Q
theorem zY5 : PGs X [] gNil:=by
 intro pins s σ H vs us Q I r h;refine za0 fun gG=>?_;obtain ⟨e,h⟩:=h;subst e;refine gG ?_;clear gG;cases r;exact assignInOrder_nil ⟨σ,H,I,h⟩
theorem zO7 {e : Expr} {es : List Expr} {t : TG} {u : TGs} (h1 : PG X e t) (h2 : PGs X es u)
  (hs : (my1 (e :: es) X.env).map (·.2) = assign e X.env :: (my1 es X.env).map (·.2):=by rfl) : PGs X (e :: es) (zS9 t u):=by
 intro pins s σ H vs us Q I r h;refine za0 fun gG=>?_;obtain ⟨v,vr,e1,h⟩:=h;subst e1;refine gG ?_;clear gG;cases r with
 | cons r rr =>
  rw [hs];refine assignInOrder_cons (thn (h1 pins s σ H _ _ _ I r h) fun _ s1 ⟨σ1,H1,I1,q1⟩=>?_);exact h2 pins s1 σ1 H1 _ _ Q I1 rr q1
def gTup (K : ay5) (n : Nat) (t : TGs) : TG:=fun v σ H Q=>∃ a xs,v = .ref a /\ SqT K H a xs /\ xs.length = n /\ t xs σ H Q
theorem zY6 {es : List Expr} {k : Nat} {t : TGs} {n : Nat} (hc : X.calm = true) (h : PGs X es t)
  (hn : (my1 es X.env).length = n:=by rfl) (hst : (my1 es X.env).findIdx? (·.1) = none:=by rfl) : PG X (.Tuple es k pos) (gTup X.K n t):=by
 intro pins s σ H v u Q I r hw;refine za0 fun gG=>?_;obtain ⟨a,xs,e1,hq,hl,hw⟩:=hw;subst e1;refine gG ?_;clear gG;cases r;refine za0 fun gG=>?_;obtain ⟨its,rv,ht,hz⟩:=I.tuple hq;refine gG ?_;clear gG;refine assign_Tuple_tuple (I.ok.hd hc) ht (by simp [hn,<- hl,rv.length]) hst fun h' hx=>?_;have I1 : Inv X pins σ H { s with heap:=h' }:=I.kept (t':=s.toks) fun b o e=>hx b o (by8 (by2 e)) e;exact h pins _ σ H xs _ Q I1 (by simpa using rv) hw
def gSub (to ti : TE) (t : TSet) : TG:=fun v σ H Q=>to σ H fun o H1=>ti σ H1 fun i H2=>t o i v H2 fun H3=>Q σ H3
theorem zd46 {o i : Expr} {to ti : TE} {t : TSet} (ho : PE X o to) (hi : PE X i ti) (hs : PSet X t)
  (ha : ∀ v,assign (.Subscript o i pos) X.env v = (do
   let ov <- holding [v] (eval o X.env)
   let iv <- holding [v,ov] (eval i X.env)
   standAt pos
   holding [v,ov,iv] (setItem ov iv v)
   release [v,ov,iv] []):=by intro _; rfl) : PG X (.Subscript o i pos) (gSub to ti t):=by
 intro pins s σ H v u Q I r h;rw [ha];refine ay0 (fy1 (thn (ho pins s σ H _ I h) fun ov s1 ⟨x,H1,I1,r1,q1⟩=>?_));refine ay0 (fy1 (thn (hi pins s1 σ H1 _ I1 q1) fun iv s2 ⟨y,H2,I2,r2,q2⟩=>?_));refine ay0 (ly3 (ay0 (fy1 (thn (hs pins s2 σ H2 x y v ov iv u _ I2 r1 r2 r q2) fun _ s3 ⟨H3,I3,q3⟩=>?_))));exact wpAny_release ⟨σ,H3,I3,q3⟩
def tAsg (te : TE) (g : TG) : TS:=fun D σ H=>te σ H fun x H1=>g x σ H1 D.nx
theorem zd47 {tg e : Expr} {te : TE} {g : TG} (he : PE X e te) (hg : PG X tg g) (hs : swapsWithSole [tg] e pos.line X.env = pure false:=by rfl) (hw : swappedStores [tg] e X.env = pure none:=by rfl)
  (h1 : (my1 [tg] X.env).map (·.2) = [assign tg X.env]:=by rfl) : PS X (.Assign [tg] e pos) (tAsg te g):=by
 intro pins s σ H D I h;refine wpAny_Assign_stores (thn (he pins s σ H _ I h) fun v s1 ⟨x,H1,I1,r1,q1⟩=>?_) hs hw;rw [h1];exact thn (hg pins s1 σ H1 x v _ I1 r1 q1) fun _ s2 q=>q
theorem zd48 {i : Nat} {x : Str} {e : Expr} {te : TE} {pos' : Pos} (hN : X.N.Nodup) (hi : X.N[i]? = some x) (hx : Loc X.env.scope x) (he : PE X e te) (hs : swapsWith e (some (.Name x pos')) pos.line X.env = pure false:=by rfl) (hf : X.fn x = true \/ X.env.scope.names.lookup x = some .local:=by first | exact .inl rfl | exact .inr rfl | assumption) :
  PS X (.Assign [.Name x pos'] e pos) (tAsg te (zn9 i)):=by
 intro pins s σ H D I h;refine wpAny_Assign_Name (thn (he pins s σ H _ I h) fun v s1 ⟨y,H1,I1,r1,q1⟩=>?_) hs;exact zO6 I1 hN hi hx r1 (fun s2 I2=>⟨_,H1,I2,q1⟩) hf
end
section
variable {X : Cx} {pos : Pos}
def zd49 (c : TT) (tb : TS) : TS:=fun D σ H=>∃ W : Nat->St->Hp->Prop,(∃ m,W m σ H) /\ ∀ m σ H,W m σ H ->
 c σ H fun b H1=>if b = true then ∃ N : St->Hp->Prop,(∀ σ' H',N σ' H'->∃ m',m' < m /\ W m' σ' H') /\ tb { D with nx:=N,ct:=N,bk:=D.nx } σ H1 else D.nx σ H1
theorem zb17 {c : Expr} {body : List Stmt} {tc : TT} {tb : TS} (hp : PassesOwn (model X.prog X.w) X.A X.env X.xe) (hc : PT X c tc) (hb : PSs X body tb) : PS X (.While c body [] pos) (zd49 tc tb):=by
 intro pins s σ H D I h;refine za0 fun gG=>?_;obtain ⟨W,⟨m0,w0⟩,turn⟩:=h;refine gG ?_;clear gG;refine wpAny_While (codeAny_whileLoop (fun n s'=>∃ σ' H',Inv X pins σ' H' s' /\ W n σ' H') ?_ m0 ⟨σ,H,I,w0⟩);intro n s1 gX;refine za0 fun gG=>?_;obtain ⟨σ1,H1,I1,w1⟩:=gX;refine gG ?_;clear gG;refine ry2 hp (thn (hc pins s1 σ1 H1 _ I1 (turn n σ1 H1 w1)) fun b s2 ⟨H2,I2,q2⟩=>?_);cases b with
 | true =>
  refine za0 fun gG=>?_;obtain ⟨N,hN,q2⟩:=q2;refine gG ?_;clear gG;rw [if_pos rfl];refine ry2 hp (thn (hb pins s2 σ1 H2 _ I2 q2) fun f s3 q3=>?_);cases f with
  | next =>
   refine za0 fun gG=>?_;obtain ⟨σ3,H3,I3,n3⟩:=q3;obtain ⟨m',hm,w3⟩:=hN σ3 H3 n3;refine gG ?_;clear gG;exact ⟨m',hm,σ3,H3,I3,w3⟩
  | cont =>
   refine za0 fun gG=>?_;obtain ⟨σ3,H3,I3,n3⟩:=q3;obtain ⟨m',hm,w3⟩:=hN σ3 H3 n3;refine gG ?_;clear gG;exact ⟨m',hm,σ3,H3,I3,w3⟩
  | brk=>exact q3
  | ret v=>exact q3
 | false =>
  rw [if_neg by9];exact wpAny_execs_nil ⟨σ1,H2,I2,q2⟩
end
structure It where
 go : Nat->Hp->Prop
 yld : Nat->Hp->V->Hp->Prop
 stop : Nat->Hp->Prop
def zr9 (X : Cx) (pins : List (Addr × Obj)) (H : Hp) (b : Addr) : Prop :=
 H b = none /\ b ≠ X.env.locals /\ b ∉ X.fs /\ (b∈X.ex \/ X.s₀.heap.objs.size <= b) /\ (∀ x c,X.env.cells.lookup x = some c->c ≠ b) /\ ∀ p∈X.pn++pins,p.1 ≠ b
theorem Inv.zY7 {X : Cx} {pins : List (Addr × Obj)} {σ : St} {H H' : Hp} {s : Shared} {b : Addr} (I : Inv X pins σ H s) (hb : s.heap.objs.size <= b) (hn : H' b = none) : zr9 X pins H' b:=by
 refine ⟨hn,my2 (by6 I.lt hb),I.nofs hb,.inr (ey1 I.sz hb),fun x c e z=>?_,fun p hp z=>?_⟩
 ·obtain ⟨v,q⟩:=I.cell x c e;exact absurd (by6 q.lt (by rw [z]; exact hb)) (ny1 _)
 ·exact absurd (by6 (by2 (I.pin p hp).1) (by rw [z]; exact hb)) (ny1 _)
structure Turn (P : cy7) (w : World) (K : ay5) (tg : Expr) (J : It) (fp : List Addr) (it : Addr) (tn : Nat->Heap->Prop) : Prop where
 mem : it∈fp
 obj : ∀ i h,tn i h->∀ b∈fp,∃ o,h.get? b = some o /\ ∀ v,o.data ≠ .cell v
 keep : ∀ i h h',tn i h->(∀ b∈fp,∀ o,h.get? b = some o->h'.get? b = some o)->tn i h'
 item : ∀ (X : Cx),X.prog = P->X.w = w->X.K = K->X.calm = true->∀ (i : Nat) (pins : List (Addr × Obj)) (s : Shared) (σ : St) (H : Hp) (E : Value->Shared->Prop),Inv X pins σ H s->(∀ b∈fp,zr9 X pins H b)->tn i s.heap->J.go i H ->
  wpAny (model P w) X.A (pyNext (.ref it)) (fun r s1=>∃ u,r = some u /\
   wpAny (model P w) X.A (oy9 tg (.ref it) u) (fun _ s2=>∃ x H',Inv X pins σ H' s2 /\ RelV x u /\ J.yld i H x H' /\ tn (i + 1) s2.heap /\ ∀ b∈fp,H' b = none) E s1) E s
 done : ∀ (X : Cx),X.prog = P->X.w = w->X.K = K->X.calm = true->∀ (i : Nat) (pins : List (Addr × Obj)) (s : Shared) (σ : St) (H : Hp) (E : Value->Shared->Prop),Inv X pins σ H s->(∀ b∈fp,zr9 X pins H b)->tn i s.heap->J.stop i H ->
  wpAny (model P w) X.A (pyNext (.ref it)) (fun r s1=>r = none /\ Inv X pins σ H s1) E s
 self : ∀ (A : Around) (i : Nat) (s : Shared) (Q : Value->Shared->Prop) (E : Value->Shared->Prop),tn i s.heap->Q (.ref it) s->wpAny (model P w) A (pyIter (.ref it)) Q E s
abbrev TI:=St->Hp->(It->Hp->Prop)->Prop
def PIE (X : Cx) (pins : List (Addr × Obj)) (σ : St) (tg : Expr) (R : It->Hp->Prop) (itv : Value) (s2 : Shared) : Prop :=
 ∃ (it : Addr) (fp : List Addr) (tn : Nat->Heap->Prop) (J : It) (H' : Hp),itv = .ref it /\ Inv X pins σ H' s2 /\ Turn X.prog X.w X.K tg J fp it tn /\ tn 0 s2.heap /\ (∀ b∈fp,zr9 X pins H' b) /\ R J H'
theorem zF0 {X : Cx} {pins : List (Addr × Obj)} {σ : St} {tg : Expr} {R : It->Hp->Prop} {itv : Value} {s2 : Shared} {G : Prop} (h : PIE X pins σ tg R itv s2) (k : ∀ (it : Addr) (fp : List Addr) (tn : Nat->Heap->Prop) (J : It) (H' : Hp),itv = .ref it->Inv X pins σ H' s2->Turn X.prog X.w X.K tg J fp it tn->tn 0 s2.heap->(∀ b∈fp,zr9 X pins H' b)->R J H'->G) : G:=by
 refine za0 fun gG=>?_;obtain ⟨it,fp,tn,J,H2,e,I2,T,st2,f2,q⟩:=h;refine gG ?_;clear gG;exact k it fp tn J H2 e I2 T st2 f2 q
def PI (X : Cx) (tg iter : Expr) (wi : TI) : Prop :=
 ∀ (pins : List (Addr × Obj)) (s : Shared) (σ : St) (H : Hp) (R : It->Hp->Prop),Inv X pins σ H s->wi σ H R ->
  wpAny (model X.prog X.w) X.A (eval iter X.env) (fun v s1=>wpAny (model X.prog X.w) X.A (pyIter v) (PIE X pins σ tg R) X.xe s1) X.xe s
theorem zJ9 {M : Model} {A : Around} {E : Value->Shared->Prop} {s : Shared} {tg : Expr} {it : Addr} {u : Value} {o : Obj} {n : String} {vs : Array Value} {Q : Unit->Shared->Prop} (ho : s.heap.get? it = some o) (hc : o.cls = .type n) (hd : o.data = .fields vs)
    (hn : ["enumerate", "zip", "dict_itemiterator", "dict_reverseitemiterator", "odict_iterator", "itertools.zip_longest", "itertools.pairwise"].contains n = false) (hQ : Q () s) : wpAny M A (oy9 tg (.ref it) u) Q E s:=by
  unfold letOwnedTupleGo
  cases tg <;> first
    | exact ay1 hQ
    | (cases u <;> first
        | exact ay1 hQ
        | (refine ay0 (wpAny_load ho ?_)
           rw [hc,hd];show wpAny M A (if (["enumerate", "zip", "dict_itemiterator", "dict_reverseitemiterator", "odict_iterator", "itertools.zip_longest", "itertools.pairwise"].contains n && vs[0]? == some (rawInt _)) = true then _ else _) Q E s;rw [if_neg (by intro h; rw [hn,qy6] at h; cases h)]
           exact ay1 hQ))
def Itl (K : ay5) (a : Addr) : It :=
 ⟨fun i H=>∃ xs x,SqL K H a xs /\ xs[i]? = some x,fun i H x H'=>H' = H /\ ∀ xs,SqL K H a xs->xs[i]? = some x,fun i H=>∃ xs,SqL K H a xs /\ xs.length <= i⟩
def Itt (K : ay5) (a : Addr) : It :=
 ⟨fun i H=>∃ xs x,SqT K H a xs /\ xs[i]? = some x,fun i H x H'=>H' = H /\ ∀ xs,SqT K H a xs->xs[i]? = some x,fun i H=>∃ xs,SqT K H a xs /\ xs.length <= i⟩
def Itr (lo : Int) (n : Nat) : It:=⟨fun i _=>i < n,fun i H x H'=>H' = H /\ x = .int (lo + i),fun i _=>n <= i⟩
theorem zY8 {P : cy7} {w : World} {K : ay5} {tg : Expr} (a it : Addr) : Turn P w K tg (Itl K a) [it] it (fun i h=>h.IsListIter it a i) where
 mem:=by simp
 obj:=fun i h st b hb=>by
  have e : b = it:=by simpa using hb
  subst e;refine za0 fun gG=>?_;obtain ⟨o,e,c,d⟩:=st;refine gG ?_;clear gG;exact ⟨o,e,fun v z=>by rw [d] at z; cases z⟩
 keep:=fun i h h' st k=>st.at fun o e=>k it (by simp) o e
 item:=by
  intro X hP hw hK hc i pins s σ H E I hf st hg;subst hP hw hK;refine za0 fun gG=>?_;obtain ⟨xs,x,hq,hx⟩:=hg;obtain ⟨its,rv,p,hz⟩:=I.list hq;obtain ⟨u,hu,ru⟩:=rv.get hx;obtain ⟨f0,f1,f2,f3,f4,f5⟩:=hf it (by simp);refine gG ?_;clear gG;refine wpAny_pyNext_list_item st p.isList (x:=u) (by simpa using hu) fun h' st' sb=>?_;have I1 : Inv X pins σ H { s with heap:=h' }:=I.turned (t':=s.toks) (fun b o hb e=>(sb.2 b hb).trans e) f0 f1 f3 f4 f5;refine za0 fun gG=>?_;obtain ⟨o,e,c,d⟩:=id st';refine gG ?_;clear gG;exact ⟨u,rfl,zJ9 (s:={ s with heap:=h' }) e c d (by decide) ⟨x,H,I1,ru,⟨rfl,fun ys hy=>by rw [I.zb15 hy hq]; exact hx⟩,st',fun b hb=>(hf b hb).1⟩⟩
 done:=by
  intro X hP hw hK hc i pins s σ H E I hf st hg;subst hP hw hK;refine za0 fun gG=>?_;obtain ⟨xs,hq,hx⟩:=hg;obtain ⟨its,rv,p,hz⟩:=I.list hq;obtain ⟨f0,f1,f2,f3,f4,f5⟩:=hf it (by simp);refine gG ?_;clear gG;have hl:=rv.length;exact wpAny_pyNext_list_end (I.ok.hd hc) st p.isList (by simp; omega) fun h' eb=>⟨rfl,I.turned (t':=s.toks) (fun b o hb e=>eb b o hb e) f0 f1 f3 f4 f5⟩
 self:=fun _ _ _ _ _ st h=>wpAny_pyIter_listiter st h
theorem zT0 {P : cy7} {w : World} {K : ay5} {tg : Expr} (a it : Addr) : Turn P w K tg (Itt K a) [it] it (fun i h=>h.IsTupleIter it a i) where
 mem:=by simp
 obj:=fun i h st b hb=>by
  have e : b = it:=by simpa using hb
  subst e;refine za0 fun gG=>?_;obtain ⟨o,e,c,d⟩:=st;refine gG ?_;clear gG;exact ⟨o,e,fun v z=>by rw [d] at z; cases z⟩
 keep:=fun i h h' st k=>st.at fun o e=>k it (by simp) o e
 item:=by
  intro X hP hw hK hc i pins s σ H E I hf st hg;subst hP hw hK;refine za0 fun gG=>?_;obtain ⟨xs,x,hq,hx⟩:=hg;obtain ⟨its,rv,p,hz⟩:=I.tuple hq;obtain ⟨u,hu,ru⟩:=rv.get hx;obtain ⟨f0,f1,f2,f3,f4,f5⟩:=hf it (by simp);refine gG ?_;clear gG;refine wpAny_pyNext_tuple_item st (show s.heap.IsTuple a its.toArray from p) (x:=u) (by simpa using hu) fun h' st' sb=>?_;have I1 : Inv X pins σ H { s with heap:=h' }:=I.turned (t':=s.toks) (fun b o hb e=>(sb.2 b hb).trans e) f0 f1 f3 f4 f5;refine za0 fun gG=>?_;obtain ⟨o,e,c,d⟩:=id st';refine gG ?_;clear gG;exact ⟨u,rfl,zJ9 (s:={ s with heap:=h' }) e c d (by decide) ⟨x,H,I1,ru,⟨rfl,fun ys hy=>by rw [I.zE9 hy hq]; exact hx⟩,st',fun b hb=>(hf b hb).1⟩⟩
 done:=by
  intro X hP hw hK hc i pins s σ H E I hf st hg;subst hP hw hK;refine za0 fun gG=>?_;obtain ⟨xs,hq,hx⟩:=hg;obtain ⟨its,rv,p,hz⟩:=I.tuple hq;obtain ⟨f0,f1,f2,f3,f4,f5⟩:=hf it (by simp);refine gG ?_;clear gG;have hl:=rv.length;exact wpAny_pyNext_tuple_end (I.ok.hd hc) st (show s.heap.IsTuple a its.toArray from p) (by simp; omega) fun h' eb=>⟨rfl,I.turned (t':=s.toks) (fun b o hb e=>eb b o hb e) f0 f1 f3 f4 f5⟩
 self:=fun _ _ _ _ _ st h=>wpAny_pyIter_tupleiter st h
theorem zT1 {P : cy7} {w : World} {K : ay5} {tg : Expr} (it : Addr) (lo : Int) (n : Nat) : Turn P w K tg (Itr lo n) [it] it (fun i h=>IsRangeIter h it (lo + (i : Nat) * 1) ((n : Int) - (i : Nat)) 1) where
 mem:=by simp
 obj:=fun i h st b hb=>by
  have e : b = it:=by simpa using hb
  subst e
  exact ⟨_,st,fun v z=>by
   have z' : Data.fields _ = Data.cell v:=z
   cases z'⟩
 keep:=fun i h h' st k=>k it (by simp) _ st
 item:=by
  intro X hP hw hK hc i pins s σ H E I hf st hg;subst hP hw hK;refine za0 fun gG=>?_;obtain ⟨f0,f1,f2,f3,f4,f5⟩:=hf it (by simp);refine gG ?_;clear gG;have W:=Walks.range (prog:=X.prog) (w:=X.w) (I.ok.hd hc) it lo 1 n;refine W.item i s _ _ hg st fun v h' tk hv st' kk=>?_;refine za0 fun gG=>?_;obtain ⟨t,rfl⟩:=hv;refine gG ?_;clear gG;have I1 : Inv X pins σ H { s with heap:=h',toks:=tk }:=I.turned (fun b o hb e=>kk b o (by simpa using hb) e) f0 f1 f3 f4 f5;refine ⟨_,rfl,zJ9 (s:={ s with heap:=h',toks:=tk }) (n := "range_iterator") st' rfl rfl (by decide) ⟨.int (lo + i),H,I1,⟨t,?_⟩,⟨rfl,rfl⟩,st',fun b hb=>(hf b hb).1⟩⟩;rw [Int.mul_one]
 done:=by
  intro X hP hw hK hc i pins s σ H E I hf st hg;subst hP hw hK;refine za0 fun gG=>?_;obtain ⟨f0,f1,f2,f3,f4,f5⟩:=hf it (by simp);refine gG ?_;clear gG;exact wpAny_pyNext_range_end (I.ok.hd hc) st (by have : n <= i:=hg; omega) fun h' eb=>⟨rfl,I.turned (t':=s.toks) (fun b o hb e=>eb b o hb e) f0 f1 f3 f4 f5⟩
 self:=fun _ _ _ _ _ st h=>wpAny_pyIter_rangeiter st h
section
variable {X : Cx} {tg : Expr}
def ze64 (K : ay5) (tl : TE) : TI:=fun σ H R=>tl σ H fun x H1=>∃ a,x = .ref a /\ (∃ xs,SqL K H1 a xs) /\ R (Itl K a) H1
def iTup (K : ay5) (tl : TE) : TI:=fun σ H R=>tl σ H fun x H1=>∃ a,x = .ref a /\ (∃ xs,SqT K H1 a xs) /\ R (Itt K a) H1
theorem zY9 {l : Expr} {tl : TE} (hl : PE X l tl) : PI X tg l (ze64 X.K tl):=by
 intro pins s σ H R I h;refine thn (hl pins s σ H _ I h) fun v s1 zR=>?_;refine za0 fun gG=>?_;obtain ⟨x,H1,I1,r1,q1⟩:=zR;obtain ⟨a,e,⟨xs,hq⟩,q⟩:=q1;subst e;refine gG ?_;clear gG;cases r1;refine za0 fun gG=>?_;obtain ⟨its,rv,p,hz⟩:=I1.list hq;refine gG ?_;clear gG;refine wpAny_pyIter_list p.isList ?_;refine ⟨s1.heap.objs.size,[s1.heap.objs.size],_,_,H1,rfl,I1.kept (t':=s1.toks) fun b o e=>ay2 _ e,zY8 a _,⟨_,ay7 _ rfl,rfl,rfl⟩,fun b hb=>?_,q⟩;have e : b = s1.heap.objs.size:=by simpa using hb
 subst e;exact I1.zY7 (ay6 _) (I1.hok.fresh (ay6 _))
theorem zc00 {l : Expr} {tl : TE} (hl : PE X l tl) : PI X tg l (iTup X.K tl):=by
 intro pins s σ H R I h;refine thn (hl pins s σ H _ I h) fun v s1 zR=>?_;refine za0 fun gG=>?_;obtain ⟨x,H1,I1,r1,q1⟩:=zR;obtain ⟨a,e,⟨xs,hq⟩,q⟩:=q1;subst e;refine gG ?_;clear gG;cases r1;refine za0 fun gG=>?_;obtain ⟨its,rv,p,hz⟩:=I1.tuple hq;refine gG ?_;clear gG;refine wpAny_pyIter_tuple (show s1.heap.IsTuple a its.toArray from p) ?_;refine ⟨s1.heap.objs.size,[s1.heap.objs.size],_,_,H1,rfl,I1.kept (t':=s1.toks) fun b o e=>ay2 _ e,zT0 a _,⟨_,ay7 _ rfl,rfl,rfl⟩,fun b hb=>?_,q⟩;have e : b = s1.heap.objs.size:=by simpa using hb
 subst e;exact I1.zY7 (ay6 _) (I1.hok.fresh (ay6 _))
theorem zb18 {pins : List (Addr × Obj)} {σ : St} {H : Hp} {s : Shared} {R : It->Hp->Prop} {E : Value->Shared->Prop} {lo hi : Int} {t u v : Tok} {tk : Nat} (I : Inv X pins σ H s) (h1 : -(2 ^ 62) <= lo) (h2 : lo < 2 ^ 62) (h3 : -(2 ^ 62) <= hi) (h4 : hi < 2 ^ 62)
  (q : R (Itr lo (hi - lo).toNat) H) : wpAny (model X.prog X.w) X.A (pyIter (.ref s.heap.objs.size)) (PIE X pins σ tg R) E { s with heap:=s.heap.push { cls:=.type "range",data:=.fields #[.int lo t,.int hi u,.int 1 v] },toks:=tk }:=by
 refine wpAny_pyIter_range (IsRange.new ..) (small_one h1 h2 h3 h4) ?_;have I1 : Inv X pins σ H { s with heap:=s.heap.push { cls:=.type "range",data:=.fields #[.int lo t,.int hi u,.int 1 v] },toks:=tk }:=I.kept fun b o e=>ay2 _ e
 refine ⟨(s.heap.push { cls:=.type "range",data:=.fields #[.int lo t,.int hi u,.int 1 v] }).objs.size,[(s.heap.push { cls:=.type "range",data:=.fields #[.int lo t,.int hi u,.int 1 v] }).objs.size],_,_,H,rfl,
  I1.kept (t':=tk) fun b o e=>ay2 _ e,zT1 _ lo (hi - lo).toNat,?_,fun b hb=>?_,q⟩
 ·have e1 : lo + ((0 : Nat) : Int) * 1 = lo:=by simp
  have e2 : (((hi - lo).toNat : Nat) : Int) - ((0 : Nat) : Int) = Builtin.Range.rangeSize lo hi 1:=by rw [rangeSize_one]; split <;> omega
  show IsRangeIter _ _ (lo + ((0 : Nat) : Int) * 1) ((((hi - lo).toNat : Nat) : Int) - ((0 : Nat) : Int)) 1;rw [e1,e2];exact ay7 _ rfl
 ·have e : b = (s.heap.push { cls:=.type "range",data:=.fields #[.int lo t,.int hi u,.int 1 v] }).objs.size:=by simpa using hb
  subst e;exact I1.zY7 (ay6 _) (I1.hok.fresh (ay6 _))
def ze65 (ta : TA) : TI:=fun σ H R=>ta σ H fun vs H1=>∃ j : Int,vs = [.int j] /\ -(2 ^ 62) <= j /\ j < 2 ^ 62 /\ R (Itr 0 j.toNat) H1
theorem zZ0 {a : Expr} {ta : TA} {p pos : Pos} (hg : Gl X "range") (hm : X.mg "range" = none) (ha : PA X [a] ta) (hs : fy4 [a] X.env = [(false,eval a X.env)]:=by rfl) : PI X tg (.Call (.Name "range" p) [a] [] pos) (ze65 ta):=by
 intro pins s σ H R I h;refine Call_ (zE8 I hg hm boot_range (ty8 (thn (ha pos pins s σ H _ I h) fun us s1 ⟨vs,H1,I1,r1,q1⟩=>?_) hs rfl));refine za0 fun gG=>?_;obtain ⟨j,e,q1,q2,q⟩:=q1;subst e;refine gG ?_;clear gG;cases r1 with
 | cons r rr =>
  cases rr;refine za0 fun gG=>?_;obtain ⟨t,rfl⟩:=r;refine gG ?_;clear gG;exact call_range_1 (zb18 I1 (by omega) (by omega) q1 q2 (by simpa using q))
def tFor (wi : TI) (g : TG) (tb : TS) : TS:=fun D σ H=>wi σ H fun J H1=>∃ W : Nat->Nat->St->Hp->Prop,(∃ m,W 0 m σ H1) /\ ∀ i m σ H,W i m σ H ->
 (J.stop i H /\ D.nx σ H) \/ (J.go i H /\ ∃ N : St->Hp->Prop,(∀ σ' H',N σ' H'->∃ m',m' < m /\ W (i + 1) m' σ' H') /\ ∀ x H',J.yld i H x H'->g x σ H' fun σ2 H2=>tb { D with nx:=N,ct:=N,bk:=D.nx } σ2 H2)
def zf2 (fp : List Addr) (h : Heap) : List (Addr × Obj):=fp.filterMap fun b=>(h.get? b).map fun o=>(b,o)
theorem ze6 {fp : List Addr} {h : Heap} {b : Addr} {o : Obj} (hb : b∈fp) (e : h.get? b = some o) : (b,o)∈zf2 fp h:=List.mem_filterMap.mpr ⟨b,hb,by rw [e]; rfl⟩
theorem zg5 {fp : List Addr} {h : Heap} {p : Addr × Obj} (hp : p∈zf2 fp h) : p.1∈fp /\ h.get? p.1 = some p.2:=by
 refine za0 fun gG=>?_;obtain ⟨b,hb,e⟩:=List.mem_filterMap.mp hp;refine gG ?_;clear gG;cases q : h.get? b with
 | none=>rw [q] at e; cases e
 | some o =>
  rw [q] at e;have e' : (b,o) = p:=jy1 e;subst e';exact ⟨hb,q⟩
theorem Inv.pinned {pins : List (Addr × Obj)} {σ : St} {H : Hp} {s : Shared} {fp : List Addr} (I : Inv X pins σ H s) (hf : ∀ b∈fp,zr9 X pins H b) (ho : ∀ b∈fp,∃ o,s.heap.get? b = some o /\ ∀ v,o.data ≠ .cell v) : Inv X (pins++zf2 fp s.heap) σ H s :=
 I.zl7 fun p hp=>(ey0.mp hp).elim (fun z=>I.pin p (dy3 _ z)) fun z=>by
  refine za0 fun gG=>?_;obtain ⟨hb,e⟩:=zg5 z;obtain ⟨f0,f1,f2,_⟩:=hf p.1 hb;obtain ⟨o,e',d⟩:=ho p.1 hb;refine gG ?_;clear gG;rw [e] at e'; cases e';exact ⟨e,f0,f1,f2,d⟩
theorem Inv.zA2 {pins pl : List (Addr × Obj)} {σ : St} {H : Hp} {s : Shared} (I : Inv X (pins++pl) σ H s) : Inv X pins σ H s:=I.zl7 fun p hp=>I.pin p (dy3 _ (ky3 _ hp))
theorem zc01 {iter : Expr} {body : List Stmt} {wi : TI} {g : TG} {tb : TS} {pos : Pos} (hp : PassesOwn (model X.prog X.w) X.A X.env X.xe) (hc : X.calm = true) (hi : PI X tg iter wi) (hg : PG X tg g) (hb : PSs X body tb)
  (hs : ∀ x,ey4 iter X.env x = pure x:=by intro _; rfl) : PS X (.For tg iter body [] pos) (tFor wi g tb):=by
 intro pins s σ H D I h;refine wpAny_For (thn (hi pins s σ H _ I h) fun v s1 h1=>thn h1 fun itv s2 h2=>?_) hs;refine zF0 h2 fun it fp tn J H2 e I2 T st2 f2 qR=>?_;refine za0 fun gG=>?_;obtain ⟨W,⟨m0,w0⟩,turn⟩:=qR;subst e;refine gG ?_;clear gG;have stat : ∀ {H' : Hp},(∀ b∈fp,H' b = none)->∀ b∈fp,zr9 X pins H' b:=fun hn b hb=>⟨hn b hb,(f2 b hb).2⟩
 refine codeAny_forLoop_any (fun n s'=>∃ i σ' H',Inv X pins σ' H' s' /\ tn i s'.heap /\ (∀ b∈fp,H' b = none) /\ W i n σ' H') ?_ m0 ⟨0,σ,H2,I2,st2,fun b hb=>(f2 b hb).1,w0⟩;intro n s3 gX;refine za0 fun gG=>?_;obtain ⟨i,σ3,H3,I3,st3,fr3,w3⟩:=gX;refine gG ?_;clear gG;rcases turn i n σ3 H3 w3 with ⟨stop,qn⟩ | ⟨go,N,hN,step⟩
 ·refine ry2 hp (thn (T.done X rfl rfl rfl hc i pins s3 σ3 H3 X.xe I3 (stat fr3) st3 stop) fun r s4 ⟨hr,I4⟩=>?_);subst hr;exact wpAny_execs_nil ⟨σ3,H3,I4,qn⟩
 ·refine ry2 hp (thn (T.item X rfl rfl rfl hc i pins s3 σ3 H3 X.xe I3 (stat fr3) st3 go) fun r s4 ⟨u,hr,h4⟩=>?_);subst hr;refine ry2 hp (thn h4 fun _ s5 ⟨x,H5,I5,r5,y5,st5,fr5⟩=>?_);have I5':=I5.pinned (stat fr5) (T.obj _ _ st5);refine ry2 hp (thn (hg _ s5 σ3 H5 x u _ I5' r5 (step x H5 y5)) fun _ s6 ⟨σ6,H6,I6,q6⟩=>?_);refine ry2 hp (thn (hb _ s6 σ6 H6 _ I6 q6) fun f s7 q7=>?_)
  have again : ∀ {σ7 : St} {H7 : Hp},Inv X (pins++zf2 fp s5.heap) σ7 H7 s7->N σ7 H7->∃ m,m < n /\ ∃ i σ' H',Inv X pins σ' H' s7 /\ tn i s7.heap /\ (∀ b∈fp,H' b = none) /\ W i m σ' H':=fun {σ7 H7} I7 n7=>by
   refine za0 fun gG=>?_;obtain ⟨m',hm,w7⟩:=hN σ7 H7 n7;refine gG ?_;clear gG;refine ⟨m',hm,i + 1,σ7,H7,I7.zA2,T.keep _ _ _ st5 fun b hb o e=>(I7.pin (b,o) (dy3 _ (dy3 _ (ze6 hb e)))).1,fun b hb=>?_,w7⟩;refine za0 fun gG=>?_;obtain ⟨o,e,d⟩:=T.obj _ _ st5 b hb;refine gG ?_;clear gG;exact (I7.pin (b,o) (dy3 _ (dy3 _ (ze6 hb e)))).2.1
  cases f with
  | next=>obtain ⟨σ7,H7,I7,n7⟩:=q7; exact again I7 n7
  | cont=>obtain ⟨σ7,H7,I7,n7⟩:=q7; exact again I7 n7
  | brk=>obtain ⟨σ7,H7,I7,q7⟩:=q7; exact ⟨σ7,H7,I7.zA2,q7⟩
  | ret v=>obtain ⟨x7,σ7,H7,I7,r7,q7⟩:=q7; exact ⟨x7,σ7,H7,I7.zA2,r7,q7⟩
end
abbrev R2:=V->V->Hp->VK->Prop
def OpR (X : Cx) (f : Value->Value->Sem Value) (r : R2) : Prop :=
 ∀ (pins : List (Addr × Obj)) (s : Shared) (σ : St) (H : Hp) (x y : V) (v u : Value) (Q : VK),Inv X pins σ H s->RelV x v->RelV y u->r x y H Q ->
  wpAny (model X.prog X.w) X.A (f v u) (EP X pins σ Q) X.xe s
def UnR (X : Cx) (f : Value->Sem Value) (r : V->Hp->VK->Prop) : Prop :=
 ∀ (pins : List (Addr × Obj)) (s : Shared) (σ : St) (H : Hp) (x : V) (v : Value) (Q : VK),Inv X pins σ H s->RelV x v->r x H Q ->
  wpAny (model X.prog X.w) X.A (f v) (EP X pins σ Q) X.xe s
def zj8 (X : Cx) (f : Value) (r : List V->Hp->VK->Prop) : Prop :=
 ∀ (pins : List (Addr × Obj)) (s : Shared) (σ : St) (H : Hp) (xs : List V) (us : List Value) (Q : VK),Inv X pins σ H s->Vals xs us->r xs H Q ->
  wpAny (model X.prog X.w) X.A (call f us) (EP X pins σ Q) X.xe s
def TruR (X : Cx) (r : V->Hp->(Bool->Hp->Prop)->Prop) : Prop :=
 ∀ (pins : List (Addr × Obj)) (s : Shared) (σ : St) (H : Hp) (x : V) (v : Value) (Q : Bool->Hp->Prop),Inv X pins σ H s->RelV x v->r x H Q ->
  wpAny (model X.prog X.w) X.A (truthy v) (TP X pins σ Q) X.xe s
def tOp (r : R2) (ta tb : TE) : TE:=fun σ H Q=>ta σ H fun x H1=>tb σ H1 fun y H2=>r x y H2 Q
def tUn (r : V->Hp->VK->Prop) (ta : TE) : TE:=fun σ H Q=>ta σ H fun x H1=>r x H1 Q
def rI (C : Int->Int->Prop) (g : Int->Int->V) : R2:=fun x y H Q=>∃ i j,x = .int i /\ y = .int j /\ C i j /\ Q (g i j) H
def rI0 (g : Int->Int->V) : R2:=fun x y H Q=>∃ i j,x = .int i /\ y = .int j /\ Q (g i j) H
def rU (g : Int->V) : V->Hp->VK->Prop:=fun x H Q=>∃ i,x = .int i /\ Q (g i) H
section
variable {X : Cx} {a b c : Expr} {ta tb tc : TE} {pos : Pos}
theorem binT (ha : PE X a ta) (hb : PE X b tb) {pins : List (Addr × Obj)} {s : Shared} {σ : St} {H : Hp} {R : V->V->Hp->Prop} (I : Inv X pins σ H s)
  (h : ta σ H fun x H1=>tb σ H1 fun y H2=>R x y H2) {Q : Value->Shared->Prop} {f : Value->Value->Sem Value}
  (hf : ∀ v u s2 x y H2,Inv X pins σ H2 s2->RelV x v->RelV y u->R x y H2->wpAny (model X.prog X.w) X.A (f v u) Q X.xe s2) :
  wpAny (model X.prog X.w) X.A (eval a X.env) (fun v s₁=>wpAny (model X.prog X.w) X.A (eval b X.env) (fun u s₂=>wpAny (model X.prog X.w) X.A (f v u) Q X.xe s₂) X.xe s₁) X.xe s:=by
 refine thn (ha pins s σ H _ I h) fun v s1 zR=>?_;refine za0 fun gG=>?_;obtain ⟨x,H1,I1,r1,q1⟩:=zR;refine gG ?_;clear gG;refine thn (hb pins s1 σ H1 _ I1 q1) fun u s2 zR=>?_;refine za0 fun gG=>?_;obtain ⟨y,H2,I2,r2,q2⟩:=zR;refine gG ?_;clear gG;exact hf v u s2 x y H2 I2 r1 r2 q2
theorem ze67 {op : Operator} {r : R2} (ho : OpR X (oy0 op) r) (ha : PE X a ta) (hb : PE X b tb) : PE X (.BinOp a op b pos) (tOp r ta tb):=by
 intro pins s σ H Q I h;exact wpAny_BinOp (binT ha hb I h fun v u s2 x y H2 I2 rx ry q=>ho pins s2 σ H2 x y v u Q I2 rx ry q)
theorem ze68 {op : UnaryOp} {r : V->Hp->VK->Prop} (ho : UnR X (unaryOp op) r) (ha : PE X a ta) : PE X (.UnaryOp op a pos) (tUn r ta):=by
 intro pins s σ H Q I h;exact UnaryOp_ (thn (ha pins s σ H _ I h) fun v s1 zR=>by obtain ⟨x,H1,I1,r1,q1⟩:=zR; exact ho pins s1 σ H1 x v Q I1 r1 q1)
theorem opI {f : Value->Value->Sem Value} {C : Int->Int->Prop} {g : Int->Int->Int}
  (rule : ∀ (i j : Int) (t u : Tok) (s : Shared) (Q : Value->Shared->Prop) (E : Value->Shared->Prop),C i j->Q (.int (g i j) s.toks) { s with toks:=s.toks + 1 }->wpAny (model X.prog X.w) X.A (f (.int i t) (.int j u)) Q E s) :
  OpR X f (rI C fun i j=>.int (g i j)):=by
 intro pins s σ H x y v u Q I rx ry h;refine za0 fun gG=>?_;obtain ⟨i,j,rfl,rfl,hc,q⟩:=h;obtain ⟨t,rfl⟩:=rx;obtain ⟨t',rfl⟩:=ry;refine gG ?_;clear gG;exact rule i j t t' s _ _ hc ⟨.int (g i j),H,I.tok _,⟨_,rfl⟩,q⟩
theorem opI0 {f : Value->Value->Sem Value} {g : Int->Int->Int}
  (rule : ∀ (i j : Int) (t u : Tok) (s : Shared) (Q : Value->Shared->Prop) (E : Value->Shared->Prop),Q (.int (g i j) s.toks) { s with toks:=s.toks + 1 }->wpAny (model X.prog X.w) X.A (f (.int i t) (.int j u)) Q E s) :
  OpR X f (rI0 fun i j=>.int (g i j)):=by
 intro pins s σ H x y v u Q I rx ry h;refine za0 fun gG=>?_;obtain ⟨i,j,rfl,rfl,q⟩:=h;obtain ⟨t,rfl⟩:=rx;obtain ⟨t',rfl⟩:=ry;refine gG ?_;clear gG;exact rule i j t t' s _ _ ⟨.int (g i j),H,I.tok _,⟨_,rfl⟩,q⟩
theorem opB0 {f : Value->Value->Sem Value} {g : Int->Int->Bool}
  (rule : ∀ (i j : Int) (t u : Tok) (s : Shared) (Q : Value->Shared->Prop) (E : Value->Shared->Prop),Q (.bool (g i j)) s->wpAny (model X.prog X.w) X.A (f (.int i t) (.int j u)) Q E s) :
  OpR X f (rI0 fun i j=>.bl (g i j)):=by
 intro pins s σ H x y v u Q I rx ry h;refine za0 fun gG=>?_;obtain ⟨i,j,rfl,rfl,q⟩:=h;obtain ⟨t,rfl⟩:=rx;obtain ⟨t',rfl⟩:=ry;refine gG ?_;clear gG;exact rule i j t t' s _ _ ⟨.bl (g i j),H,I,rfl,q⟩
def CDiv (i j : Int) : Prop:=0 < j /\ j < 1073741824
def CPow (i j : Int) : Prop:=0 <= j /\ j <= 1000000 /\ i.natAbs < 2 ^ 64
def CMul (i j : Int) : Prop:=(-(2 ^ 64) < i /\ i < 2 ^ 64) \/ (-(2 ^ 64) < j /\ j < 2 ^ 64)
theorem CMul.ok {i j : Int} (h : CMul i j) : IntMulOk i j:=by
 rcases h with ⟨h1,h2⟩ | ⟨h1,h2⟩
 ·exact .of_left (intBits_le_64 h1 h2)
 ·exact .of_right (intBits_le_64 h1 h2)
theorem zd50 : OpR X (oy0 .Add) (rI0 fun i j=>.int (i + j)):=opI0 fun _ _ _ _ _ _ _ q=>add_int q
theorem zd51 : OpR X (oy0 .Sub) (rI0 fun i j=>.int (i - j)):=opI0 fun _ _ _ _ _ _ _ q=>sub_int q
theorem zd52 : OpR X (oy0 .Mult) (rI CMul fun i j=>.int (i * j)):=opI fun _ _ _ _ _ _ _ hc q=>mul_int q hc.ok
theorem zd53 : OpR X (oy0 .Mod) (rI (fun _ j=>0 < j) fun i j=>.int (i % j)):=opI fun i j _ _ _ _ _ hc q=>by
 have h1 : (0 : Int) < j:=hc;exact mod_int' (by omega) (by rw [Int.fmod_eq_emod_of_nonneg i (by omega)]; exact q)
theorem zd54 : OpR X (oy0 .Pow) (rI CPow fun i j=>.int (i ^ j.toNat)):=opI fun _ _ _ _ _ _ _ hc q=>pow_int_small hc.1 hc.2.1 hc.2.2 q
theorem unI {f : Value->Sem Value} {g : Int->Int}
  (rule : ∀ (i : Int) (t : Tok) (s : Shared) (Q : Value->Shared->Prop) (E : Value->Shared->Prop),Q (.int (g i) s.toks) { s with toks:=s.toks + 1 }->wpAny (model X.prog X.w) X.A (f (.int i t)) Q E s) :
  UnR X f (rU fun i=>.int (g i)):=by
 intro pins s σ H x v Q I rx h;refine za0 fun gG=>?_;obtain ⟨i,rfl,q⟩:=h;obtain ⟨t,rfl⟩:=rx;refine gG ?_;clear gG;exact rule i t s _ _ ⟨.int (g i),H,I.tok _,⟨_,rfl⟩,q⟩
theorem zd55 : UnR X (unaryOp .USub) (rU fun i=>.int (-i)):=unI fun _ _ _ _ _ q=>neg_int q
end
def scal : V->V->Bool
 | .non,.non=>true | .non,.int _=>true | .int _,.non=>true | .non,.bl _=>true | .bl _,.non=>true | .non,.str _=>true | .str _,.non=>true
 | .int _,.int _=>true | .bl _,.bl _=>true | .str _,.str _=>true | .byt _,.byt _=>true
 | .int _,.str _=>true | .str _,.int _=>true | .bl _,.str _=>true | .str _,.bl _=>true
 | _,_=>false
def rEq : R2:=fun x y H Q=>scal x y = true /\ Q (.bl (decide (x = y))) H
def rNe : R2:=fun x y H Q=>scal x y = true /\ Q (.bl (!decide (x = y))) H
theorem zZ1 {i j : Int} : decide (V.int i = V.int j) = (i == j):=by
 rw [py0];simp
theorem zc02 {i j : Bool} : decide (V.bl i = V.bl j) = (i == j):=by
 rw [py0];simp
theorem zZ2 {i j : Str} : decide (V.str i = V.str j) = (i == j):=by
 rw [py0];simp
theorem zZ3 {i j : Array UInt8} : decide (V.byt i = V.byt j) = (i.toList == j.toList):=by
 rw [py0];cases i;cases j;simp
section
variable {X : Cx} {a b c : Expr} {ta tb tc : TE} {pos : Pos}
theorem zc7 {pins : List (Addr × Obj)} {σ : St} {H : Hp} {s : Shared} {Q : VK} {k k' : Bool} (I : Inv X pins σ H s) (q : Q (.bl k) H) (e : k = k') : EP X pins σ Q (.bool k') s:=by
 subst e;exact ⟨.bl k,H,I,rfl,q⟩
theorem zd56 : OpR X (gy5 .Eq) rEq:=by
 intro pins s σ H x y v u Q I rx ry h;obtain ⟨hs,q⟩:=h;cases x with
 | non =>
  cases rx;cases y with
  | non=>cases ry; exact PySem.EqNone.eq_none_none (zc7 I q (by simp))
  | bl j=>cases ry; exact PySem.EqNone.eq_none_bool (zc7 I q (by simp))
  | int j=>obtain ⟨t',rfl⟩:=ry; exact PySem.EqNone.eq_none_int (zc7 I q (by simp))
  | str j=>obtain ⟨t',rfl⟩:=ry; exact PySem.EqNone.eq_none_str (zc7 I q (by simp))
  | _=>exact absurd (show false = true from hs) by9
 | bl i =>
  cases rx;cases y with
  | non=>cases ry; exact PySem.EqNone.eq_bool_none (zc7 I q (by simp))
  | bl j=>cases ry; exact eq_bool (zc7 I q zc02)
  | str j=>obtain ⟨t',rfl⟩:=ry; exact PySem.EqMixed.eq_bool_str (zc7 I q (by simp))
  | _=>exact absurd (show false = true from hs) by9
 | int i =>
  refine za0 fun gG=>?_;obtain ⟨t,rfl⟩:=rx;refine gG ?_;clear gG;cases y with
  | non=>cases ry; exact PySem.EqNone.eq_int_none (zc7 I q (by simp))
  | int j=>obtain ⟨t',rfl⟩:=ry; exact eq_int (zc7 I q zZ1)
  | str j=>obtain ⟨t',rfl⟩:=ry; exact PySem.EqMixed.eq_int_str (zc7 I q (by simp))
  | _=>exact absurd (show false = true from hs) by9
 | str i =>
  refine za0 fun gG=>?_;obtain ⟨t,rfl⟩:=rx;refine gG ?_;clear gG;cases y with
  | non=>cases ry; exact PySem.EqNone.eq_str_none (zc7 I q (by simp))
  | bl j=>cases ry; exact PySem.EqMixed.eq_str_bool (zc7 I q (by simp))
  | int j=>obtain ⟨t',rfl⟩:=ry; exact PySem.EqMixed.eq_str_int (zc7 I q (by simp))
  | str j=>obtain ⟨t',rfl⟩:=ry; exact eq_str (zc7 I q zZ2)
  | _=>exact absurd (show false = true from hs) by9
 | byt i =>
  refine za0 fun gG=>?_;obtain ⟨t,rfl⟩:=rx;refine gG ?_;clear gG;cases y with
  | byt j=>obtain ⟨t',rfl⟩:=ry; exact PySem.W.eq_bytes (zc7 I q zZ3)
  | _=>exact absurd (show false = true from hs) by9
 | _=>cases y <;> exact absurd (show false = true from hs) by9
theorem zc42 : OpR X (gy5 .NotEq) rNe:=by
 intro pins s σ H x y v u Q I rx ry h;obtain ⟨hs,q⟩:=h;cases x with
 | non =>
  cases rx;cases y with
  | non=>cases ry; exact PySem.EqNone.ne_none_none (zc7 I q (by simp))
  | bl j=>cases ry; exact PySem.EqNone.ne_none_bool (zc7 I q (by simp))
  | int j=>obtain ⟨t',rfl⟩:=ry; exact PySem.EqNone.ne_none_int (zc7 I q (by simp))
  | str j=>obtain ⟨t',rfl⟩:=ry; exact PySem.EqNone.ne_none_str (zc7 I q (by simp))
  | _=>exact absurd (show false = true from hs) by9
 | bl i =>
  cases rx;cases y with
  | non=>cases ry; exact PySem.EqNone.ne_bool_none (zc7 I q (by simp))
  | bl j=>cases ry; exact ne_bool (zc7 I q (congrArg not zc02))
  | str j=>obtain ⟨t',rfl⟩:=ry; exact PySem.EqMixed.ne_bool_str (zc7 I q (by simp))
  | _=>exact absurd (show false = true from hs) by9
 | int i =>
  refine za0 fun gG=>?_;obtain ⟨t,rfl⟩:=rx;refine gG ?_;clear gG;cases y with
  | non=>cases ry; exact PySem.EqNone.ne_int_none (zc7 I q (by simp))
  | int j=>obtain ⟨t',rfl⟩:=ry; exact ne_int (zc7 I q (congrArg not zZ1))
  | str j=>obtain ⟨t',rfl⟩:=ry; exact PySem.EqMixed.ne_int_str (zc7 I q (by simp))
  | _=>exact absurd (show false = true from hs) by9
 | str i =>
  refine za0 fun gG=>?_;obtain ⟨t,rfl⟩:=rx;refine gG ?_;clear gG;cases y with
  | non=>cases ry; exact PySem.EqNone.ne_str_none (zc7 I q (by simp))
  | bl j=>cases ry; exact PySem.EqMixed.ne_str_bool (zc7 I q (by simp))
  | int j=>obtain ⟨t',rfl⟩:=ry; exact PySem.EqMixed.ne_str_int (zc7 I q (by simp))
  | str j=>obtain ⟨t',rfl⟩:=ry; exact ne_str (zc7 I q (congrArg not zZ2))
  | _=>exact absurd (show false = true from hs) by9
 | byt i =>
  refine za0 fun gG=>?_;obtain ⟨t,rfl⟩:=rx;refine gG ?_;clear gG;cases y with
  | byt j=>obtain ⟨t',rfl⟩:=ry; exact PySem.W.ne_bytes (zc7 I q (congrArg not zZ3))
  | _=>exact absurd (show false = true from hs) by9
 | _=>cases y <;> exact absurd (show false = true from hs) by9
theorem ze70 : OpR X (gy5 .Lt) (rI0 fun i j=>.bl (decide (i < j))):=opB0 fun _ _ _ _ _ _ _ q=>lt_int q
theorem ze71 : OpR X (gy5 .LtE) (rI0 fun i j=>.bl (decide (i <= j))):=opB0 fun _ _ _ _ _ _ _ q=>le_int q
theorem ze72 : OpR X (gy5 .Gt) (rI0 fun i j=>.bl (decide (j < i))):=opB0 fun _ _ _ _ _ _ _ q=>gt_int q
theorem zZ4 : OpR X (gy5 .In) (fun x y H Q=>∃ i j,x = .str i /\ y = .str j /\ Q (.bl (!(wy8 j i 0 j.length 1).isEmpty)) H):=by
 intro pins s σ H x y v u Q I rx ry h;refine za0 fun gG=>?_;obtain ⟨i,j,rfl,rfl,q⟩:=h;obtain ⟨t,rfl⟩:=rx;obtain ⟨t',rfl⟩:=ry;refine gG ?_;clear gG;exact in_str (zc7 I q rfl)
theorem zd57 : OpR X (gy5 .Is) (fun x y H Q=>y = .non /\ Q (.bl (decide (x = .non))) H):=by
 intro pins s σ H x y v u Q I rx ry h;refine za0 fun gG=>?_;obtain ⟨rfl,q⟩:=h;refine gG ?_;clear gG;cases ry;refine is_none_gen (zc7 I q ?_)
 cases x <;> first
  | (cases rx; rfl)
  | (obtain ⟨t,rfl⟩:=rx; rfl)
theorem zc43 : OpR X (gy5 .IsNot) (fun x y H Q=>y = .non /\ Q (.bl (!decide (x = .non))) H):=by
 intro pins s σ H x y v u Q I rx ry h;refine za0 fun gG=>?_;obtain ⟨rfl,q⟩:=h;refine gG ?_;clear gG;cases ry;refine isnot_none_gen (zc7 I q ?_)
 cases x <;> first
  | (cases rx; rfl)
  | (obtain ⟨t,rfl⟩:=rx; rfl)
theorem zc44 {op : CmpOp} {r : R2} (ho : OpR X (gy5 op) r) (ha : PE X a ta) (hb : PE X b tb) (hm : behindInMarks op b = false) : PE X (.Compare a [op] [b] pos) (tOp r ta tb):=by
 intro pins s σ H Q I h;exact wpAny_Compare1 (binT ha hb I h fun v u s2 x y H2 I2 rx ry q=>ho pins s2 σ H2 x y v u Q I2 rx ry q) hm
def zd58 (t : TE) : TT:=fun σ H Q=>t σ H fun x H'=>∃ k,x = .bl k /\ Q k H'
theorem zc45 {op : CmpOp} {r : R2} (ho : OpR X (gy5 op) r) (ha : PE X a ta) (hb : PE X b tb) (hm : behindInMarks op b = false) : PT X (.Compare a [op] [b] pos) (zd58 (tOp r ta tb)):=by
 intro pins s σ H Q I h
 refine wpAny_isTrue_Compare1 (thn (ha pins s σ H _ I h) fun v s1 ⟨x,H1,I1,r1,q1⟩=>thn (hb pins s1 σ H1 _ I1 q1) fun u s2 ⟨y,H2,I2,r2,q2⟩ =>
  thn (ho pins s2 σ H2 x y v u _ I2 r1 r2 q2) fun c s3 ⟨z,H3,I3,r3,k,e,q3⟩=>?_) hm
 subst e;cases r3;exact ky9 ⟨H3,I3,q3⟩
def zd59 (r r' : R2) (ta tb tc : TE) : TE:=fun σ H Q=>ta σ H fun x H1=>tb σ H1 fun y H2=>r x y H2 fun z H3=>∃ k,z = .bl k /\
 (if k = true then tc σ H3 fun w' H4=>r' y w' H4 Q else Q (.bl false) H3)
theorem zb19 {op op' : CmpOp} {r r' : R2} (ho : OpR X (gy5 op) r) (ho' : OpR X (gy5 op') r') (ha : PE X a ta) (hb : PE X b tb) (hc : PE X c tc)
  (hm : lastMarks [op,op'] [b,c] = false:=by with_unfolding_all rfl) : PT X (.Compare a [op,op'] [b,c] pos) (zd58 (zd59 r r' ta tb tc)):=by
 intro pins s σ H Q I h
 refine isTrue_chain (thn (ha pins s σ H _ I h) fun v s1 ⟨x,H1,I1,r1,q1⟩=>test_link (thn (hb pins s1 σ H1 _ I1 q1) fun u s2 ⟨y,H2,I2,r2,q2⟩ =>
  thn (ho pins s2 σ H2 x y v u _ I2 r1 r2 q2) fun d s3 ⟨z,H3,I3,r3,k,e,q3⟩=>?_)) hm
 subst e;cases r3;refine ky9 ?_;cases k with
 | false =>
  refine za0 fun gG=>?_;obtain ⟨k',e',q'⟩:=q3;refine gG ?_;clear gG;cases e';exact ite_ff ⟨H3,I3,q'⟩
 | true =>
  refine ite_tt (test_last (thn (hc pins s3 σ H3 _ I3 q3) fun w' s4 ⟨z',H4,I4,r4,q4⟩=>thn (ho' pins s4 σ H4 y z' u w' _ I4 r2 r4 q4) fun d' s5 ⟨z2,H5,I5,r5,k2,e2,q5⟩=>?_));subst e2;cases r5;exact ky9 ⟨H5,I5,q5⟩
def TruV (K : ay5) (x : V) (H : Hp) (k : Bool) : Prop :=
 match x with
 | .non=>k = false
 | .bl b=>k = b
 | .int i=>k = (i != 0)
 | .str y=>y.length <= by3 /\ k = ((y.length : Int) != 0)
 | .byt y=>y.size <= by3 /\ k = ((y.size : Int) != 0)
 | .ref p=>(∃ xs,SqL K H p xs /\ k = !xs.isEmpty) \/ (∃ xs,SqT K H p xs /\ k = !xs.isEmpty) \/ ∃ kvs,H p = some (.dK kvs) /\ k = !kvs.isEmpty
 | _=>False
theorem zT2 {κ : Type} {kvs : List (κ × V)} {vs : List (κ × Value)} (r : KV kvs vs) : (!vs.isEmpty) = !kvs.isEmpty:=by
 cases r <;> rfl
theorem zq4 {xs : List V} {its : List Value} (r : Vals xs its) : (!its.toArray.isEmpty) = !xs.isEmpty:=by
 cases r <;> simp
theorem zu8 : (by3 : Nat) < 2 ^ 63:=by rw [my9]; decide
theorem zd60 : TruR X (fun x H Q=>∃ k,TruV X.K x H k /\ Q k H):=by
 intro pins s σ H x v Q I rx h;refine za0 fun gG=>?_;obtain ⟨k,e,q⟩:=h;refine gG ?_;clear gG;have hl:=zu8;have hs : by3 = 16777216:=my9;cases x with
 | non =>
  cases rx;have e' : k = false:=e;subst e';exact truthy_none ⟨H,I,q⟩
 | bl b =>
  cases rx;have e' : k = b:=e;subst e';exact ky9 ⟨H,I,q⟩
 | int i =>
  refine za0 fun gG=>?_;obtain ⟨t,rfl⟩:=rx;refine gG ?_;clear gG;have e' : k = (i != 0):=e;subst e';exact PySem.P.truthy_int ⟨H,I,q⟩
 | str y =>
  refine za0 fun gG=>?_;obtain ⟨t,rfl⟩:=rx;refine gG ?_;clear gG;obtain ⟨hy,e'⟩ : y.length <= by3 /\ k = ((y.length : Int) != 0):=e;subst e';exact PySem.P.truthy_str (by omega) ⟨H,I.tok _,q⟩
 | byt y =>
  refine za0 fun gG=>?_;obtain ⟨t,rfl⟩:=rx;refine gG ?_;clear gG;obtain ⟨hy,e'⟩ : y.size <= by3 /\ k = ((y.size : Int) != 0):=e;subst e';exact PySem.W.truthy_bytes (by omega) ⟨H,I.tok _,q⟩
 | ref p =>
  cases rx;have e' : (∃ xs,SqL X.K H p xs /\ k = !xs.isEmpty) \/ (∃ xs,SqT X.K H p xs /\ k = !xs.isEmpty) \/ ∃ kvs,H p = some (.dK kvs) /\ k = !kvs.isEmpty:=e;rcases e' with ⟨xs,hx,e'⟩ | ⟨xs,hx,e'⟩ | ⟨kvs,hx,e'⟩
  ·subst e';refine za0 fun gG=>?_;obtain ⟨its,r,pl,hz⟩:=I.list hx;refine gG ?_;clear gG;have hlen:=r.length;exact wpAny_truthy_list pl.isList (by simp only [cy1]; omega) ⟨H,I.tok _,by rw [zq4 r]; exact q⟩
  ·subst e';refine za0 fun gG=>?_;obtain ⟨its,r,pl,hz⟩:=I.tuple hx;refine gG ?_;clear gG;have hlen:=r.length;exact truthy_tuple pl (by simp only [cy1]; omega) ⟨H,I.tok _,by rw [zq4 r]; exact q⟩
  ·subst e';obtain ⟨hz,hS,vs,r,m⟩ : kvs.length <= by3 /\ (p == ky7) = false /\ ∃ vs,KV kvs vs /\ s.heap.DictOf (zc5 X.prog X.w) p vs:=I.hok p _ hx;have hlen : kvs.length = vs.length:=Paired.length r;exact wpAny_truthy_dict hS m (by omega) ⟨H,I.tok _,by rw [zT2 r]; exact q⟩
 | _=>exact (show False from e).elim
theorem zb20 (ha : PE X a ta) (he : ∀ whole,isTrue a X.env whole = (do let v <- whole; standAt a.pos; holding [v] (truthy v))) :
  PT X a (fun σ H Q=>ta σ H fun x H'=>∃ k,TruV X.K x H' k /\ Q k H'):=by
 intro pins s σ H Q I h;exact isTrue_plain (thn (ha pins s σ H _ I h) fun v s1 zR=>by obtain ⟨x,H1,I1,r1,q1⟩:=zR; exact zd60 pins s1 σ H1 x v Q I1 r1 q1) (he _)
theorem vals1 {x : V} {us : List Value} (r : Vals [x] us) : ∃ u,us = [u] /\ RelV x u:=by
 cases r with
 | cons r1 r2=>cases r2; exact ⟨_,rfl,r1⟩
theorem vals2 {x y : V} {us : List Value} (r : Vals [x,y] us) : ∃ u w',us = [u,w'] /\ RelV x u /\ RelV y w':=by
 cases r with
 | cons r1 r2 =>
  cases r2 with
  | cons r3 r4=>cases r4; exact ⟨_,_,rfl,r1,r3⟩
theorem zZ5 : zj8 X (.type "int") (fun xs H Q=>(∃ i,xs = [.int i] /\ Q (.int i) H) \/ ∃ k,xs = [.bl k] /\ Q (.int (if k then 1 else 0)) H):=by
 intro pins s σ H xs us Q I r h;rcases h with ⟨i,rfl,q⟩ | ⟨k,rfl,q⟩
 ·refine za0 fun gG=>?_;obtain ⟨u,rfl,t,rfl⟩:=vals1 r;refine gG ?_;clear gG;exact call_int_int ⟨.int i,H,I,⟨_,rfl⟩,q⟩
 ·refine za0 fun gG=>?_;obtain ⟨u,rfl,r1⟩:=vals1 r;refine gG ?_;clear gG;cases r1;exact call_int_bool ⟨.int (if k then 1 else 0),H,I.tok _,⟨_,rfl⟩,q⟩
theorem zK0 : zj8 X (.builtin "divmod") (fun xs H Q=>∃ i j,xs = [.int i,.int j] /\ CDiv i j /\ ∀ p,H p = none->Q (.ref p) (upd H p (.tup [.int (i / j),.int (i % j)]))):=by
 intro pins s σ H xs us Q I r h;refine za0 fun gG=>?_;obtain ⟨i,j,rfl,⟨h1,h2⟩,q⟩:=h;obtain ⟨u,w',rfl,⟨t,rfl⟩,⟨t',rfl⟩⟩:=vals2 r;refine gG ?_;clear gG;refine divmod_int (by omega) ?_ (.inl (PyProof.noPylong_small (by omega)));rw [Int.fdiv_eq_ediv_of_nonneg i (by omega),Int.fmod_eq_emod_of_nonneg i (by omega)];have hn : H s.heap.objs.size = none:=I.hok.fresh (ay6 _);refine ⟨.ref s.heap.objs.size,_,?_,rfl,q _ hn⟩;refine I.laid (fun b o e=>ay2 _ e) (ay6 _) ⟨by simp only [py7,List.length_nil]; rw [my9]; decide,[.int (i / j) s.toks,.int (i % j) (s.toks + 1)],.cons ⟨_,rfl⟩ (.cons ⟨_,rfl⟩ .nil),?_⟩;exact ⟨_,ay7 s.heap rfl,rfl,0,rfl⟩
end
structure ObjM (h : Heap) (x dx C : Addr) (mA : Str->Option Value) : Prop where
 obj : h.get? x = some (PySem.W.instObj C dx)
 ns : h.Ns1 dx mA
 ne : dx ≠ x
theorem zZ6 {h : Heap} {dx : Addr} {mA : Str->Option Value} (n : h.Ns1 dx mA) : ∃ od,h.get? dx = some od /\ ∀ name,PySem.W.lookIn name od = some (mA name):=by
 refine za0 fun gG=>?_;obtain ⟨o,es,ep,ho,hd,hk,_,hm⟩:=n;refine gG ?_;clear gG;refine ⟨o,ho,fun name=>?_⟩;have e:=hm name;unfold nsFind findBy at e;rw [<- Array.find?_toList] at e;unfold PySem.W.lookIn;rw [hd];dsimp only
 split
 ·rename_i y q
  rw [q] at e;exact congrArg some e
 ·rename_i q
  rw [q] at e
  have a : es.toList.any (·.refKey) = false:=by
   rw [List.any_eq_false];intro y hy;refine za0 fun gG=>?_;obtain ⟨z,t,hkey⟩:=hk y (Array.mem_toList_iff.mp hy);refine gG ?_;clear gG;simp [DictEntry.refKey,hkey]
  have a' : ¬ es.toList.any (·.refKey) = true:=by rw [a]; exact by9
  rw [if_neg a'];exact congrArg some e
theorem ObjM.look {h : Heap} {x dx C : Addr} {mA : Str->Option Value} (I : ObjM h x dx C mA) : ∃ od,PySem.W.InstAt h x (PySem.W.instObj C dx) C (some od) /\ ∀ name,PySem.W.lookIn name od = some (mA name) :=
 let ⟨od,ho,hl⟩:=zZ6 I.ns
 ⟨od,⟨I.obj,rfl,rfl,ho⟩,hl⟩
section
variable {prog : cy7} {w : World} {A : Around} {E : Value->Shared->Prop} {s : Shared} {K : ay5} {x dx C f : Addr} {mA : Str->Option Value} {name : Str} {v : Value}
end
theorem zA1.some_of {v : V} {o : Option Value} (r : zA1 (some v) o) : ∃ u,o = some u /\ RelV v u:=by
 cases o with
 | none=>exact (show False from r).elim
 | some u=>exact ⟨u,rfl,r⟩
theorem zA1.none_of {o : Option Value} (r : zA1 none o) : o = none:=by
 cases o with
 | none=>rfl
 | some u=>exact (show False from r).elim
section
variable {P : cy7} {w : World} {H H' : Hp} {h h' : Heap} {a C dx : Addr} {fs fs' : List (Str × V)}
theorem zc46 (hok : HOk P w H h) (e : H a = some (.ins C dx fs)) : ∃ mA,ObjM h a dx C mA /\ (∀ f,zA1 (fs.lookup f) (mA f)) /\ PySem.Within mA (fs.map (·.1)) /\ fs.length <= 1000 /\ H dx = some (.own a):=by
 refine za0 fun gG=>?_;obtain ⟨d,z,ne,ob,mA,n,r,q⟩:=(show zc1 P w H h a (.ins C dx fs) from hok a _ e)
 refine gG ?_;clear gG;exact ⟨mA,⟨ob,n,ne⟩,r,q,z,d⟩
end
structure Cls (K : ay5) (C : Addr) : Prop where
 pg : PySem.W.plainGet K C Str.empty = true
 hd : PySem.W.hasDictIn K C = true
 po : PySem.W.plainOver K C = true
 sa : PySem.W.findIn K (.ref C) "__setattr__" = some (some (.builtin "object.__setattr__"))
theorem Cls.get {K : ay5} {C : Addr} (c : Cls K C) (f : Str) : PySem.W.plainGet K C f = true:=c.pg
section
variable {X : Cx} {pins : List (Addr × Obj)} {σ : St} {H : Hp} {s : Shared} {a C dx : Addr} {fs : List (Str × V)} {f : Str} {v : V} {A : Around} {E : Value->Shared->Prop}
end
section
variable {X : Cx} {o e value : Expr} {f : Str} {pos pos' tpos : Pos} {ta tv : TE}
end
section
variable {X : Cx} {pins : List (Addr × Obj)} {σ : St} {H : Hp} {s : Shared} {A : Around} {E : Value->Shared->Prop} {Q : Value->Shared->Prop} {c : Value} {b : Bool}
inductive zX3 (K : ay5) (H : Hp) : V->Value->Prop where
 | non : zX3 K H .non (.type "NoneType")
 | bl (x : Bool) : zX3 K H (.bl x) (.type "bool")
 | int (i : Int) : zX3 K H (.int i) (.type "int")
 | str (x : Str) : zX3 K H (.str x) (.type "str")
 | flt (x : UInt64) : zX3 K H (.flt x) (.type "float")
 | lst {a : Addr} {xs : List V} (e : H a = some (.lst xs)) : zX3 K H (.ref a) (.type "list")
 | frz {a : Addr} {o : Obj} {xs : List V} (e : H a = some (.frz o (.lst xs))) : zX3 K H (.ref a) (.type "list")
 | tup {a : Addr} {xs : List V} (e : H a = some (.tup xs)) : zX3 K H (.ref a) (.type "tuple")
 | dK {a : Addr} {kvs : List (Key × V)} (e : H a = some (.dK kvs)) : zX3 K H (.ref a) (.type "dict")
 | dT {a : Addr} {kvs : List (List Key × V)} (e : H a = some (.dT kvs)) : zX3 K H (.ref a) (.type "dict")
 | ins {a C dx : Addr} {fs : List (Str × V)} (e : H a = some (.ins C dx fs)) (cl : Cls K C) (ha : PySem.W.findIn K (.ref C) "__class__" = some (some (.builtin "object.__class__")))
   (hn : PySem.W.specialIn K (.builtin "object.__class__") "__get__" = some (some (.builtin "getset_descriptor.__get__"))) (htk : PySem.W.takesIn K (.builtin "object.__class__") = some true)
   (hm : PySem.W.mroIn K C (.type "object") = some true) : zX3 K H (.ref a) (.ref C)
theorem zi0 {x : V} {u t : Value} (I : Inv X pins σ H s) (rx : RelV x u) (ty : zX3 X.K H x t) (e : PySem.W.kitOne X.K t c = some b) (h : ∀ tk,Q (.bool b) { s with toks:=tk }) :
  wpAny (model X.prog X.w) A (call (.builtin "isinstance") [u,c]) Q E s:=by
 cases ty with
 | non=>cases (show u = dy6 from rx); exact jy3 PySem.W.kitx_none I.kIn vy1 e (fun z=>nomatch z) h
 | bl y=>cases (show u = Value.bool y from rx); exact jy3 PySem.W.kitx_bool I.kIn vy1 e (fun z=>nomatch z) h
 | int i=>obtain ⟨t,q⟩:=(show ∃ t,u = Value.int i t from rx); cases q; exact jy3 PySem.W.kitx_int I.kIn vy1 e (fun z=>nomatch z) h
 | str y=>obtain ⟨t,q⟩:=(show ∃ t,u = Value.str y t from rx); cases q; exact jy3 PySem.W.kitx_str I.kIn vy1 e (fun z=>nomatch z) h
 | flt y=>obtain ⟨t,q⟩:=(show ∃ t,u = Value.float y t from rx); cases q; exact jy3 PySem.W.kitx_float I.kIn vy1 e (fun z=>nomatch z) h
 | @lst a xs ea =>
  cases (show u = cy9 a from rx);refine za0 fun gG=>?_;obtain ⟨_,_,n,_,h1⟩:=(show zc1 X.prog X.w H s.heap a (.lst xs) from I.hok a _ ea)
  refine gG ?_;clear gG;exact jy3 PySem.W.kitx_list I.kIn ⟨_,h1,rfl⟩ e (fun z=>nomatch z) h
 | @frz a ob xs ea =>
  cases (show u = cy9 a from rx);refine za0 fun gG=>?_;obtain ⟨_,_,_,n,_,h1⟩:=(show zc1 X.prog X.w H s.heap a (.frz ob (.lst xs)) from I.hok a _ ea)
  refine gG ?_;clear gG;exact jy3 PySem.W.kitx_list I.kIn ⟨_,h1,rfl⟩ e (fun z=>nomatch z) h
 | @tup a xs ea =>
  cases (show u = cy9 a from rx);refine za0 fun gG=>?_;obtain ⟨_,_,_,p⟩:=(show zc1 X.prog X.w H s.heap a (.tup xs) from I.hok a _ ea)
  obtain ⟨o,h1,h2,_⟩:=p;refine gG ?_;clear gG;exact jy3 PySem.W.kitx_tuple I.kIn ⟨o,h1,h2⟩ e (fun z=>nomatch z) h
 | @dK a kvs ea =>
  cases (show u = cy9 a from rx);refine za0 fun gG=>?_;obtain ⟨_,_,vs,_,p⟩:=(show zc1 X.prog X.w H s.heap a (.dK kvs) from I.hok a _ ea)
  obtain ⟨o,es,ep,h1,h2,_⟩:=p;refine gG ?_;clear gG;exact jy3 PySem.W.kitx_dict I.kIn ⟨o,h1,h2.1⟩ e (fun z=>nomatch z) h
 | @dT a kvs ea =>
  cases (show u = cy9 a from rx);refine za0 fun gG=>?_;obtain ⟨_,_,xs,_,o,es,ep,h1,h2,_⟩:=(show zc1 X.prog X.w H s.heap a (.dT kvs) from I.hok a _ ea)
  refine gG ?_;clear gG;exact jy3 PySem.W.kitx_dict I.kIn ⟨o,h1,h2.1⟩ e (fun z=>nomatch z) h
 | @ins a C dx fs ea cl ha hn htk hm =>
  cases (show u = cy9 a from rx);refine za0 fun gG=>?_;obtain ⟨mA,O,_⟩:=zc46 I.hok ea;obtain ⟨od,J,_⟩:=O.look;refine gG ?_;clear gG;exact jy3 (PySem.W.kitx_own (cl.get _) cl.hd ha hn htk hm) I.kIn J e (fun z=>nomatch z) h
end
structure zA3 (k : Nat) (A : Around) : Prop where
 hd : A.handled = none
 dp : A.depth + 3 * k + 5 < recursionLimit
 un : A.units + 16 * k + 200 < cLine
theorem zA3.mono {j k : Nat} {A : Around} (r : zA3 k A) (h : j <= k) : zA3 j A:=⟨r.hd,by have:=r.dp; omega,by have:=r.un; omega⟩
theorem zA3.deeper {k : Nat} {A : Around} (r : zA3 (k + 1) A) (env : Env) : zA3 k (A.deeper env) :=
 ⟨r.hd,by have:=r.dp; show A.depth + 1 + 3 * k + 5 < _; omega,by have:=r.un; show A.units + 3 + 16 * k + 200 < _; omega⟩
theorem zA3.depth {k : Nat} {A : Around} (r : zA3 k A) : A.depth < recursionLimit:=by have:=r.dp; omega
theorem zA3.units {k : Nat} {A : Around} (r : zA3 k A) : A.units + 64 < cLine:=by have:=r.un; omega
def tNil : TA:=fun _ H Q=>Q [] H
def ze74 (ta : TE) (tr : TA) : TA:=fun σ H Q=>ta σ H fun x H1=>tr σ H1 fun xs H2=>Q (x :: xs) H2
section
variable {X : Cx} {e : Expr} {es : List Expr} {te : TE} {t : TA} {pos : Pos}
theorem zu9 : PA X [] tNil:=fun _ _ _ _ H Q I h=>Calls.spliced_nil ⟨[],H,I,.nil,h⟩
theorem zl8 (ha : PE X e te) (hr : PA X es t) (hs : fy4 (e :: es) X.env = (false,eval e X.env) :: fy4 es X.env:=by rfl) : PA X (e :: es) (ze74 te t):=by
 intro pos pins s σ H Q I h;rw [hs];show wpAny _ _ (spliced ((false,eval e X.env) :: backTo pos (fy4 es X.env))) _ _ s;refine Calls.spliced_cons (thn (ha pins s σ H _ I h) fun u s1 ⟨x,H1,I1,r1,q1⟩=>?_);exact thn (hr pos pins s1 σ H1 _ I1 q1) fun us s2 zR=>by obtain ⟨xs,H2,I2,r2,q2⟩:=zR; exact ⟨x :: xs,H2,I2,.cons r1 r2,q2⟩
def tTup (t : TA) : TE:=fun σ H Q=>t σ H fun xs H1=>xs.length <= by3 /\ ∀ p,H1 p = none->Q (.ref p) (upd H1 p (.tup xs))
def tLst (t : TA) : TE:=fun σ H Q=>t σ H fun xs H1=>xs.length <= by3 /\ ∀ p,H1 p = none->Q (.ref p) (upd H1 p (.lst xs))
theorem zc03 {x1} (h : PA X es t) : PE X (.Tuple es x1 pos) (tTup t):=by
 intro pins s σ H Q I hq;refine wpAny_Tuple_spliced (thn (h pos pins s σ H _ I hq) fun us s1 ⟨xs,H1,I1,r,z,q⟩=>⟨by rw [<- r.length]; exact z,?_⟩);have hf : H1 s1.heap.objs.size = none:=I1.hok.fresh (ay6 _);refine ⟨.ref s1.heap.objs.size,upd H1 s1.heap.objs.size (.tup xs),I1.laid (t':=s1.toks) (fun b u e=>ay2 _ e) (ay6 _) ?_,rfl,q _ hf⟩;exact ⟨z,us,r,⟨_,ay7 _ rfl,rfl,_,rfl⟩⟩
theorem zc04 (h : PA X es t) : PE X (.List es pos) (tLst t):=by
 intro pins s σ H Q I hq;refine wpAny_List_spliced (thn (h pos pins s σ H _ I hq) fun us s1 ⟨xs,H1,I1,r,z,q⟩=>⟨by rw [<- r.length]; exact z,?_⟩);have hf : H1 s1.heap.objs.size = none:=I1.hok.fresh (ay6 _);refine ⟨.ref s1.heap.objs.size,upd H1 s1.heap.objs.size (.lst xs),I1.laid (t':=s1.toks) (fun b u e=>ay2 _ e) (ay6 _) ?_,rfl,q _ hf⟩;exact ⟨z,us,0,r,ay7 _ rfl⟩
end
abbrev Sp:=List V->Hp->VK->XK->Prop
abbrev CXT:=List Env->Hp->Shared->XK->Value->Shared->Prop
structure Env0 (P : cy7) (w : World) (K : ay5) (mg : Str->Option Value) (base : Heap) (A : Around) (outer : List Env) (s : Shared) (H : Hp) : Prop where
 frames : A.frames = some outer
 mod : Mod K mg base
 bs : ∀ b o,base.get? b = some o->s.heap.get? b = some o /\ H b = none
 bsz : base.objs.size <= s.heap.objs.size
 zS8 : s.heap.FunFrames base outer
 frf : ∀ b∈frs outer,H b = none
 hok : HOk P w H s.heap
 bare : AllBare s.gens
def CE (outer : List Env) (P : cy7) (w : World) (H : Hp) (s : Shared) (Q : VK) (u : Value) (s' : Shared) : Prop :=
 ∃ v H',s'.os = s.os /\ AllBare s'.gens /\ Un (frs outer) [] H H' s.heap s'.heap /\ HOk P w H' s'.heap /\ RelV v u /\ Q v H'
def CR (CX : CXT) (outer : List Env) (P : cy7) (w : World) (H : Hp) (s : Shared) (Q : VK) (E : XK) (r : Result) (s' : Shared) : Prop :=
 match r with
 | .ok (.ret u)=>CE outer P w H s Q u s'
 | .ok _=>False
 | .error e=>CX outer H s E e s'
structure zj0 (P : cy7) (w : World) (K : ay5) (mg : Str->Option Value) (base : Heap) (CX : CXT) (k : Nat) (f : Addr) (fd : ey7) (ps : List Str) (sp : Sp) : Prop where
 len : ∀ vs H Q E,sp vs H Q E->vs.length = ps.length
 run : ∀ (A : Around) (outer : List Env) (s : Shared) (H : Hp) (args : Args) (us : List Value) (vs : List V) (Q : VK) (E : XK),zA3 k A->Env0 P w K mg base A outer s H->BindsTo s fd args (ps.zip us)->Vals vs us->sp vs H Q E ->
  ly4 (model P w) A (.call (.ref f) args) (CR CX outer P w H s Q E) s
theorem zj0.imp {P : cy7} {w : World} {K : ay5} {mg : Str->Option Value} {base : Heap} {CX : CXT} {k : Nat} {f : Addr} {fd : ey7} {ps : List Str} {sp sp' : Sp} (F : zj0 P w K mg base CX k f fd ps sp)
  (h : ∀ vs H Q E,sp' vs H Q E->sp vs H Q E) : zj0 P w K mg base CX k f fd ps sp' :=
 ⟨fun vs H Q E q=>F.len vs H Q E (h _ _ _ _ q),fun A outer s H args us vs Q E hr he hb hv hs=>F.run A outer s H args us vs Q E hr he hb hv (h _ _ _ _ hs)⟩
section
variable {X : Cx} {pins : List (Addr × Obj)} {σ : St} {H : Hp} {s s' : Shared}
theorem Inv.env0 (I : Inv X pins σ H s) : Env0 X.prog X.w X.K X.mg X.base X.A X.stack s H :=
 ⟨I.ok.frames,I.ok.mod,I.bs,ey1 I.ok.bsz I.sz,I.stack,I.zY2,I.hok,I.bare⟩
theorem Inv.after {Q : VK} {u : Value} (I : Inv X pins σ H s) (h : CE X.stack X.prog X.w H s Q u s') : EP X pins σ Q u s':=by
 refine za0 fun gG=>?_;obtain ⟨v,H',os,bare,un,hok,r,q⟩:=h;obtain ⟨hh,g,d,t,os'⟩:=s';refine gG ?_;clear gG;obtain rfl : os' = s.os:=os;exact ⟨v,H',I.call (h':=hh) (g':=g) (d':=d) (t':=t) (ch:=[]) un hok bare (fun b z=>absurd z (by simp)),r,q⟩
end
def ze75 (sp : Sp) (dvs : List V) (E : XK) (t : TA) : TE:=fun σ H Q=>t σ H fun vs H1=>sp (vs++dvs) H1 Q E
def Binds (K : ay5) (fd : ey7) (ps : List Str) (ds : List Value) : Prop :=
 ∀ (s : Shared) (us : List Value),K.In s.heap->(us++ds).length = ps.length->BindsTo s fd ⟨us,[]⟩ (ps.zip (us++ds))
theorem Binds.all {K : ay5} {fd : ey7} {ps : List Str} (h : ∀ us : List Value,us.length = ps.length->bindArgs fd ⟨us,[]⟩ = pure (ps.zip us)) : Binds K fd ps []:=fun s us _ hl=>by
 rw [ny4] at hl ⊢;exact .of_eq (h us hl)
def Passes (CX : CXT) (X : Cx) (E : XK) : Prop:=∀ (pins : List (Addr × Obj)) (σ : St) (H : Hp) (s : Shared) (e : Value) (s' : Shared),Inv X pins σ H s->CX X.stack H s E e s'->X.xe e s'
section
variable {X : Cx} {CX : CXT} {k : Nat} {f C : Addr} {fd : ey7} {ps : List Str} {sp : Sp} {dvs : List V} {ds : List Value} {E : XK} {x m : Str} {p pos apos : Pos} {e o : Expr} {es : List Expr} {ta : TE} {t : TA}
theorem zd61 {pins : List (Addr × Obj)} {σ : St} {H : Hp} {s : Shared} {Q : VK} {us : List Value} {vs : List V} (F : zj0 X.prog X.w X.K X.mg X.base CX k f fd ps sp) (hr : zA3 k X.A) (hb : Binds X.K fd ps ds) (hd : Vals dvs ds) (hx : Passes CX X E)
  (I : Inv X pins σ H s) (r : Vals vs us) (h : sp (vs++dvs) H Q E) : wpAny (model X.prog X.w) X.A (call (.ref f) us) (EP X pins σ Q) X.xe s:=by
 have r2 : Vals (vs++dvs) (us++ds):=r.append hd;have hl : (us++ds).length = ps.length:=by rw [<- r2.length]; exact F.len _ _ _ _ h
 refine wpAny_call (ty9 (F.run X.A X.stack s H ⟨us,[]⟩ (us++ds) (vs++dvs) Q E hr I.env0 (hb s us I.kIn hl) r2 h) fun r s' hq=>?_);cases r with
 | error e=>exact hx pins σ H s e s' I hq
 | ok fl =>
  cases fl with
  | ret u=>exact I.after hq
  | next=>exact vy0 hq
  | brk=>exact vy0 hq
  | cont=>exact vy0 hq
theorem zc47 (F : zj0 X.prog X.w X.K X.mg X.base CX k f fd ps sp) (hr : zA3 k X.A) (hg : Gl X x) (hm : X.mg x = some (.ref f)) (hk : dy0 X.K (.ref f) = true) (hb : Binds X.K fd ps ds) (hd : Vals dvs ds) (hx : Passes CX X E)
  (ha : PA X (e :: es) t) (hdb : (x == ("__debug__" : Str)) = false:=by decide) (he : fy4 (e :: es) X.env = (false,eval e X.env) :: fy4 es X.env:=by rfl) (hpl : (backTo pos (fy4 es X.env)).any (·.1) = false:=by rfl) :
  PE X (.Call (.Name x p) (e :: es) [] pos) (ze75 sp dvs E t):=by
 intro pins s σ H Q I h;refine wpAny_Call_Name_kw (zY3 I hg hm ?_ hdb);refine PySem.W.callWith_K (h₀:=X.base) I.ok.mod.kin hk (thn (ha pos pins s σ H _ I h) fun us s1 ⟨vs,H1,I1,r,q⟩=>⟨I1.kIn,?_⟩) he hpl;exact zd61 F hr hb hd hx I1 r q
end
section
variable {X : Cx} {CX : CXT} {k : Nat} {f C : Addr} {fd : ey7} {ps ks : List Str} {sp : Sp} {E : XK} {x m : Str} {p pos apos kpos : Pos} {e o : Expr} {es : List Expr} {kws : List Keyword} {te ta : TE} {t tk : TA} {nm : Option Str}
variable {g : List Value->List Value->List Value} {gV : List V->List V->List V}
end
structure zb8 (N P : List Str) (sc : Scope) : Prop where
 kind : sc.kind = .function
 co : sc.isCoroutine = false
 gen : sc.isGenerator = false
 nd : N.Nodup
 pre : N.take P.length = P
 par : ∀ x∈P,sc.names.lookup x = some .local \/ sc.names.lookup x = some .cell
 nofree : ∀ y∈sc.names,y.2 ≠ .free
theorem zF1 {kindOf : Str->Option wy9} {x : Str} : ∀ {binds : List (Str × Value)} {m : Str->Option Value},(∀ v,(x,v) ∉ binds)->bindL kindOf binds m x = m x
 | [],_,_=>rfl
 | (n,v) :: r,m,h=>by
  unfold bindL;rw [zF1 fun w hw=>h w (by0 _ hw)]
  split
  ·have : x ≠ n:=by rintro rfl; exact h v ay9
   simp [this]
  ·rfl
theorem zF2 {kindOf : Str->Option wy9} {x : Str} : ∀ {binds : List (Str × Value)} {m : Str->Option Value},(∀ v,(x,v) ∉ binds)->bindC kindOf binds m x = m x
 | [],_,_=>rfl
 | (n,v) :: r,m,h=>by
  unfold bindC;rw [zF2 fun w hw=>h w (by0 _ hw)]
  split
  ·rfl
  ·have : x ≠ n:=by rintro rfl; exact h v ay9
   simp [this]
theorem zF3 {kindOf : Str->Option wy9} {x : Str} {v : Value} : ∀ {P : List Str} {vs : List Value} {i : Nat} {m : Str->Option Value},P.Nodup->P[i]? = some x->vs[i]? = some v->kindOf x = some .local ->
  bindL kindOf (P.zip vs) m x = some v
 | [],_,_,_,_,h,_,_=>by simp at h
 | _ :: _,[],_,_,_,_,h,_=>by simp at h
 | p :: P,w :: vs,0,m,nd,h1,h2,hk=>by
  simp at h1 h2; subst h1; subst h2;show bindL kindOf ((p,w) :: P.zip vs) m p = _;unfold bindL;rw [zF1 fun v hv=>(ly5.mp nd).1 (List.of_mem_zip hv).1,if_pos hk];simp
 | p :: P,w :: vs,i + 1,m,nd,h1,h2,hk=>by
  show bindL kindOf ((p,w) :: P.zip vs) m x = _;unfold bindL;exact zF3 (i:=i) (ly5.mp nd).2 (by simpa using h1) (by simpa using h2) hk
theorem zF4 {kindOf : Str->Option wy9} {x : Str} {v : Value} : ∀ {P : List Str} {vs : List Value} {i : Nat} {m : Str->Option Value},P.Nodup->P[i]? = some x->vs[i]? = some v->kindOf x ≠ some .local ->
  bindC kindOf (P.zip vs) m x = some v
 | [],_,_,_,_,h,_,_=>by simp at h
 | _ :: _,[],_,_,_,_,h,_=>by simp at h
 | p :: P,w :: vs,0,m,nd,h1,h2,hk=>by
  simp at h1 h2; subst h1; subst h2;show bindC kindOf ((p,w) :: P.zip vs) m p = _;unfold bindC;rw [zF2 fun v hv=>(ly5.mp nd).1 (List.of_mem_zip hv).1,if_neg hk];simp
 | p :: P,w :: vs,i + 1,m,nd,h1,h2,hk=>by
  show bindC kindOf ((p,w) :: P.zip vs) m x = _;unfold bindC;exact zF4 (i:=i) (ly5.mp nd).2 (by simpa using h1) (by simpa using h2) hk
def start (N : List Str) (vs : List V) : St:=vs.map some++List.replicate (N.length - vs.length) none
def cxOf (CX : CXT) (P : cy7) (w : World) (K : ay5) (mg : Str->Option Value) (base : Heap) (N : List Str) (qual : Str) (scope : Scope) (f : Addr) (cd : Value) (A : Around) (outer : List Env) (s : Shared) (H : Hp) (E : XK) : Cx where
 prog:=P
 w:=w
 K:=K
 mg:=mg
 base:=base
 A:=A.deeper (envOfC qual scope s.heap.objs.size f cd)
 N:=N
 s₀:=s
 H₀:=H
 env:=envOfC qual scope s.heap.objs.size f cd
 outer:=outer
 stack:=envOfC qual scope s.heap.objs.size f cd :: outer
 ex:=[]
 calm:=true
 fn:=fun _=>true
 pn:=[]
 xe:=fun e s'=>wpAny (model P w) (A.deeper (envOfC qual scope s.heap.objs.size f cd)) (leaving (envOfC qual scope s.heap.objs.size f cd) e) (fun _ s''=>CX outer H s E e s'') (fun e' s''=>CX outer H s E e' s'') s'
theorem zO8 {sc : Scope} {n : Nat} {x : Str} (h : sc.names.lookup x = some .cell) : ∃ c,(cellsFrom n sc.names []).lookup x = some c:=by
 have q:=PySem.W.cellsFrom_some sc.names n [] (.inl h);exact Option.isSome_iff_exists.mp q
theorem zZ7 {CX : CXT} {P : cy7} {w : World} {K : ay5} {mg : Str->Option Value} {base : Heap} {N ps : List Str} {qual : Str} {scope : Scope} {f : Addr} {cd : Value} {A : Around} {outer : List Env} {s s1 : Shared} {H : Hp} {E : XK} {us : List Value} {vs : List V}
  (S : zb8 N ps scope) (hd : A.handled = none) (e0 : Env0 P w K mg base A outer s H) (hl : vs.length = ps.length) (r : Vals vs us)
  (x : InCallC s s.heap.objs.size (bindL (envOfC qual scope s.heap.objs.size f cd).kindOf (ps.zip us) fun _=>none) (cellsFrom (s.heap.objs.size + 1) scope.names []) (bindC (envOfC qual scope s.heap.objs.size f cd).kindOf (ps.zip us) fun _=>none) s1) :
  Inv (cxOf CX P w K mg base N qual scope f cd A outer s H E) [] (start N vs) H s1:=by
 have hpl : ps.length <= N.length:=by have:=congrArg List.length S.pre; rw [dy1] at this; omega
 refine za0 fun gG=>?_;obtain ⟨h1,tk,rfl,hk⟩:=x.done;refine gG ?_;clear gG;have noA : ∀ b : Addr,b ∉ (cxOf CX P w K mg base N qual scope f cd A outer s H E).ex:=fun b z=>absurd (show b∈([] : List Addr) from z) (by simp)
 refine ⟨⟨e0.mod,S.kind,rfl,rfl,ay6 _,fun y z c h1 h2=>?_,fun y hy=>?_,fun y c _ h=>?_,fun _=>hd,Around.frames_deeper e0.frames,.inr ⟨rfl,rfl⟩,fun b z=>absurd z (noA b),e0.bs,e0.bsz,fun b _ _=>noA b,fun b z=>absurd z (noA b),e0.zS8,e0.frf⟩,
  rfl,e0.bare,Un.kept hk,⟨_,x.toInCall.ns,fun i y v h1 h2 h3=>?_⟩,fun y c h=>⟨_,x.cell y c h⟩,e0.hok.fresh (ay6 _),fun y c h=>?_,fun p hp=>absurd (show p∈([] : List (Addr × Obj)) from hp) (by simp),e0.hok.kept hk,?_⟩
 ·exact name_of_addr x.apart (jy4 h1) (jy4 h2)
 ·have hy : scope.names.lookup y = some .cell \/ scope.names.lookup y = some .free:=hy;rcases hy with hy | hy
  ·exact zO8 hy
  ·exact absurd rfl (S.nofree _ (jy4 hy))
 ·exact ky8 (x.above y c (jy4 h))
 ·have hi : i < vs.length:=by
   unfold start at h2
   by_cases hi : i < vs.length
   ·exact hi
   ·rw [cy2 (by simpa using hi)] at h2;rw [List.getElem?_replicate] at h2
    split at h2 <;> cases h2
  have ha : vs[i]? = some v:=by
   unfold start at h2;rw [ay8 (by simpa using hi),by1] at h2;cases e : vs[i]? with
   | none=>rw [e] at h2; cases h2
   | some a=>rw [e] at h2; cases h2; rfl
  refine za0 fun gG=>?_;obtain ⟨u,hu,rv⟩:=r.get ha;refine gG ?_;clear gG
  have hp : ps[i]? = some y:=by
   rw [<- S.pre,gy2 (by omega)]; exact h1
  have ndP : ps.Nodup:=by rw [<- S.pre]; exact S.nd.sublist (List.take_sublist _ _)
  refine ⟨u,rv,?_⟩;rcases S.par y (cy8 hp) with k | k
  ·exact .inl ⟨k,zF3 ndP hp hu k⟩
  ·obtain ⟨c,e⟩:=zO8 (n:=s.heap.objs.size + 1) k;refine .inr ⟨.inl k,c,e,?_⟩;have q:=x.cell y c e;rw [zF4 ndP hp hu (by show scope.names.lookup y ≠ _; rw [k]; decide)] at q;exact q
 ·exact e0.hok.fresh (ky8 (x.above y c (jy4 h)))
 ·unfold start;show _ = N.length;rw [cy5,ay3,List.length_replicate];omega
theorem ze76 {CX : CXT} {P : cy7} {w : World} {K : ay5} {mg : Str->Option Value} {base : Heap} {k : Nat} {f : Addr} {name qual : Str} {params : Arguments} {body : List Stmt} {scope : Scope} {dV kV doc pm cdv ct oc : Value} {an od : Option Addr}
  {osl : Array (Option Value)} {N ps : List Str} {sp : Sp} (lk : K.lookup f = some ⟨oc,od,.func (dy7 name qual params body scope dV kV doc pm an cdv ct),osl⟩) (hcd : dy2 K cdv qual = true) (S : zb8 N ps scope)
  (len : ∀ vs H Q E,sp vs H Q E->vs.length = ps.length)
  (hbody : ∀ (A : Around) (outer : List Env) (s : Shared) (H : Hp) (vs : List V) (Q : VK) (E : XK),zA3 k (A.deeper (envOfC qual scope s.heap.objs.size f cdv))->sp vs H Q E ->
   ∃ t,PSs (cxOf CX P w K mg base N qual scope f cdv A outer s H E) body t /\ t { nx:=fun _ H'=>Q .non H',rt:=Q } (start N vs) H) :
  zj0 P w K mg base CX (k + 1) f (dy7 name qual params body scope dV kV doc pm an cdv ct) ps sp:=by
 refine ⟨len,fun A outer s H args us vs Q E hr e0 hb r hsp=>?_⟩;have hl:=len _ _ _ _ hsp;have KX : K.In s.heap:=e0.mod.kin.keeps fun b o e=>(e0.bs b o e).1;have lim : s.heap.NoLimit:=e0.mod.nolimit.keeps fun b o e=>(e0.bs b o e).1
 have hkind : ∀ y∈ps.zip us,scope.names.lookup y.1 = some .local \/ (scope.names.lookup y.1 = some .cell /\ ((cellsFrom (s.heap.objs.size + 1) scope.names []).lookup y.1).isSome = true):=fun ⟨n,v⟩ hy=>by
  rcases S.par n (List.of_mem_zip hy).1 with q | q
  ·exact .inl q
  ·exact .inr ⟨q,PySem.W.cellsFrom_some _ _ _ (.inl q)⟩
 refine codeAny_call_function hr.depth (KX _ _ lk) rfl S.co S.gen rfl (PySem.W.codeRec_of KX hcd) (hb _ _ _ _ ?_);refine wpAny_newFunctionEnv_cells S.kind hkind fun env he s1 x=>?_;subst he;refine ⟨lim.keeps x.toInCall.keep,codeAny_func ?_⟩;refine za0 fun gG=>?_;obtain ⟨t,ht,hq⟩:=hbody A outer s H vs Q E (hr.deeper _) hsp;refine gG ?_;clear gG;have I : Inv (cxOf CX P w K mg base N qual scope f cdv A outer s H E) [] (start N vs) H s1:=zZ7 S hr.hd e0 hl r x;refine fy6 (ht [] s1 (start N vs) H _ I hq) (fun fl s' hs=>?_) fun e s' hs=>hs
 have fin : ∀ {σ' : St} {H' : Hp} {v : V} {u : Value},Inv (cxOf CX P w K mg base N qual scope f cdv A outer s H E) [] σ' H' s'->RelV v u->Q v H'->CE outer P w H s Q u s' :=
  fun {σ' H' v u} J rv q=>⟨v,H',J.os,J.bare,J.base,J.hok,rv,q⟩
 cases fl with
 | ret u =>
  refine za0 fun gG=>?_;obtain ⟨v,σ',H',J,rv,q⟩:=hs;refine gG ?_;clear gG;exact fin J rv q
 | next =>
  refine za0 fun gG=>?_;obtain ⟨σ',H',J,q⟩:=hs;refine gG ?_;clear gG;exact fin (v:=V.non) (u:=dy6) J rfl q
 | brk =>
  refine za0 fun gG=>?_;obtain ⟨_,_,_,q⟩:=hs;refine gG ?_;clear gG;exact vy0 q
 | cont =>
  refine za0 fun gG=>?_;obtain ⟨_,_,_,q⟩:=hs;refine gG ?_;clear gG;exact vy0 q
section
variable {X : Cx} {x : Str} {p pos : Pos} {e : Expr} {es : List Expr} {t : TA} {id T : String} {r : List V->Hp->VK->Prop}
def tCB (r : List V->Hp->VK->Prop) (t : TA) : TE:=fun σ H Q=>t σ H fun vs H1=>r vs H1 Q
theorem zp0 (hc : zj8 X (.builtin id) r) (hg : Gl X x) (hm : X.mg x = none) (hv : fy0 x = some (.builtin id)) (ha : PA X (e :: es) t) (hn : x ≠ "__name__" := by decide) (hdb : (x == ("__debug__" : Str)) = false:=by decide)
  (he : fy4 (e :: es) X.env = (false,eval e X.env) :: fy4 es X.env:=by rfl) (hpl : (backTo pos (fy4 es X.env)).any (·.1) = false:=by rfl) : PE X (.Call (.Name x p) (e :: es) [] pos) (tCB r t):=by
 intro pins s σ H Q I h;refine wpAny_Call_Name_kw (zE8 I hg hm hv ?_ hn hdb);exact PyProof.Rows.callWith_builtin1 (thn (ha pos pins s σ H _ I h) fun us s1 zR=>by obtain ⟨vs,H1,I1,r1,q1⟩:=zR; exact hc pins s1 σ H1 vs us Q I1 r1 q1) he hpl
theorem zF5 (hc : zj8 X (.type T) r) (hg : Gl X x) (hm : X.mg x = none) (hv : fy0 x = some (.type T)) (ha : PA X (e :: es) t) (hn : x ≠ "__name__" := by decide) (hdb : (x == ("__debug__" : Str)) = false:=by decide)
  (he : fy4 (e :: es) X.env = (false,eval e X.env) :: fy4 es X.env:=by rfl) (hpl : (backTo pos (fy4 es X.env)).any (·.1) = false:=by rfl) : PE X (.Call (.Name x p) (e :: es) [] pos) (tCB r t):=by
 intro pins s σ H Q I h;refine wpAny_Call_Name_kw (zE8 I hg hm hv ?_ hn hdb);exact ty8 (thn (ha pos pins s σ H _ I h) fun us s1 zR=>by obtain ⟨vs,H1,I1,r1,q1⟩:=zR; exact hc pins s1 σ H1 vs us Q I1 r1 q1) he hpl
end
end L2
namespace HT
open PySem PyProof.Rows
section
open PySem.SeqAt
open PySem.AutoSeq1 (wpAny_loadPart')
open PySem.MeetsSeq PySem.MeetsSeq2 PySem.MeetsSeq3
end
section
variable {prog : cy7} {w : World} {A : Around} {E : Value->Shared->Prop} {s : Shared}
theorem zc49 {t b : Addr} {vs ws : List Value} {Q : Value->Shared->Prop} (ht : IsTup s.heap t vs.toArray) (hb : IsTup s.heap b ws.toArray) (hv : vs ≠ [])
  (h1 : ws = []->Q (.ref t) s) (h2 : ws ≠ []->Q (.ref s.heap.objs.size) { s with heap:=s.heap.push { cls:=.type "tuple",data:=.seq (vs++ws).toArray } })
  (hsz : vs.length + ws.length <= by3) : wpAny (model prog w) A (oy0 .Add (.ref t) (.ref b)) Q E s:=by
 refine za0 fun gG=>?_;obtain ⟨⟨cls,dd,data,sl⟩,ho,hc,n,hd⟩:=id ht;obtain ⟨⟨cls2,dd2,data2,sl2⟩,ho2,hc2,n2,hd2⟩:=id hb;refine gG ?_;clear gG;simp only at hc hd hc2 hd2;subst hc hd hc2 hd2;have e : vs.toArray++ws.toArray = (vs++ws).toArray:=by simp
 by_cases hw : ws = []
 ·exact concat_meets ⟨_,ho,rfl⟩ ⟨_,ho2,rfl⟩ noFill_tuple_add seq_tuple_add PySem.F.slot_tuple_add PySem.F.entry_tuple_add (PySem.F.args_tuple_add_2 _ _)
   (tuple_addW1 t b vs.toArray ws.toArray n n2 dd dd2 sl sl2 (by simpa using hv) (by simp [hw])) ⟨ho,ho2,h1 hw⟩
 ·refine concat_meets ⟨_,ho,rfl⟩ ⟨_,ho2,rfl⟩ noFill_tuple_add seq_tuple_add PySem.F.slot_tuple_add PySem.F.entry_tuple_add (PySem.F.args_tuple_add_2 _ _)
   (tuple_addW2 t b vs.toArray ws.toArray n n2 dd dd2 sl sl2 (by simpa using hv) (by simpa using hw) (by rw [cy1,cy1]; exact hsz)) ⟨ho,ho2,?_⟩
  rw [e];exact h2 hw
def sIx (n d : Nat) : Option Int->Nat
 | none=>d
 | some v=>if v < 0 then (v + (n : Int)).toNat else min v.toNat n
theorem zZ8 (n d k : Nat) : sIx n d (some (k : Int)) = min k n:=by
 show (if (k : Int) < 0 then ((k : Int) + (n : Int)).toNat else min (k : Int).toNat n) = min k n;rw [if_neg (by omega),ky0]
theorem zd62 (n d : Nat) (hd : d <= n) (o : Option Int) : sIx n d o <= n:=by
 cases o with
 | none=>exact hd
 | some v =>
  show (if v < 0 then (v + (n : Int)).toNat else min v.toNat n) <= n
  by_cases hv : v < 0
  ·rw [if_pos hv]; omega
  ·rw [if_neg hv]; exact Nat.min_le_right _ _
theorem zZ9 (v : Int) (n d : Nat) : (if v < 0 then max (v + (n : Int)) 0 else min v (n : Int)) = ((sIx n d (some v) : Nat) : Int):=by
 show (if v < 0 then max (v + (n : Int)) 0 else min v (n : Int)) = (((if v < 0 then (v + (n : Int)).toNat else min v.toNat n) : Nat) : Int)
 by_cases hv : v < 0
 ·simp only [if_pos hv]; omega
 ·simp only [if_neg hv]; omega
theorem zT3 (lo hi : Option Int) (n : Nat) : vy7 lo hi 1 (n : Int) = (((sIx n 0 lo : Nat) : Int),((sIx n n hi : Nat) : Int)):=by
 have h1 : ¬ ((1 : Int) < 0):=by omega
 unfold Builtin.Slice.sliceAdjust;simp only [h1,if_false];refine Prod.ext ?_ ?_
 ·cases lo with
  | none=>rfl
  | some v=>exact zZ9 v n 0
 ·cases hi with
  | none=>rfl
  | some v=>exact zZ9 v n n
theorem zT4 (i j : Nat) : qy7 (i : Int) (j : Int) 1 = j - i:=by
 unfold Builtin.Slice.slicePlaces;have h1 : (1 : Int) > 0:=by omega
 simp only [h1,if_true,Int.ediv_one]
 split <;> omega
theorem zy5 {v : Value} {o : Option Int} {Q : Option Int->Shared->Prop} (p : IsPart v o) (h : Q o s) : wpAny (model prog w) A (Builtin.Slice.slicePartIndex v) Q E s:=by
 cases p with
 | none=>exact slicePart_none h
 | int i t=>exact slicePart_int h
theorem zl4 {sl : Addr} {vl vu : Value} {lo hi : Option Int} {n : Nat} {Q : Int × Int × Nat->Shared->Prop} (hs : s.heap.IsSliceOf sl vl vu .none) (pl : IsPart vl lo) (pu : IsPart vu hi)
  (h : Q (((sIx n 0 lo : Nat) : Int),1,sIx n n hi - sIx n 0 lo) s) : wpAny (model prog w) A (Builtin.Slice.sliceApplied (.ref sl) (pure (n : Int))) Q E s:=by
 refine za0 fun gG=>?_;obtain ⟨os,hos,hcs,hds⟩:=id hs;refine gG ?_;clear gG;unfold Builtin.Slice.sliceApplied Builtin.Slice.sliceFields;refine ay0 (ay0 (jy5 hos hds (x:=vl) rfl (ay0 (jy5 hos hds (x:=vu) rfl (ay0 (jy5 hos hds (x:=.none) rfl (ay1 ?_)))))));refine ay0 (slicePart_none ?_);show wpAny _ _ (if ((1 : Int) == 0) = true then _ else _) _ _ s;rw [if_neg (by decide)];refine ay0 (zy5 pl (ay0 (zy5 pu (ay0 (ay1 ?_)))));show wpAny _ _ (match vy7 lo hi 1 (n : Int) with | (lo,hi)=>pure (lo,(1 : Int),qy7 lo hi 1)) _ _ s;rw [zT3 lo hi n];show wpAny _ _ (pure (((sIx n 0 lo : Nat) : Int),(1 : Int),qy7 ((sIx n 0 lo : Nat) : Int) ((sIx n n hi : Nat) : Int) 1)) _ _ s;rw [zT4];exact ay1 h
theorem zb21 (xs : Array Value) (i k : Nat) : ((jy9 k).filterMap fun (m : Nat)=>xs[((i : Int) + (m : Int) * 1).toNat]?).toArray = ((xs.toList.drop i).take k).toArray:=by
 have e : (fun (m : Nat)=>xs[((i : Int) + (m : Int) * 1).toNat]?) = fun m=>xs[i + m]?:=by
  funext m
  have : ((i : Int) + (m : Int) * 1).toNat = i + m:=by omega
  rw [this]
 rw [e];have:=pick_run xs i k;rw [List.filterMap_map] at this;have e2 : ((fun x=>xs[x]?) ∘ fun x=>i + x) = fun m=>xs[i + m]?:=rfl;rw [e2] at this;rw [this]
theorem zq5 {t sl : Addr} {items : Array Value} {vl vu : Value} {lo hi : Option Int} {Q : Value->Shared->Prop} (ht : IsTup s.heap t items) (hs : s.heap.IsSliceOf sl vl vu .none) (pl : IsPart vl lo) (pu : IsPart vu hi)
  (hw : ¬ (sIx items.size 0 lo = 0 /\ sIx items.size items.size hi = items.size))
  (h : Q (.ref s.heap.objs.size) { s with heap:=s.heap.push { cls:=.type "tuple",data:=.seq ((items.toList.drop (sIx items.size 0 lo)).take (sIx items.size items.size hi - sIx items.size 0 lo)).toArray } })
  (hsz : items.size <= by3) : wpAny (model prog w) A (getItem (.ref t) (.ref sl)) Q E s:=by
 have htake : sizeOk (.seq ((items.toList.drop (sIx items.size 0 lo)).take (sIx items.size items.size hi - sIx items.size 0 lo)).toArray):=by
  show ((items.toList.drop (sIx items.size 0 lo)).take (sIx items.size items.size hi - sIx items.size 0 lo)).toArray.size <= by3;rw [cy1,dy1,wy1,jy2];omega
 have hj : sIx items.size items.size hi <= items.size:=zd62 _ _ (ay6 _) hi;refine za0 fun gG=>?_;obtain ⟨os,hos,hcs,hds⟩:=id hs;refine gG ?_;clear gG;have hTs : s.TypeIs (.ref sl) "slice" := ⟨os,hos,hcs⟩
 unfold getItem
 try with_reducible refine fy1 ?_
 first | refine ay0 (ay1 ?_) | skip
 refine ay0 (wpAny_sequenceKey ht.typeIs (by decide) ?_)
 refine ay0 (ey8 (name:=my3 "__getitem__") ht.typeIs hy8
  (dy4 hy8 ht.typeIs entry_tuple_getitem ?_ (args_tuple_getitem _ _)))
 show wpAny _ _ (Builtin.Tuple.tupleItemsOf (.ref t) >>= _) _ _ s;refine ay0 (tupleItemsOf_ ht ?_);refine ay0 (uy1 hTs ?_);rw [if_pos (by decide)];refine ay0 (zl4 hs pl pu ?_)
 have hno : ¬ ((((sIx items.size 0 lo : Nat) : Int) == 0 && (1 : Int) == 1 && (sIx items.size items.size hi - sIx items.size 0 lo) == items.size) = true):=by
  intro q;rw [sy5,sy5] at q;have q1 : ((sIx items.size 0 lo : Nat) : Int) = 0:=eq_of_beq q.1.1;have q2 : sIx items.size items.size hi - sIx items.size 0 lo = items.size:=eq_of_beq q.2;exact hw ⟨by omega,by omega⟩
 show wpAny _ _ (if (((sIx items.size 0 lo : Nat) : Int) == 0 && (1 : Int) == 1 && (sIx items.size items.size hi - sIx items.size 0 lo) == items.size) = true then _ else _) _ _ s;rw [if_neg hno,zb21]
 first
  | exact ay0 (m:=ry3 _) (ey5 (ay1 ⟨_,rfl,ay1 h⟩) htake)
  | exact ay0 (m:=ry3 _) (ey5 (ay0 (ay1 (ay1 ⟨_,rfl,ay1 h⟩))) htake)
  | exact ay0 (ay0 (m:=ry3 _) (ey5 (ay1 (ay1 ⟨_,rfl,ay1 h⟩)) htake))
  | exact ay0 (ay0 (m:=ry3 _) (ey5 (ay1 ⟨_,rfl,ay1 h⟩) htake))
end
end HT
namespace L2
open PySem PySem.Spec PyProof.Rows
abbrev TO:=St->Hp->(Option Int->Hp->Prop)->Prop
def PO (X : Cx) (e : Option Expr) (t : TO) : Prop :=
 ∀ (pins : List (Addr × Obj)) (s : Shared) (σ : St) (H : Hp) (Q : Option Int->Hp->Prop),Inv X pins σ H s->t σ H Q ->
  wpAny (model X.prog X.w) X.A (evalPart e X.env) (fun u s'=>∃ o H',Inv X pins σ H' s' /\ IsPart u o /\ Q o H') X.xe s
def zc50 : TO:=fun _ H Q=>Q none H
def ze77 (t : TE) : TO:=fun σ H Q=>t σ H fun x H1=>∃ i,x = .int i /\ Q (some i) H1
section
variable {X : Cx} {e : Expr} {te : TE} {lo hi : Option Expr} {tl th : TO} {pos p2 : Pos}
theorem zc51 : PO X none zc50:=by
 intro pins s σ H Q I h;rw [evalPart_none];exact ay1 ⟨none,H,I,.none,h⟩
theorem zc52 (h : PE X e te) : PO X (some e) (ze77 te):=by
 intro pins s σ H Q I hw;rw [evalPart_some];refine thn (h pins s σ H _ I hw) fun u s1 zR=>?_;refine za0 fun gG=>?_;obtain ⟨x,H1,I1,r1,q1⟩:=zR;obtain ⟨i,rfl,q⟩:=q1;obtain ⟨t,rfl⟩:=r1;refine gG ?_;clear gG;exact ⟨some i,H1,I1,.int i t,q⟩
def SlR (X : Cx) (r : V->Option Int->Option Int->Hp->VK->Prop) : Prop :=
 ∀ (pins : List (Addr × Obj)) (s : Shared) (σ : St) (H : Hp) (x : V) (v vl vu : Value) (lo hi : Option Int) (sl : Addr) (Q : VK),Inv X pins σ H s->RelV x v->s.heap.IsSliceOf sl vl vu .none->IsPart vl lo->IsPart vu hi->r x lo hi H Q ->
  ∃ T id,typeLookup (.type T) "__getitem__" = pure (some (.builtin id)) /\ s.TypeIs v T /\ wpAny (model X.prog X.w) X.A (getItem v (.ref sl)) (EP X pins σ Q) X.xe s
def tSl (r : V->Option Int->Option Int->Hp->VK->Prop) (te : TE) (tl th : TO) : TE:=fun σ H Q=>te σ H fun x H1=>tl σ H1 fun l H2=>th σ H2 fun u H3=>r x l u H3 Q
theorem zb22 {r : V->Option Int->Option Int->Hp->VK->Prop} (hr : SlR X r) (he : PE X e te) (hl : PO X lo tl) (hu : PO X hi th) : PE X (.Subscript e (.Slice lo hi none p2) pos) (tSl r te tl th):=by
 intro pins s σ H Q I h;refine Subscript_ (thn (he pins s σ H _ I h) fun v s1 ⟨x,H1,I1,r1,q1⟩=>?_);refine wpAny_Slice (thn (hl pins s1 σ H1 _ I1 q1) fun vl s2 ⟨l,H2,I2,pl,q2⟩=>thn (hu pins s2 σ H2 _ I2 q2) fun vu s3 ⟨u,H3,I3,pu,q3⟩=>?_);rw [evalPart_none];refine ay1 ?_;have I4 : Inv X pins σ H3 { s3 with heap:=s3.heap.push { cls:=.type "slice",data:=.fields #[vl,vu,.none] } }:=I3.kept (t':=s3.toks) fun b ob q=>ay2 _ q;refine za0 fun gG=>?_;obtain ⟨T,id,hT,ht,hg⟩:=hr pins { s3 with heap:=s3.heap.push { cls:=.type "slice",data:=.fields #[vl,vu,.none] } } σ H3 x v vl vu l u s3.heap.objs.size Q I4 r1 (Heap.IsSliceOf.new ..) pl pu q3;refine gG ?_;clear gG;show wpAny (model X.prog X.w) X.A (subscriptTail e (.Slice lo hi none p2) v (.ref s3.heap.objs.size)) (EP X pins σ Q) X.xe { s3 with heap:=s3.heap.push { cls:=.type "slice",data:=.fields #[vl,vu,.none] } };exact tail_any (ops:=[.ref s3.heap.objs.size,v]) ht hT hg (by with_unfolding_all rfl)
def zK1 (xs : List V) (lo hi : Option Int) : List V:=(xs.drop (HT.sIx xs.length 0 lo)).take (HT.sIx xs.length xs.length hi - HT.sIx xs.length 0 lo)
theorem zv0 (xs : List V) (lo hi : Option Int) : (zK1 xs lo hi).length <= xs.length:=by
 unfold zK1;rw [dy1,wy1];omega
def rSlT (K : ay5) : V->Option Int->Option Int->Hp->VK->Prop:=fun x lo hi H Q=>∃ a xs,x = .ref a /\ SqT K H a xs /\
 ¬ (HT.sIx xs.length 0 lo = 0 /\ HT.sIx xs.length xs.length hi = xs.length) /\ ∀ p,H p = none->Q (.ref p) (upd H p (.tup (zK1 xs lo hi)))
theorem zc05 : SlR X (rSlT X.K):=by
 intro pins s σ H x v vl vu lo hi sl Q I rx hs pl pu h;refine za0 fun gG=>?_;obtain ⟨a,xs,rfl,hx,hw,q⟩:=h;refine gG ?_;clear gG;cases rx;refine za0 fun gG=>?_;obtain ⟨its,r,ht,hz⟩:=I.tuple hx;refine gG ?_;clear gG;have hlen : its.toArray.size = xs.length:=by rw [cy1]; exact r.length.symm
 refine ⟨"tuple",_,hy8.lookup,ht.typeIs,?_⟩;refine HT.zq5 ht hs pl pu (by rw [hlen]; exact hw) ?_ (by rw [hlen]; exact hz);rw [hlen];refine ⟨.ref s.heap.objs.size,_,I.laid (t':=s.toks) (o:=.tup (zK1 xs lo hi)) (fun b ob q=>ay2 _ q) (ay6 _) ?_,rfl,q _ (I.hok.fresh (ay6 _))⟩;exact ⟨ey1 (zv0 xs lo hi) hz,_,(r.drop (HT.sIx xs.length 0 lo)).take (HT.sIx xs.length xs.length hi - HT.sIx xs.length 0 lo),IsTup.new _ _⟩
def ze78 (K : ay5) : R2:=fun x y H Q=>∃ a b xs ys,x = .ref a /\ y = .ref b /\ SqT K H a xs /\ SqT K H b ys /\ xs ≠ [] /\ xs.length + ys.length <= by3 /\
 (ys = []->Q (.ref a) H) /\ (ys ≠ []->∀ p,H p = none->Q (.ref p) (upd H p (.tup (xs++ys))))
theorem Vals.zA4 {xs : List V} {us : List Value} (r : Vals xs us) : us = [] ↔ xs = []:=by
 cases r with
 | nil=>simp
 | cons _ _=>simp
theorem zc53 : OpR X (oy0 .Add) (ze78 X.K):=by
 intro pins s σ H x y v u Q I rx ry h;refine za0 fun gG=>?_;obtain ⟨a,b,xs,ys,rfl,rfl,ha,hb,hx,hz,q1,q2⟩:=h;refine gG ?_;clear gG;cases rx;cases ry;refine za0 fun gG=>?_;obtain ⟨its,r1,p1,_⟩:=I.tuple ha;obtain ⟨its2,r2,p2,_⟩:=I.tuple hb;refine gG ?_;clear gG;refine HT.zc49 p1 p2 (fun z=>hx (r1.zA4.mp z)) (fun z=>⟨.ref a,H,I,rfl,q1 (r2.zA4.mp z)⟩) (fun z=>?_) (by rw [<- r1.length,<- r2.length]; exact hz);refine ⟨.ref s.heap.objs.size,_,I.laid (t':=s.toks) (o:=.tup (xs++ys)) (fun b ob q=>ay2 _ q) (ay6 _) ?_,rfl,q2 (fun w=>z (r2.zA4.mpr w)) _ (I.hok.fresh (ay6 _))⟩;exact ⟨by rw [cy5]; exact hz,_,r1.append r2,IsTup.new _ _⟩
end
def ixN (n : Nat) (i : Int) : Option Nat:=if 0 <= i then (if i < n then some i.toNat else none) else if -(n : Int) <= i then some (i + n).toNat else none
def atI {α : Type} (xs : List α) (i : Int) : Option α:=(ixN xs.length i).bind fun j=>xs[j]?
theorem za00 {n : Nat} {i : Int} {j : Nat} (h : ixN n i = some j) : seqIndex? i n = some j /\ j < n /\ -(n : Int) <= i /\ i < n:=by
 unfold ixN at h
 by_cases h0 : 0 <= i
 ·rw [if_pos h0] at h
  by_cases h1 : i < n
  ·rw [if_pos h1] at h;have e : i.toNat = j:=jy1 h;exact ⟨by rw [seqIndex_of h0 h1,e],by omega,by omega,h1⟩
  ·rw [if_neg h1] at h; cases h
 ·rw [if_neg h0] at h
  by_cases h1 : -(n : Int) <= i
  ·rw [if_pos h1] at h;have e : (i + n).toNat = j:=jy1 h;exact ⟨by rw [seqIndex_neg (by omega) h1,e],by omega,h1,by omega⟩
  ·rw [if_neg h1] at h; cases h
theorem za01 {α : Type} {xs : List α} {i : Int} {v : α} (h : atI xs i = some v) : ∃ j,seqIndex? i xs.length = some j /\ xs[j]? = some v /\ j < xs.length /\ -(xs.length : Int) <= i /\ i < xs.length:=by
 unfold atI at h;cases e : ixN xs.length i with
 | none=>rw [e] at h; cases h
 | some j =>
  rw [e] at h;refine za0 fun gG=>?_;obtain ⟨h1,h2,h3,h4⟩:=za00 e;refine gG ?_;clear gG;exact ⟨j,h1,h,h2,h3,h4⟩
def za02 (b : Expr) : Prop:=∀ o i,subscripted b false o i = operate [o,i] (getItem o i)
def IxR (X : Cx) (r : R2) : Prop :=
 ∀ (value slice : Expr) (pins : List (Addr × Obj)) (s : Shared) (σ : St) (H : Hp) (x y : V) (v u : Value) (Q : VK),Inv X pins σ H s->RelV x v->RelV y u->r x y H Q ->
  subscripted slice false v u = operate [v,u] (getItem v u)->wpAny (model X.prog X.w) X.A (subscriptTail value slice v u) (EP X pins σ Q) X.xe s
def MtR (X : Cx) (id : String) (r : V->List V->Hp->VK->Prop) : Prop :=
 ∀ (pins : List (Addr × Obj)) (s : Shared) (σ : St) (H : Hp) (x : V) (xs : List V) (v : Value) (us : List Value) (Q : VK),Inv X pins σ H s->RelV x v->Vals xs us->r x xs H Q ->
  wpAny (model X.prog X.w) X.A (call (.builtin id) (v :: us)) (EP X pins σ Q) X.xe s
section
variable {X : Cx} {a b : Expr} {ta tb : TE} {pos : Pos}
theorem ze79 {r : R2} (hr : IxR X r) (ha : PE X a ta) (hb : PE X b tb) (hs : za02 b) : PE X (.Subscript a b pos) (tOp r ta tb):=by
 intro pins s σ H Q I h;exact Subscript_ (binT ha hb I h fun v u s2 x y H2 I2 rx ry q=>hr a b pins s2 σ H2 x y v u Q I2 rx ry q (hs _ _))
def rIxL (K : ay5) : R2:=fun x y H Q=>∃ p xs i v,x = .ref p /\ y = .int i /\ SqL K H p xs /\ atI xs i = some v /\ Q v H
def rIxT (K : ay5) : R2:=fun x y H Q=>∃ p xs i v,x = .ref p /\ y = .int i /\ SqT K H p xs /\ atI xs i = some v /\ Q v H
theorem za03 : IxR X (rIxL X.K):=by
 intro value slice pins s σ H x y v u Q I rx ry h hs;refine za0 fun gG=>?_;obtain ⟨p,xs,i,z,rfl,rfl,hq,he,q⟩:=h;refine gG ?_;clear gG;cases rx;refine za0 fun gG=>?_;obtain ⟨t,rfl⟩:=ry;obtain ⟨its,r,pl,hz⟩:=I.list hq;obtain ⟨j,h1,h2,h3,h4,h5⟩:=za01 he;obtain ⟨w,ew,rw'⟩:=r.get h2;refine gG ?_;clear gG;have hl:=r.length;have hn:=zu8;have fin : EP X pins σ Q w s:=⟨z,H,I,rw',q⟩
 by_cases h0 : 0 <= i
 ·have hj : i.toNat = j:=by
   rw [seqIndex_of h0 h5] at h1;exact jy1 h1
  exact item_listR pl.isList h0 (by omega) (by rw [hj]; simpa using ew) fin hs
 ·have hj : (i + (its.toArray.size : Int)).toNat = j:=by
   rw [seqIndex_neg (by omega) h4] at h1;rw [cy1,<- hl];exact jy1 h1
  exact py4 (x:=w) pl.isList.typeIs slot_list_getitem.lookup
   (wpAny_getItem_list_neg (Q:=fun r s'=>r = w /\ EP X pins σ Q r s') pl.isList (by omega) (by rw [cy1] <;> omega) (by omega) (by rw [hj]; simpa using ew) ⟨rfl,fin⟩) hs
theorem zd63 : IxR X (rIxT X.K):=by
 intro value slice pins s σ H x y v u Q I rx ry h hs;refine za0 fun gG=>?_;obtain ⟨p,xs,i,z,rfl,rfl,hq,he,q⟩:=h;refine gG ?_;clear gG;cases rx;refine za0 fun gG=>?_;obtain ⟨t,rfl⟩:=ry;obtain ⟨its,r,pl,hz⟩:=I.tuple hq;obtain ⟨j,h1,h2,h3,h4,h5⟩:=za01 he;obtain ⟨w,ew,rw'⟩:=r.get h2;refine gG ?_;clear gG;have hl:=r.length;have hn:=zu8;have fin : EP X pins σ Q w s:=⟨z,H,I,rw',q⟩
 exact py4 (x:=w) pl.typeIs slot_tuple_getitem.lookup
  (getItem_tuple (j:=j) (Q:=fun r s'=>r = w /\ EP X pins σ Q r s') pl (by omega) (by omega) (by rw [cy1,<- hl]; exact h1) (by simpa using ew) ⟨rfl,fin⟩) hs
theorem zT5 (its : List Value) (n j : Nat) (u : Value) : hy9 (·.setIfInBounds j u) { cls:=.type "list",data:=.seq its.toArray n } = { cls:=.type "list",data:=.seq (its.set j u).toArray n }:=by
 simp [hy9]
theorem Inv.lst {pins : List (Addr × Obj)} {σ : St} {H : Hp} {s : Shared} {p : Addr} {xs : List V} (I : Inv X pins σ H s) (h : H p = some (.lst xs)) :
  ∃ (its : List Value) (n : Nat),Vals xs its /\ s.heap.get? p = some { cls:=.type "list",data:=.seq its.toArray n } /\ xs.length <= by3:=by
 refine za0 fun gG=>?_;obtain ⟨z,its,n,r,e⟩:=I.hok p _ h;refine gG ?_;clear gG;exact ⟨its,n,r,e,z⟩
theorem Inv.zd64 {pins : List (Addr × Obj)} {σ : St} {H : Hp} {s : Shared} {p : Addr} {xs ys : List V} {its its' : List Value} {n n' : Nat} {f : Obj->Obj} (I : Inv X pins σ H s) (h : H p = some (.lst xs))
  (ho : s.heap.get? p = some { cls:=.type "list",data:=.seq its.toArray n }) (hf : f { cls:=.type "list",data:=.seq its.toArray n } = { cls:=.type "list",data:=.seq its'.toArray n' }) (r : Vals ys its') (hz : ys.length <= by3) (t : Nat) :
  Inv X pins σ (upd H p (.lst ys)) { s with heap:=s.heap.update p f,toks:=t }:=by
 have e : (s.heap.update p f).get? p = some { cls:=.type "list",data:=.seq its'.toArray n' }:=by
  rw [gy0 f ho (by rw [hf] <;> rfl),hf]
 refine I.write (x:=p) (e:=p) (by rw [h]; trivial) (.inl rfl) (fun b u hb q=>(dy5 _ _ (fy2 hb)).trans q) ⟨_,e⟩ ?_;exact ⟨hz,its',n',r,e⟩
def ze80 : V->V->V->Hp->(Hp->Prop)->Prop:=fun o i v H Q=>∃ p xs k j,o = .ref p /\ i = .int k /\ H p = some (.lst xs) /\ ixN xs.length k = some j /\ Q (upd H p (.lst (xs.set j v)))
theorem set_list : PSet X ze80:=by
 intro pins s σ H o i v ov iv u Q I ro ri rv h;refine za0 fun gG=>?_;obtain ⟨p,xs,k,j,rfl,rfl,hp,hj,q⟩:=h;refine gG ?_;clear gG;cases ro;refine za0 fun gG=>?_;obtain ⟨t,rfl⟩:=ri;obtain ⟨its,n,r,ho,hz⟩:=I.lst hp;obtain ⟨h1,h2,h3,h4⟩:=za00 hj;refine gG ?_;clear gG;have hl:=r.length;have hn:=zu8
 have I' : Inv X pins σ (upd H p (.lst (xs.set j v))) { s with heap:=s.heap.update p (hy9 (·.setIfInBounds j u)) } :=
  I.zd64 hp ho (zT5 its n j u) (r.set rv j) (by rw [ly6]; exact hz) s.toks
 by_cases h0 : 0 <= k
 ·have hk : k.toNat = j:=by
   rw [seqIndex_of h0 h4] at h1;exact jy1 h1
  exact PySem.W.ki_setAt ho h0 (by omega) (by rw [cy1,<- hl]; exact h4) (by rw [hk]; exact ⟨_,I',q⟩)
 ·have hk : (k + (its.toArray.size : Int)).toNat = j:=by
   rw [seqIndex_neg (by omega) h3] at h1;rw [cy1,<- hl];exact jy1 h1
  exact PySem.W.ki_setBack ho (by omega) (by rw [cy1,<- hl]; exact h3) (by omega) (by rw [hk]; exact ⟨_,I',q⟩)
theorem zF6 (lo hi : Option Int) (n : Nat) : (sliceBounds lo hi none n).1 = ((HT.sIx n 0 lo : Nat) : Int) /\ (sliceBounds lo hi none n).2.1 = ((HT.sIx n n hi : Nat) : Int) /\ (sliceBounds lo hi none n).2.2 = 1:=by
 refine ⟨?_,?_,rfl⟩
 ·cases lo with
  | none=>simp [sliceBounds,HT.sIx]
  | some i =>
   simp only [sliceBounds,HT.sIx,Option.getD_none,show (1 : Int) > 0 by decide,if_true]
   by_cases h : i < 0
   ·simp only [h,if_true] <;> omega
   ·simp only [h,if_false] <;> omega
 ·cases hi with
  | none=>simp [sliceBounds,HT.sIx]
  | some i =>
   simp only [sliceBounds,HT.sIx,Option.getD_none,show (1 : Int) > 0 by decide,if_true]
   by_cases h : i < 0
   ·simp only [h,if_true] <;> omega
   ·simp only [h,if_false] <;> omega
theorem zA5 (its : List Value) (lo hi : Option Int) : slicePick its.toArray lo hi none = ((its.drop (HT.sIx its.length 0 lo)).take (HT.sIx its.length its.length hi - HT.sIx its.length 0 lo)).toArray:=by
 refine za0 fun gG=>?_;obtain ⟨h1,h2,h3⟩:=zF6 lo hi its.toArray.size;refine gG ?_;clear gG;unfold slicePick;rw [h1,h2,h3];simp only [sliceRange_one,pick_run,cy1] <;> rfl
def rSlL (K : ay5) : V->Option Int->Option Int->Hp->VK->Prop:=fun x lo hi H Q=>∃ a xs,x = .ref a /\ SqL K H a xs /\ ∀ p,H p = none->Q (.ref p) (upd H p (.lst (zK1 xs lo hi)))
theorem zK2 : SlR X (rSlL X.K):=by
 intro pins s σ H x v vl vu lo hi sl Q I rx hs pl pu h;refine za0 fun gG=>?_;obtain ⟨a,xs,rfl,hx,q⟩:=h;refine gG ?_;clear gG;cases rx;refine za0 fun gG=>?_;obtain ⟨its,r,ht,hz⟩:=I.list hx;refine gG ?_;clear gG;have hlen:=r.length;refine ⟨"list",_,slot_list_getitem.lookup,ht.isList.typeIs,?_⟩;refine wpAny_getItem_list_slice ht.isList hs pl pu .none (by simp) ?_ (by rw [cy1] <;> omega);rw [zA5,<- hlen];refine ⟨.ref s.heap.objs.size,_,I.laid (t':=s.toks) (o:=.lst (zK1 xs lo hi)) (fun b ob q=>ay2 _ q) (ay6 _) ?_,rfl,q _ (I.hok.fresh (ay6 _))⟩;exact ⟨ey1 (zv0 xs lo hi) hz,_,0,(r.drop (HT.sIx xs.length 0 lo)).take (HT.sIx xs.length xs.length hi - HT.sIx xs.length 0 lo),ay7 _ rfl⟩
def zA6 : V->Bool
 | .non=>true
 | .bl _=>true
 | .int _=>true
 | .str _=>true
 | _=>false
def eqV : V->V->Bool
 | .non,.non=>true
 | .bl a,.bl b=>a == b
 | .bl a,.int b=>(if a then 1 else 0) == b
 | .int a,.bl b=>a == (if b then 1 else 0)
 | .int a,.int b=>a == b
 | .str a,.str b=>a == b
 | _,_=>false
theorem zd65 {A : Around} {s : Shared} {y x : V} {u v : Value} (ry : RelV y u) (rx : RelV x v) (fy : zA6 y = true) (fx : zA6 x = true) : SeqAt.EqAt A s u v (eqV y x):=by
 cases y with
 | non =>
  cases ry;cases x with
  | non=>cases rx; exact SeqAt.EqAt.same _
  | bl b=>cases rx; exact SeqAt.EqAt.none_bool b
  | int b=>obtain ⟨t,rfl⟩:=rx; exact SeqAt.EqAt.none_int b t
  | str b=>obtain ⟨t,rfl⟩:=rx; exact SeqAt.EqAt.none_str b t
  | _=>exact absurd (show false = true from fx) by9
 | bl a =>
  cases ry;cases x with
  | non=>cases rx; exact SeqAt.EqAt.bool_none a
  | bl b=>cases rx; exact SeqAt.EqAt.bool_bool a b
  | int b=>obtain ⟨t,rfl⟩:=rx; exact SeqAt.EqAt.bool_int a b t
  | str b=>obtain ⟨t,rfl⟩:=rx; exact SeqAt.EqAt.bool_str a b t
  | _=>exact absurd (show false = true from fx) by9
 | int a =>
  refine za0 fun gG=>?_;obtain ⟨t',rfl⟩:=ry;refine gG ?_;clear gG;cases x with
  | non=>cases rx; exact SeqAt.EqAt.int_none a t'
  | bl b=>cases rx; exact SeqAt.EqAt.int_bool a t' b
  | int b=>obtain ⟨t,rfl⟩:=rx; exact SeqAt.EqAt.int_int a t' b t
  | str b=>obtain ⟨t,rfl⟩:=rx; exact SeqAt.EqAt.int_str a t' b t
  | _=>exact absurd (show false = true from fx) by9
 | str a =>
  refine za0 fun gG=>?_;obtain ⟨t',rfl⟩:=ry;refine gG ?_;clear gG;cases x with
  | non=>cases rx; exact SeqAt.EqAt.str_none a t'
  | bl b=>cases rx; exact SeqAt.EqAt.str_bool a t' b
  | int b=>obtain ⟨t,rfl⟩:=rx; exact SeqAt.EqAt.str_int a t' b t
  | str b=>obtain ⟨t,rfl⟩:=rx; exact SeqAt.EqAt.str_str a t' b t
  | _=>exact absurd (show false = true from fx) by9
 | _=>exact absurd (show false = true from fy) by9
def eqU (x : V) (u : Value) : Bool:=match u with
 | .none=>eqV .non x
 | .bool b=>eqV (.bl b) x
 | .int i _=>eqV (.int i) x
 | .str z _=>eqV (.str z) x
 | _=>false
theorem zc06 {x y : V} {u : Value} (r : RelV y u) (f : zA6 y = true) : eqU x u = eqV y x:=by
 cases y with
 | non=>cases r; rfl
 | bl b=>cases r; rfl
 | int i=>obtain ⟨t,rfl⟩:=r; rfl
 | str z=>obtain ⟨t,rfl⟩:=r; rfl
 | _=>exact absurd (show false = true from f) by9
theorem zK3 {x : V} : ∀ {xs : List V} {us : List Value},Vals xs us->xs.all zA6 = true->us.any (eqU x) = xs.any fun y=>eqV y x
 | _,_,.nil,_=>rfl
 | y :: xs,u :: us,.cons r t,f=>by
  rw [List.all_cons,sy5] at f;rw [sy3,sy3,zc06 r f.1,zK3 t f.2]
theorem zA7 {A : Around} {s : Shared} {x : V} {v : Value} (rx : RelV x v) (fx : zA6 x = true) : ∀ {xs : List V} {us : List Value},Vals xs us->xs.all zA6 = true->∀ u∈us,SeqAt.EqAt A s u v (eqU x u)
 | _,_,.nil,_=>fun u hu=>by cases hu
 | y :: xs,u :: us,.cons r t,f=>fun u' hu=>by
  rw [List.all_cons,sy5] at f;rcases by7.mp hu with rfl | hu
  ·rw [zc06 r f.1]; exact zd65 r rx f.1 fx
  ·exact zA7 rx fx t f.2 u' hu
def inV (x : V) (xs : List V) : Bool:=xs.any fun y=>eqV y x
def rIn (K : ay5) (neg : Bool) : R2:=fun x y H Q=>∃ p xs,y = .ref p /\ (SqL K H p xs \/ SqT K H p xs) /\ zA6 x = true /\ xs.all zA6 = true /\ Q (.bl (if neg then !inV x xs else inV x xs)) H
theorem zF7 : OpR X (gy5 .NotIn) (rIn X.K true):=by
 intro pins s σ H x y v u Q I rx ry h;refine za0 fun gG=>?_;obtain ⟨p,xs,rfl,hq,fx,fs,q⟩:=h;refine gG ?_;clear gG;cases ry;rcases hq with hq | hq
 ·refine za0 fun gG=>?_;obtain ⟨its,r,pl,hz⟩:=I.list hq;refine gG ?_;clear gG;refine SeqAt.notIn_listAt (eqU x) pl.isList (fun w hw=>zA7 rx fx r fs w (by simpa using hw)) ⟨.bl _,H,I,rfl,?_⟩;rw [show its.toArray.any (eqU x) = its.any (eqU x) by simp,zK3 r fs];exact q
 ·refine za0 fun gG=>?_;obtain ⟨its,r,pl,hz⟩:=I.tuple hq;refine gG ?_;clear gG;refine SeqAt.notIn_tupleAt (eqU x) pl (fun w hw=>zA7 rx fx r fs w (by simpa using hw)) ⟨.bl _,H,I,rfl,?_⟩;rw [show its.toArray.any (eqU x) = its.any (eqU x) by simp,zK3 r fs];exact q
theorem zs0 : zj8 X (.builtin "len") (fun xs H Q=>∃ p ys,xs = [.ref p] /\ (SqL X.K H p ys \/ SqT X.K H p ys) /\ Q (.int ys.length) H):=by
 intro pins s σ H xs us Q I r h;refine za0 fun gG=>?_;obtain ⟨p,ys,rfl,hq,q⟩:=h;obtain ⟨u,rfl,rx⟩:=vals1 r;refine gG ?_;clear gG;cases rx;have hn:=zu8;rcases hq with hq | hq
 ·refine za0 fun gG=>?_;obtain ⟨its,r',pl,hz⟩:=I.list hq;refine gG ?_;clear gG;have hlen:=r'.length;exact Calls.call_len_list pl.isList (by simp only [cy1] <;> omega) ⟨.int ys.length,H,I.tok _,⟨s.toks + 1,by rw [cy1,hlen]⟩,q⟩
 ·refine za0 fun gG=>?_;obtain ⟨its,r',pl,hz⟩:=I.tuple hq;refine gG ?_;clear gG;have hlen:=r'.length;exact len_tuple pl (by simp only [cy1] <;> omega) ⟨.int ys.length,H,I.tok _,⟨s.toks + 1,by rw [cy1,hlen]⟩,q⟩
theorem zF8 : zj8 X (.builtin "len") (fun xs H Q=>∃ z,xs = [.str z] /\ z.length <= by3 /\ Q (.int z.length) H):=by
 intro pins s σ H xs us Q I r h;refine za0 fun gG=>?_;obtain ⟨z,rfl,hz,q⟩:=h;obtain ⟨u,rfl,t,rfl⟩:=vals1 r;refine gG ?_;clear gG;have hn:=zu8;exact len_str (by omega) ⟨.int z.length,H,I.tok _,⟨_,rfl⟩,q⟩
theorem zF9 : zj8 X (.type "list") (fun xs H Q=>∃ p ys,xs = [.ref p] /\ (SqL X.K H p ys \/ SqT X.K H p ys) /\ ∀ l,H l = none->Q (.ref l) (upd H l (.lst ys))):=by
 intro pins s σ H xs us Q I r h;refine za0 fun gG=>?_;obtain ⟨p,ys,rfl,hq,q⟩:=h;obtain ⟨u,rfl,rx⟩:=vals1 r;refine gG ?_;clear gG;cases rx
 have fin : ∀ (its : List Value),Vals ys its->ys.length <= by3->∀ (h' : Heap) (c' : Nat),(∀ b o',s.heap.get? b = some o'->h'.get? b = some o') ->
   h'.get? s.heap.objs.size = some { cls:=.type "list",dict:=none,data:=.seq its.toArray c',slots:=#[] }->EP X pins σ Q (.ref s.heap.objs.size) { s with heap:=h' }:=fun its r' hz h' c' kp e =>
  ⟨.ref s.heap.objs.size,_,I.laid (t':=s.toks) kp (ay6 _) (show zc1 X.prog X.w _ h' _ (.lst ys) from ⟨hz,its,c',r',e⟩),rfl,q _ (I.hok.fresh (ay6 _))⟩
 rcases hq with hq | hq
 ·refine za0 fun gG=>?_;obtain ⟨its,r',pl,hz⟩:=I.list hq;have hlen:=r'.length;obtain ⟨o,ho,hc,n,hd⟩:=pl.isList;refine gG ?_;clear gG;exact call_list_seq p (.inl rfl) ho hc hd (fun h' c' kp e=>fin its r' hz h' c' kp e) (by simp only [cy1] <;> omega)
 ·refine za0 fun gG=>?_;obtain ⟨its,r',pl,hz⟩:=I.tuple hq;have hlen:=r'.length;obtain ⟨o,ho,hc,n,hd⟩:=pl;refine gG ?_;clear gG;exact call_list_seq p (.inr rfl) ho hc hd (fun h' c' kp e=>fin its r' hz h' c' kp e) (by simp only [cy1] <;> omega)
theorem zA8 : zj8 X (.type "tuple") (fun xs H Q=>∃ p ys,xs = [.ref p] /\ ((SqL X.K H p ys /\ ∀ l,H l = none->Q (.ref l) (upd H l (.tup ys))) \/ (SqT X.K H p ys /\ Q (.ref p) H))):=by
 intro pins s σ H xs us Q I r h;refine za0 fun gG=>?_;obtain ⟨p,ys,rfl,h⟩:=h;obtain ⟨u,rfl,rx⟩:=vals1 r;refine gG ?_;clear gG;cases rx;rcases h with ⟨hq,q⟩ | ⟨hq,q⟩
 ·refine za0 fun gG=>?_;obtain ⟨its,r',pl,hz⟩:=I.list hq;refine gG ?_;clear gG;have hlen:=r'.length;refine call_tuple_list pl.isList (fun h' kp=>?_) (by simp only [cy1] <;> omega);have I1 : Inv X pins σ H { s with heap:=h' }:=I.kept (t':=s.toks) kp
  have I2 : Inv X pins σ (upd H h'.objs.size (.tup ys)) { s with heap:=h'.push { cls:=.type "tuple",data:=.seq its.toArray } } :=
   I1.laid (t':=s.toks) (fun b o e=>ay2 _ e) (ay6 _) (show zc1 X.prog X.w _ _ _ (.tup ys) from ⟨hz,its,r',IsTup.new _ _⟩)
  exact ⟨.ref h'.objs.size,_,I2,rfl,q _ (I1.hok.fresh (ay6 _))⟩
 ·refine za0 fun gG=>?_;obtain ⟨its,r',pl,hz⟩:=I.tuple hq;refine gG ?_;clear gG;exact call_tuple_same pl ⟨.ref p,H,I,rfl,q⟩
def tyV (K : ay5) (T : String) (x : V) (H : Hp) : Prop:=match x with
 | .str _=>T = "str"
 | .int _=>T = "int"
 | .ref p=>(T = "list" /\ ∃ xs,SqL K H p xs) \/ (T = "tuple" /\ ∃ o,K.lookup p = some o /\ o.cls = .type "tuple" /\ o.dict = none) \/
   (T = "dict" /\ ((∃ kvs,H p = some (.dK kvs)) \/ ∃ kvs,H p = some (.dT kvs))) \/ (T = "set" /\ ∃ S n,H p = some (.set S n))
 | _=>False
theorem zd66 {pins : List (Addr × Obj)} {σ : St} {H : Hp} {s : Shared} {T : String} {x : V} {v : Value} (I : Inv X pins σ H s) (r : RelV x v) (ty : tyV X.K T x H) :
  s.TypeIs v T /\ ∀ a,v = .ref a->∃ ob,s.heap.get? a = some ob /\ ob.dict = none:=by
 cases x with
 | str z =>
  refine za0 fun gG=>?_;obtain ⟨t,rfl⟩:=r;refine gG ?_;clear gG;cases (show T = "str" from ty);exact ⟨typeIs_str s z t,fun _ e=>nomatch e⟩
 | int i =>
  refine za0 fun gG=>?_;obtain ⟨t,rfl⟩:=r;refine gG ?_;clear gG;cases (show T = "int" from ty);exact ⟨typeIs_int s i t,fun _ e=>nomatch e⟩
 | ref p =>
  cases r;rcases ty with ⟨rfl,xs,hq⟩ | ⟨rfl,o,hk,hc,hd⟩ | ⟨rfl,hk⟩ | ⟨rfl,S,n,hk⟩
  ·refine za0 fun gG=>?_;obtain ⟨its,_,pl,_⟩:=I.list hq;refine gG ?_;clear gG;refine ⟨pl.isList.typeIs,fun a e=>?_⟩;cases e;refine za0 fun gG=>?_;obtain ⟨o,n,e,c,hd,_⟩:=pl;refine gG ?_;clear gG;exact ⟨o,e,hd⟩
  ·refine ⟨⟨o,I.kIn p o hk,hc⟩,fun a e=>?_⟩;cases e;exact ⟨o,I.kIn _ o hk,hd⟩
  ·have z : ∃ o,s.heap.get? p = some o /\ o.ExactDict:=by
    rcases hk with ⟨kvs,hk⟩ | ⟨kvs,hk⟩
    ·refine za0 fun gG=>?_;obtain ⟨_,_,_,_,o,_,_,e,ex,_⟩:=I.hok p _ hk;refine gG ?_;clear gG;exact ⟨o,e,ex⟩
    ·refine za0 fun gG=>?_;obtain ⟨_,_,_,_,o,_,_,e,ex,_⟩:=I.hok p _ hk;refine gG ?_;clear gG;exact ⟨o,e,ex⟩
   refine za0 fun gG=>?_;obtain ⟨o,e,ex⟩:=z;refine gG ?_;clear gG;refine ⟨⟨o,e,ex.1⟩,fun a e2=>?_⟩;cases e2;exact ⟨o,e,ex.2.1⟩
  ·refine za0 fun gG=>?_;obtain ⟨o,_,_,_,e,ex,_⟩:=I.hok p _ hk;refine gG ?_;clear gG;refine ⟨⟨o,e,ex.1⟩,fun a e2=>?_⟩;cases e2;exact ⟨o,e,ex.2.1⟩
 | _=>exact vy0 ty
def tBM (K : ay5) (T : String) (r : V->List V->Hp->VK->Prop) (to : TE) (t : TA) : TE:=fun σ H Q=>to σ H fun x H1=>tyV K T x H1 /\ t σ H1 fun xs H2=>r x xs H2 Q
variable {o e : Expr} {es : List Expr} {to : TE} {t : TA} {name : Str} {apos cpos : Pos} {T id : String} {r : V->List V->Hp->VK->Prop}
theorem ze81 (pa : PlainAttrs T) (slot : Slot T name id) (hty : typeOf (.builtin id) = pure (.type "method_descriptor")) (hm : MtR X id r) (ho : PE X o to) (ha : PA X (e :: es) t)
  (hbase : oy4 o name X.env (eval o X.env) = eval o X.env:=by rfl)
  (hfew : ((backTo cpos (fy4 (e :: es) X.env)).all (fun x=>!x.1) && (backToKw cpos (keywordEach [] X.env)).all (fun x=>x.1.isSome)
   && decide ((e :: es).length + ([] : List Keyword).length + (if ([] : List Keyword).isEmpty then 0 else 1) < 30)) = true:=by rfl)
  (hline : (apos.endLine == cpos.line) = true:=by rfl) (hs : fy4 (e :: es) X.env = (false,eval e X.env) :: fy4 es X.env:=by rfl) (hplain : (backTo cpos (fy4 es X.env)).any (·.1) = false:=by rfl) :
  PE X (.Call (.Attribute o name apos) (e :: es) [] cpos) (tBM X.K T r to t):=by
 intro pins s σ H Q I h;refine wpAny_Call_method_late hbase hfew hline rfl (thn (ho pins s σ H _ I h) fun v s1 ⟨x,H1,I1,r1,ty,q1⟩=>?_);obtain ⟨h1,h2⟩:=zd66 I1 r1 ty;refine ⟨T,id,pa,slot,hty,h1,h2,?_⟩;have hA:=ha cpos pins s1 σ H1 _ I1 q1;rw [hs] at hA ⊢;refine ty3 (by show (false || (backTo cpos (fy4 es X.env)).any (·.1)) = false; rw [hplain] <;> rfl) (Calls.evalArgs_plain ?_);exact thn hA fun us s2 zR=>by obtain ⟨vs,H2,I2,r2,q2⟩:=zR; exact hm pins s2 σ H2 x vs v us Q I2 r1 r2 q2
end
def MtM (X : Cx) (id : String) (r : V->List V->Hp->VK->Prop) : Prop :=
 ∀ (pins : List (Addr × Obj)) (s : Shared) (σ : St) (H : Hp) (x : V) (xs : List V) (v : Value) (us : List Value) (Q : VK),Inv X pins σ H s->RelV x v->Vals xs us->r x xs H Q ->
  wpAny (model X.prog X.w) X.A (call (.builtin id) (v :: us)) (EP X pins σ Q) X.xe s
theorem Vals.one {x : V} {us : List Value} (h : Vals [x] us) : ∃ u,us = [u] /\ RelV x u:=by
 cases h with
 | cons r t=>cases t; exact ⟨_,rfl,r⟩
theorem Vals.two {x y : V} {us : List Value} (h : Vals [x,y] us) : ∃ u v,us = [u,v] /\ RelV x u /\ RelV y v:=by
 cases h with
 | cons r t=>cases t with
  | cons q t=>cases t; exact ⟨_,_,rfl,r,q⟩
theorem Vals.eraseIdx : ∀ {xs : List V} {us : List Value} (i : Nat),Vals xs us->Vals (xs.eraseIdx i) (us.eraseIdx i)
 | _,_,_,.nil=>.nil
 | _,_,0,.cons _ t=>t
 | _,_,i + 1,.cons r t=>.cons r (Vals.eraseIdx i t)
theorem zG0 {α : Type} : ∀ (l : List α) (i : Nat),(l.eraseIdx i).length <= l.length
 | [],_=>ay6 _
 | _ :: _,0=>uy2 _
 | _ :: r,i + 1=>Nat.succ_le_succ (zG0 r i)
section
variable {X : Cx} {pins : List (Addr × Obj)} {σ : St} {H : Hp} {s : Shared} {l b : Addr} {xs ys zs : List V}
theorem Inv.lset {its its' : List Value} {n : Nat} {f : Array Value->Array Value} {t' : Nat} (I : Inv X pins σ H s) (hH : H l = some (.lst xs))
  (e : s.heap.get? l = some { cls:=.type "list",data:=.seq its.toArray n }) (hf : f its.toArray = its'.toArray) (hv : Vals ys its') (hz : ys.length <= by3) :
  Inv X pins σ (upd H l (.lst ys)) { s with heap:=s.heap.update l (hy9 f),toks:=t' }:=by
 have q:=PySem.IsL.update e f;rw [hf] at q;refine I.write (x:=l) (e:=l) (by rw [hH]; exact trivial) (.inl rfl) (fun b' u hb hu=>(dy5 s.heap (hy9 f) (fy2 hb)).trans hu) ⟨_,q⟩ ?_;exact ⟨hz,its',_,hv,q⟩
theorem Inv.lnew {its : List Value} {t' : Nat} (I : Inv X pins σ H s) (hv : Vals ys its) (hz : ys.length <= by3) :
  Inv X pins σ (upd H s.heap.objs.size (.lst ys)) { s with heap:=s.heap.push { cls:=.type "list",data:=.seq its.toArray },toks:=t' } :=
 I.laid (fun _ _ q=>ay2 _ q) (ay6 _) ⟨hz,its,0,hv,ay7 _ rfl⟩
theorem Inv.fresh (I : Inv X pins σ H s) : H s.heap.objs.size = none:=I.hok.fresh (ay6 _)
theorem Inv.lstM (I : Inv X pins σ H s) (hH : H l = some (.lst xs)) : xs.length <= by3 /\ ∃ (its : List Value) (n : Nat),Vals xs its /\ xs.length = its.length /\ s.heap.get? l = some { cls:=.type "list",data:=.seq its.toArray n }:=by
 refine za0 fun gG=>?_;obtain ⟨z,its,n,r,e⟩:=I.hok l _ hH;refine gG ?_;clear gG;exact ⟨z,its,n,r,r.length,e⟩
end
section
variable {X : Cx}
def zc54 : V->List V->Hp->VK->Prop:=fun x vs H Q=>∃ l xs y,x = .ref l /\ vs = [y] /\ H l = some (.lst xs) /\ xs.length < by3 /\ Q .non (upd H l (.lst (xs++[y])))
theorem za04 : MtM X "list.append" zc54:=by
 intro pins s σ H x vs v us Q I rx rv h;refine za0 fun gG=>?_;obtain ⟨l,xs,y,rfl,rfl,hH,hz,q⟩:=h;refine gG ?_;clear gG;cases rx;refine za0 fun gG=>?_;obtain ⟨u,rfl,ru⟩:=rv.one;obtain ⟨z,its,n,r,hl,e⟩:=I.lstM hH;refine gG ?_;clear gG;refine call_meets F.slot_list_append ⟨_,e,rfl⟩ F.entry_list_append (F.args_list_append_2 _ _) (PySem.list_append l its.toArray n u (by rw [cy1]; omega)) ⟨e,?_⟩;refine ⟨.non,_,I.lset (its':=its++[u]) hH e (by simp) (r.append (.cons ru .nil)) ?_,rfl,q⟩;rw [cy5,ny5];omega
def zd67 : V->List V->Hp->VK->Prop:=fun x vs H Q=>∃ l xs i k y,x = .ref l /\ vs = [.int i] /\ H l = some (.lst xs) /\ -(2 ^ 63) <= i /\ i < 2 ^ 63 /\ seqIndex? i xs.length = some k /\ xs[k]? = some y /\ Q y (upd H l (.lst (xs.eraseIdx k)))
theorem zb23 : MtM X "list.pop" zd67:=by
 intro pins s σ H x vs v us Q I rx rv h;refine za0 fun gG=>?_;obtain ⟨l,xs,i,k,y,rfl,rfl,hH,h1,h2,hk,hy,q⟩:=h;refine gG ?_;clear gG;cases rx;refine za0 fun gG=>?_;obtain ⟨u,rfl,ru⟩:=rv.one;obtain ⟨t,rfl⟩:=ru;obtain ⟨z,its,n,r,hl,e⟩:=I.lstM hH;obtain ⟨w,hw,rw'⟩:=r.get hy;refine gG ?_;clear gG
 refine call_meets F.slot_list_pop ⟨_,e,rfl⟩ F.entry_list_pop (F.args_list_pop_2 _ _)
  (MeetsSeq.list_pop_at l its.toArray n i t k w (fitsIndex_both h1 h2) (by rw [cy1,<- hl]; exact hk) (by rw [<- ly0]; exact hw) (by rw [cy1]; omega)) ⟨e,?_⟩
 refine ⟨y,_,I.lset (its':=its.eraseIdx k) hH e ?_ (r.eraseIdx k) ?_,rw',q⟩
 ·show its.toArray.eraseIdxIfInBounds k = (its.eraseIdx k).toArray;rw [List.eraseIdxIfInBounds_toArray]
 ·have:=zG0 xs k;omega
end
section
variable {prog : cy7} {w : World} {A : Around} {E : Value->Shared->Prop} {s : Shared}
end
section
variable {X : Cx}
end
end L2
namespace Att
open PySem PySem.W PySem.Calls PyProof.Rows
theorem zv1 {P : Params} {h : Heap} : ∀ (ns : List Int) (vs : List Value),WellAll P h vs (ns.map WData.int)->IntsAre vs ns:=by
 intro ns
 induction ns with
 | nil =>
  intro vs w;rw [List.map_nil] at w;cases w;exact .nil
 | cons n ns ih =>
  intro vs w;rw [ey9] at w;cases w with
  | cons a b =>
   cases a;exact .cons _ _ (ih _ b)
theorem za05 {l : OpenLaw} {n : Nat} (hn : l.most = some n) {P : Params} {h : Heap} {args : List WData} {vals : List Value}
  (hpre : l.row.toRowW.claim.pre args = true) (hwl : WellAll P h vals args) :
  ∃ a vs ns,vals = [cy9 a] /\ args = [WData.list (ns.map WData.int)] /\ h.get? a = some { cls:=.type "list",data:=.seq vs.toArray } /\ IntsAre vs ns /\ ns.length <= n:=by
 have hsh : WShape.hasAll [] args [.list .int] = true:=(pre_splitW hpre).1;have hc : l.pre.holds [] { args:=args } = true:=(pre_splitW hpre).2;refine za0 fun gG=>?_;obtain ⟨d,r,rfl,h1,h2⟩:=hasAllW_cons hsh;refine gG ?_;clear gG;obtain rfl:=hasAllW_nil h2;refine za0 fun gG=>?_;obtain ⟨xs,rfl,h3⟩:=hasW_list h1;obtain ⟨ns,rfl⟩:=items_int h3;refine gG ?_;clear gG
 have hlen : ns.length <= n:=by
  unfold OpenLaw.pre at hc
  have h4 : (WTm.not (.lt (.lit (.int (n : Int))) (.len (.arg 0)))).holds [] { args:=[.list (ns.map .int)] } = true:=by
   have h4:=(holds_andW hc).1;rw [hn] at h4;exact h4
  have h5:=condW_of h4 (w_not (w_lt w_lit (w_len_list (w_arg rfl))));rw [ay3] at h5;refine Nat.le_of_not_lt fun q=>?_;have q' : (n : Int) < ((ns.length : Nat) : Int):=by omega
  first
   | (rw [decide_eq_true q'] at h5; exact absurd h5 (by decide))
   | (simp at h5; omega)
 cases hwl with
 | cons w1 w2 =>
  cases w2;cases w1 with
  | list ho hall=>exact ⟨_,_,ns,rfl,rfl,ho,zv1 ns _ hall,hlen⟩
theorem za06 (l : OpenLaw) (args : List WData) : l.row.toRowW.claim.post args (.bool true) args = true :=
 postW_of (r:=l.row.toRowW) (X:=(true == true))
  (show WShape.has [] (.bool true) .bool = true by first | rfl | decide | simp [WShape.has,WShape.arms,WShape.armsAll])
  (show (WTm.eq .res (.lit (.bool true))).value [] { args:=args,res:=some (.bool true),after:=args } = some (.bool (true == true)) from w_eq_bool (w_res rfl) w_lit) rfl
section
variable {prog : cy7} {w : World} {A : Around} {E : Value->Shared->Prop} {s : Shared} {K : Frag}
end
end Att
namespace L2
open PySem PySem.Spec PyProof.Rows
theorem za07 {vs : List Value} {ns : List Int} (h : IntsAre vs ns) : Vals (ns.map V.int) vs:=by
 induction h with
 | nil=>exact .nil
 | cons n t h ih=>exact .cons ⟨t,rfl⟩ ih
def Only (H : Hp) : Prop:=∀ b,H b = none \/ ∃ o xs,H b = some (.frz o (.lst xs))
theorem zb24 {P : cy7} {w : World} {K : ay5} {mg mb : Str->Option Value} {CX : CXT} {k : Nat} {fa a : Addr} {fd : ey7} {x : Str} {sp : Sp} {s₁ : Shared} {vs : List Value} {ns : List Int}
  (KX : K.In s₁.heap) (hns : s₁.heap.Ns cy0 mg) (hb : s₁.heap.Ns builtinsNs mb) (hbb : ∀ x : Str,x ≠ "__name__" -> mb x = fy0 x) (hlim : s₁.heap.NoLimit) (hg : s₁.gens = #[])
  (ha : s₁.heap.get? a = some { cls:=.type "list",data:=.seq vs.toArray }) (hi : IntsAre vs ns) (hl : ns.length <= by3) (hr : zA3 k callerA)
  (F : ∀ base : Heap,K.In base->base.Ns cy0 mg->zj0 P w K mg base CX k fa fd [x] sp) (hbind : ∀ (s : Shared) (u : Value),BindsTo s fd ⟨[u],[]⟩ [(x,u)])
  (hsp : ∀ H : Hp,Only H->SqL K H a (ns.map V.int)->sp [.ref a] H (fun v _=>v = .bl true) fun _ _ _=>False)
  (hCX : ∀ H e s',CX [] H s₁ (fun _ _ _=>False) e s'->False) :
  ly4 (model P w) callerA (.call (.ref fa) ⟨[.ref a],[]⟩) (fun r s'=>r = .ok (.ret (.bool true)) /\ OldK s₁.heap s'.heap /\ s'.os = s₁.os /\ AllBare s'.gens) s₁:=by
 have rv:=za07 hi;have lenV:=hi.length
 have core : ∀ H : Hp,Only H->SqL K H a (ns.map V.int)->HOk P w H s₁.heap->(∀ b,H b ≠ none->b = a)->(H a ≠ none->K.lookup a = none) ->
   ly4 (model P w) callerA (.call (.ref fa) ⟨[.ref a],[]⟩) (fun r s'=>r = .ok (.ret (.bool true)) /\ OldK s₁.heap s'.heap /\ s'.os = s₁.os /\ AllBare s'.gens) s₁:=by
  intro H hO hS hok hA hK;have base_of : ∀ {b : Addr} {o : Obj},s₁.heap.get? b = some o->H b = none->(hidT s₁.heap H).get? b = some o:=fun e n=>zb12 e n
  have noA : ∀ {b : Addr} {o : Obj} {es : Array my6} {ep : Nat},s₁.heap.get? b = some o->o.data = .dict es ep->H b = none:=fun {b o es ep} e d=>by
   cases q : H b with
   | none=>rfl
   | some u =>
    have e' : b = a:=hA b (by rw [q]; simp);subst e';rw [ha] at e; cases e;have d' : Data.seq vs.toArray _ = Data.dict es ep:=d;cases d'
  have nsK : ∀ {b : Addr} {m : Str->Option Value},s₁.heap.Ns b m->(hidT s₁.heap H).Ns b m:=fun {b m} ⟨o,es,ep,e,d,r⟩=>⟨o,es,ep,base_of e (noA e d),d,r⟩
  have hKb : K.In (hidT s₁.heap H):=fun b o e=>base_of (KX b o e) (by
   cases q : H b with
   | none=>rfl
   | some u =>
    have e' : b = a:=hA b (by rw [q]; simp);subst e'
    rw [hK (by rw [q]; simp)] at e; cases e)
  have hM : Mod K mg (hidT s₁.heap H):=⟨hKb,nsK hns,⟨mb,nsK hb,hbb⟩,let ⟨mc,h1,h2⟩:=hlim; ⟨mc,nsK h1,h2⟩⟩
  have e0 : Env0 P w K mg (hidT s₁.heap H) callerA [] s₁ H:=⟨rfl,hM,fun b o e=>zc35 e,Nat.le_of_eq (zY0 _ _),trivial,fun b hb=>absurd (show b∈([] : List Addr) from hb) (by simp),hok,.of_eq hg⟩
  refine ty9 ((F _ hKb (nsK hns)).run callerA [] s₁ H ⟨[.ref a],[]⟩ [.ref a] [.ref a] _ _ hr e0 (hbind s₁ (.ref a)) (.cons rfl .nil) (hsp H hO hS)) fun r s' h=>?_;cases r with
  | error e=>exact (hCX H e s' h).elim
  | ok fl =>
   cases fl with
   | next=>exact vy0 h
   | brk=>exact vy0 h
   | cont=>exact vy0 h
   | ret u =>
    refine za0 fun gG=>?_;obtain ⟨v,H',os,bare,un,hok',r',q⟩:=h;refine gG ?_;clear gG;have q' : v = .bl true:=q;subst q';obtain rfl : u = Value.bool true:=r';refine ⟨rfl,OldK.of_keep fun b o e=>?_,os,bare⟩;cases q : H b with
    | none=>exact un.keep b o e q (by intro z; exact absurd (show b∈([] : List Addr) from z) (by simp)) (by simp)
    | some u =>
     rcases hO b with z | ⟨ob,xs,z⟩
     ·rw [q] at z; cases z
     ·have z2:=un.frzs b ob _ z;refine za0 fun gG=>?_;obtain ⟨e1,_⟩:=hok b _ z;obtain ⟨e2,_⟩:=hok' b _ z2;refine gG ?_;clear gG;rw [e] at e1; cases e1;exact e2
 cases hk : K.lookup a with
 | some o =>
  have e:=KX a o hk;rw [ha] at e;cases e;refine core (fun _=>none) (fun _=>.inl rfl) (.inr ⟨_,vs.toArray,_,hk,rfl,rfl,rfl,by rw [cy1,lenV]; exact hl,by simpa using rv⟩) (fun b u z=>by have z' : (none : Option HO) = some u:=z; cases z') (fun b z=>absurd rfl z) fun z=>absurd rfl z
 | none =>
  refine core (fun b=>if b = a then some (.frz { cls:=.type "list",data:=.seq vs.toArray } (.lst (ns.map V.int))) else none) (fun b=>?_) (.inl (.inr ⟨{ cls:=.type "list",data:=.seq vs.toArray },if_pos rfl⟩)) (fun b u z=>?_) (fun b z=>?_) fun _=>hk
  ·by_cases hb : b = a
   ·exact .inr ⟨_,_,if_pos hb⟩
   ·exact .inl (if_neg hb)
  ·by_cases hb : b = a
   ·have z':=(if_pos hb).symm.trans z;cases z';subst hb;exact ⟨ha,by rw [ay3]; exact hl,vs,_,rv,ha⟩
   ·have z':=(if_neg hb).symm.trans z;cases z'
  ·by_cases hb : b = a
   ·exact hb
   ·exact absurd (if_neg hb) z
def zb7 (s : Stmt) : Arguments:=match s with
 | .FunctionDef _ a _ _ _ _ _ _ _ _=>a
 | _=>{ posonlyargs:=[],args:=[],vararg:=none,kwonlyargs:=[],kw_defaults:=[],kwarg:=none,defaults:=[] }
def za9 (s : Stmt) : List Stmt:=match s with
 | .FunctionDef _ _ b _ _ _ _ _ _ _=>b
 | _=>[]
def za1 (s : Stmt) : Scope:=match s with
 | .FunctionDef _ _ _ _ _ _ sc _ _ _=>sc
 | _=>{ kind:=.function,names:=[],isGenerator:=false,isCoroutine:=false }
abbrev CX0 : CXT:=fun _ _ _ _ _ _=>False
abbrev E0 : XK:=fun _ _ _=>False
theorem ze83 {X : Cx} : Passes CX0 X E0:=fun _ _ _ _ _ _ _ h=>h.elim
structure Fun (K : ay5) (x qual : Str) (st : Stmt) (f : Addr) (fd : ey7) : Prop where
 ex : ∃ (oc : Value) (od : Option Addr) (kV doc pm : Value) (an : Option Addr) (cdv ct : Value) (osl : Array (Option Value)),
  fd = dy7 x qual (zb7 st) (za9 st) (za1 st) .none kV doc pm an cdv ct /\ K.lookup f = some ⟨oc,od,.func fd,osl⟩ /\ dy2 K cdv qual = true
 kp : dy0 K (.ref f) = true
section
variable {P : cy7} {w : World} {K : ay5} {mg : Str->Option Value} {base : Heap}
theorem Fun.ok {x qual : Str} {st : Stmt} {f : Addr} {fd : ey7} {N ps : List Str} {k : Nat} {sp : Sp} (F : Fun K x qual st f fd) (S : zb8 N ps (za1 st)) (len : ∀ vs H Q E,sp vs H Q E->vs.length = ps.length)
  (hbody : ∀ (cdv : Value) (A : Around) (outer : List Env) (s : Shared) (H : Hp) (vs : List V) (Q : VK) (E : XK),zA3 k (A.deeper (envOfC qual (za1 st) s.heap.objs.size f cdv))->sp vs H Q E ->
   ∃ t,PSs (cxOf CX0 P w K mg base N qual (za1 st) f cdv A outer s H E).nox (za9 st) t /\ t { nx:=fun _ H'=>Q .non H',rt:=Q } (start N vs) H) : zj0 P w K mg base CX0 (k + 1) f fd ps sp:=by
 refine za0 fun gG=>?_;obtain ⟨oc,od,kV,doc,pm,an,cdv,ct,osl,rfl,lk,hcd⟩:=F.ex;refine gG ?_;clear gG;refine ze76 lk hcd S len fun A outer s H vs Q E hr hsp=>?_;refine za0 fun gG=>?_;obtain ⟨t,h,q⟩:=hbody cdv A outer s H vs Q E hr hsp;refine gG ?_;clear gG;exact ⟨t,h.nox,q⟩
theorem Fun.binds {x qual : Str} {st : Stmt} {f : Addr} {fd : ey7} {ps : List Str} (F : Fun K x qual st f fd)
  (h : ∀ (kV doc pm : Value) (an : Option Addr) (cdv ct : Value) (us : List Value),us.length = ps.length->bindArgs (dy7 x qual (zb7 st) (za9 st) (za1 st) .none kV doc pm an cdv ct) ⟨us,[]⟩ = pure (ps.zip us)) : Binds K fd ps []:=by
 refine za0 fun gG=>?_;obtain ⟨oc,od,kV,doc,pm,an,cdv,ct,osl,rfl,lk,hcd⟩:=F.ex;refine gG ?_;clear gG;exact .all (h kV doc pm an cdv ct)
theorem zd1 {x qual : Str} {st : Stmt} {f : Addr} {oc : Value} {od an : Option Addr} {osl : Array (Option Value)} {kV doc pm cdv ct : Value} (l : K.lookup f = some ⟨oc,od,.func (dy7 x qual (zb7 st) (za9 st) (za1 st) .none kV doc pm an cdv ct),osl⟩)
  (c : dy2 K cdv qual = true) (k : dy0 K (.ref f) = true) : Fun K x qual st f (dy7 x qual (zb7 st) (za9 st) (za1 st) .none kV doc pm an cdv ct):=⟨⟨oc,od,kV,doc,pm,an,cdv,ct,osl,rfl,l,c⟩,k⟩
end
section
variable {X : Cx}
end
theorem zl6 {A B : Prop} (h : B) : if false = true then A else B:=by
 rw [if_neg by9];exact h
theorem zl9 {A B : Prop} (h : A) : if true = true then A else B:=by
 rw [if_pos rfl];exact h
def zn2 (H H' : Hp) : Prop:=∀ b o,H b = some o->H' b = some o
theorem zn2.refl (H : Hp) : zn2 H H:=fun _ _ h=>h
theorem zn2.trans {H H1 H2 : Hp} (a : zn2 H H1) (b : zn2 H1 H2) : zn2 H H2:=fun c o h=>b c o (a c o h)
theorem zn2.free {H H' : Hp} (e : zn2 H H') {l : Addr} (h : H' l = Option.none) : H l = Option.none:=by
 cases q : H l with
 | none=>rfl
 | some o =>
  rw [e l o q] at h;cases h
theorem zn2.seq {K : ay5} {H H' : Hp} {a : Addr} {xs : List V} (e : zn2 H H') (h : SqL K H a xs) : SqL K H' a xs:=by
 rcases h with (h | ⟨o,h⟩) | h
 ·exact .inl (.inl (e _ _ h))
 ·exact .inl (.inr ⟨o,e _ _ h⟩)
 ·exact .inr h
section
variable {prog : cy7} {w : World} {A : Around} {R : Result->Shared->Prop} {s : Shared}
theorem zG1 {elt target iter : Expr} {ifs : List Expr} {scope : Scope} {pos : Pos} {it acc : Value} {env : Env} (J : Nat->Shared->Prop)
  (turn : ∀ n s,J n s->wpAny (model prog w) A (pyNext it) (fun r s1=>match r with
   | none=>R (.ok .next) s1
   | some v=>wpAny (model prog w) A (oy9 target it v) (fun _ s1'=>wpAny (model prog w) A (assign target env v) (fun _ s2 =>
     wpAny (model prog w) A (forIn ifs true fun c r=>if r = true then do let ok <- isTrue c env (eval c env); pure (uy3 ok) else pure (uy3 r)) (fun ok s3 =>
      if ok = true then wpAny (model prog w) A (eval elt env) (fun x s4 =>
       wpAny (model prog w) A (call (.builtin "list.append") [acc,x]) (fun _ s5=>∃ m,m < n /\ J m s5) (fun _ _=>False) s4) (fun _ _=>False) s3
      else ∃ m,m < n /\ J m s3) (fun _ _=>False) s2) (fun _ _=>False) s1') (fun _ _=>False) s1) (fun _ _=>False) s)
  (n : Nat) (h : J n s) : ly4 (model prog w) A (.compLoop (.ListComp elt [⟨target,iter,ifs,0⟩] scope pos) 0 it acc env) R s:=by
 refine codeAny_loop rfl J (fun n s hI=>?_) n h;show wpAny _ A ((compTurn (.ListComp elt [⟨target,iter,ifs,0⟩] scope pos) 0 it acc env).onRaise (fun x=>do noteFrame x env; theTreesLotGoes x)) _ _ s;refine wpAny_noted ?_;rw [compTurn_list];refine ay0 (ly3 (ay0 (fy6 (turn n s hI) (fun r s1 h1=>?_) fun _ _ h'=>h'.elim)));cases r with
 | none=>exact ay1 h1
 | some v =>
  refine ay0 (fy6 h1 (fun _ s1' h1'=>?_) fun _ _ h'=>h'.elim);refine ay0 (fy6 h1' (fun _ s2 h2=>ay0 (fy6 h2 (fun ok s3 h3=>?_) fun _ _ h'=>h'.elim)) fun _ _ h'=>h'.elim);cases ok with
  | false=>exact ay1 ⟨rfl,h3⟩
  | true =>
   exact ay0 (ay0 (fy6 h3 (fun x s4 h4=>ay0 (fy6 h4 (fun _ s5 h5=>ay1 (ay1 ⟨rfl,h5⟩)) fun _ _ h'=>h'.elim)) fun _ _ h'=>h'.elim))
end
def zt6 (cells : List (Str × Addr)) : List (Str × wy9)->List (Str × Addr)->List (Str × Addr)
 | [],acc=>acc
 | (n,k) :: r,acc=>if k == .free then zt6 cells r ((n,(cells.lookup n).getD 0) :: acc) else zt6 cells r acc
theorem zq6 {scope : Scope} {env : Env} (h : ∀ y∈scope.names,y.2 = .free->∃ c,env.cells.lookup y.1 = some c) : closureFor scope env = pure (zt6 env.cells scope.names []):=by
 have all : ∀ (l : List (Str × wy9)) (acc : List (Str × Addr)),(∀ y∈l,y.2 = .free->∃ c,env.cells.lookup y.1 = some c) ->
   (forIn l acc (fun (x : Str × wy9) (r : List (Str × Addr))=>match x with | (name,kind)=>(if (kind == .free) = true then (do let c <- cellOf env name; pure (uy3 ((name,c) :: r))) else pure (uy3 r) : Sem _))) = (pure (zt6 env.cells l acc) : Sem _):=by
  intro l
  induction l with
  | nil=>intro acc _; rfl
  | cons y l ih =>
   intro acc hl;obtain ⟨n,k⟩:=y;rw [List.forIn_cons];unfold zt6
   by_cases hk : (k == oy5) = true
   ·obtain ⟨c,hc⟩:=hl (n,k) ay9 (by simpa using hk);have hc' : cellOf env n = pure c:=by unfold cellOf; rw [show env.cells.lookup n = some c from hc]
    have hc2 : env.cells.lookup n = some c:=hc;simp only [hk,if_true,hc',hc2,pure_bind,Option.getD_some];exact ih _ fun y hy=>hl y (by0 _ hy)
   ·simp only [hk,if_false,pure_bind];exact ih _ fun y hy=>hl y (by0 _ hy)
 unfold closureFor;have:=all scope.names [] h
 first
  | (rw [this]; rfl)
  | (simp only [bind_pure]; exact this)
theorem zA9 {cells : List (Str × Addr)} : ∀ {l : List (Str × wy9)} {acc : List (Str × Addr)},(∀ y∈l,y.2 = .free->∃ c,cells.lookup y.1 = some c)->(∀ x c,acc.lookup x = some c->cells.lookup x = some c)->∀ x c,(zt6 cells l acc).lookup x = some c->cells.lookup x = some c
 | [],_,_,ha,x,c,e=>ha x c e
 | (n,k) :: r,acc,hl,ha,x,c,e=>by
  unfold zt6 at e
  split at e
  ·refine zA9 (fun y hy=>hl y (by0 _ hy)) (fun z d q=>?_) x c e;rw [oy1] at q
   split at q
   ·rename_i hk _ hz
    obtain ⟨d',hd⟩:=hl (n,k) ay9 (by simpa using hk);have hd : cells.lookup n = some d':=hd;rw [hd] at q;have hz' : z = n:=by simpa using hz
    rw [hz',hd];exact q
   ·exact ha z d q
  ·exact zA9 (fun y hy=>hl y (by0 _ hy)) ha x c e
theorem zt7 {cells : List (Str × Addr)} : ∀ {l : List (Str × wy9)} {acc : List (Str × Addr)} {x : Str},((∃ c,acc.lookup x = some c) \/ (x,oy5)∈l)->∃ c,(zt6 cells l acc).lookup x = some c
 | [],_,_,h=>by
  rcases h with h | h
  ·exact h
  ·simp at h
 | (n,k) :: r,acc,x,h=>by
  unfold zt6
  split
  ·rename_i hk
   refine zt7 ?_;rcases h with ⟨c,h⟩ | h
   ·refine .inl ?_;rw [oy1]
    split
    ·exact ⟨_,rfl⟩
    ·exact ⟨c,h⟩
   ·rcases by7.mp h with e | h
    ·refine .inl ?_;cases e;rw [oy1];simp
    ·exact .inr h
  ·rename_i hk
   refine zt7 ?_;rcases h with h | h
   ·exact .inl h
   ·rcases by7.mp h with e | h
    ·cases e;exact absurd (by rfl) hk
    ·exact .inr h
theorem zm7 {scope : Scope} {env : Env} {x : Str} : ∀ {l : List (Str × wy9)} {k : wy9},(l.map fun (n,k)=>if (k == oy5 && env.scope.kind == .function && env.kindOf n == some .cell) then (n,NameKind.cell) else (n,k)).lookup x = some k ->
  l.lookup x = some k \/ (k = .cell /\ l.lookup x = some .free)
 | [],_,h=>by simp at h
 | (n,j) :: r,k,h=>by
  simp only [ey9] at h
  by_cases hx : x = n
  ·subst hx
   by_cases hc : (j == oy5 && env.scope.kind == .function && env.kindOf x == some .cell) = true
   ·rw [if_pos hc] at h;simp at h
    have hj : j = .free:=by
     simp only [sy5] at hc;simpa using hc.1.1
    exact .inr ⟨h.symm,by simp [hj]⟩
   ·rw [if_neg hc] at h;simp at h;exact .inl (by simp [h])
  ·have hb : (x == n) = false:=by simpa using hx
   by_cases hc : (j == oy5 && env.scope.kind == .function && env.kindOf n == some .cell) = true
   ·rw [if_pos hc] at h;simp only [oy1,hb] at h ⊢;exact zm7 (scope:=scope) h
   ·rw [if_neg hc] at h;simp only [oy1,hb] at h ⊢;exact zm7 (scope:=scope) h
theorem zs1 {env : Env} {x : Str} : ∀ {l : List (Str × wy9)},l.lookup x = some .free ->
  (l.map fun (n,k)=>if (k == oy5 && env.scope.kind == .function && env.kindOf n == some .cell) then (n,NameKind.cell) else (n,k)).lookup x = some .cell \/
  (l.map fun (n,k)=>if (k == oy5 && env.scope.kind == .function && env.kindOf n == some .cell) then (n,NameKind.cell) else (n,k)).lookup x = some .free
 | [],h=>by simp at h
 | (n,j) :: r,h=>by
  simp only [ey9]
  by_cases hx : x = n
  ·subst hx;simp at h;subst h
   by_cases hc : (oy5 == oy5 && env.scope.kind == .function && env.kindOf x == some .cell) = true
   ·rw [if_pos hc]; simp
   ·rw [if_neg hc]; simp
  ·have hb : (x == n) = false:=by simpa using hx
   simp only [oy1,hb] at h;have ih:=zs1 (env:=env) h
   by_cases hc : (j == oy5 && env.scope.kind == .function && env.kindOf n == some .cell) = true
   ·rw [if_pos hc]; simp only [oy1,hb]; exact ih
   ·rw [if_neg hc]; simp only [oy1,hb]; exact ih
structure zb3 (N : List Str) (sc : Scope) (O F : List Str) (cap : List Nat) (scope : Scope) : Prop where
 kind : scope.kind = .function
 nocell : ∀ y∈scope.names,y.2 ≠ .cell
 names : ∀ y∈scope.names,y.2 = .local->scope.names.lookup y.1 = some .local
 frees : ∀ y∈scope.names,y.2 = .free->sc.names.lookup y.1 = some .cell \/ sc.names.lookup y.1 = some .free
 caps : F.map some = cap.map (fun j=>N[j]?)
 capf : ∀ x∈F,scope.names.lookup x = some .free
def zc2 (X : Cx) (N : List Str) (scope : Scope) (cl : List (Str × Addr)) (C : Addr) (ex : List Addr) (s : Shared) (H : Hp) : Cx :=
 { X with N:=N,s₀:=s,H₀:=H,env:=compEnvC scope cl C X.env,outer:=X.stack,ex:=ex,fn:=fun _=>false,pn:=[],xe:=fun _ _=>False }
def zc3 (O : List Str) (cap : List Nat) (σ : St) : St:=O.map (fun _=>none)++cap.map (fun j=>(σ[j]?).getD none)
def PTs (X : Cx) (ifs : List Expr) (t : TT) : Prop :=
 ∀ (pins : List (Addr × Obj)) (s : Shared) (σ : St) (H : Hp) (Q : Bool->Hp->Prop),Inv X pins σ H s->t σ H Q ->
  wpAny (model X.prog X.w) X.A (forIn ifs true fun c r=>if r = true then do let ok <- isTrue c X.env (eval c X.env); pure (uy3 ok) else pure (uy3 r)) (TP X pins σ Q) X.xe s
def ze84 : TT:=fun _ H Q=>Q true H
theorem zc55 {X : Cx} : PTs X [] ze84:=fun _ _ _ H _ I h=>wpAny_tests_nil ⟨H,I,h⟩
theorem zc56 {X : Cx} {c : Expr} {t : TT} (h : PT X c t) : PTs X [c] t:=fun pins s σ H Q I q=>wpAny_tests_one (h pins s σ H Q I q)
def za08 (wi : TI) (O : List Str) (cap : List Nat) (g : TG) (tt : TT) (te : TE) : TE:=fun σ H Q=>wi σ H fun J H1=>∃ W : Nat->Nat->List V->Hp->Prop,(∃ m,W 0 m [] H1) /\ ∀ i m ys H,W i m ys H->ys.length <= by3 /\
  ((J.stop i H /\ ∀ l,H l = none->Q (.ref l) (upd H l (.lst ys))) \/
   (J.go i H /\ ∃ N : List V->Hp->Prop,(∀ ys' H',N ys' H'->∃ m',m' < m /\ W (i + 1) m' ys' H') /\ ∀ x H',J.yld i H x H'->g x (zc3 O cap σ) H' fun σ2 H2=>tt σ2 H2 fun b H3=>if b = true then te σ2 H3 fun y H4=>N (ys++[y]) H4 else N ys H3))
section
variable {X : Cx} {tg iter elt : Expr} {ifs : List Expr} {scope : Scope} {pos : Pos} {wi : TI} {g : TG} {tt : TT} {te : TE} {O F : List Str} {cap : List Nat}
theorem Inv.comp {pins : List (Addr × Obj)} {σ : St} {H : Hp} {s : Shared} {fp : List Addr} {h1 : Heap} {tk : Nat} (S : zb3 X.N X.env.scope O F cap scope) (I : Inv X pins σ H s)
  (hf : ∀ b∈fp,zr9 X pins H b) (ho : ∀ b∈fp,∃ o,s.heap.get? b = some o /\ ∀ v,o.data ≠ .cell v) (hs : s.heap.objs.size <= C) (D : Addr) (hD : s.heap.objs.size <= D) (hDC : D < C) {h0 : Heap} (h0s : h0.objs.size = C)
  (k0 : ∀ b o,s.heap.get? b = some o->h0.get? b = some o) (k1 : ∀ b o,h0.get? b = some o->h1.get? b = some o) (hn : h1.Ns C fun _=>none) :
  Inv (zc2 X (O++F) scope (zt6 X.env.cells scope.names []) C (D :: fp) { s with heap:=h0 } H) [] (zc3 O cap σ) H { s with heap:=h1,toks:=tk }:=by
 have hfr : ∀ y∈scope.names,y.2 = .free->∃ c,X.env.cells.lookup y.1 = some c:=fun y hy e=>I.ok.has y.1 (S.frees y hy e);have sub : ∀ x c,(zt6 X.env.cells scope.names []).lookup x = some c->X.env.cells.lookup x = some c:=zA9 hfr (fun x c e=>by simp at e)
 have clt : ∀ x c,X.env.cells.lookup x = some c->c < s.heap.objs.size:=fun x c e=>by
  obtain ⟨v,q⟩:=I.cell x c e;exact q.lt
 have flt : ∀ b∈fp,b < s.heap.objs.size:=fun b hb=>by
  refine za0 fun gG=>?_;obtain ⟨o,e,_⟩:=ho b hb;refine gG ?_;clear gG;exact by2 e
 have bsz : X.base.objs.size <= s.heap.objs.size:=ey1 I.ok.bsz I.sz;have blt : ∀ b o,X.base.get? b = some o->b < X.s₀.heap.objs.size:=fun b o e=>by2 (I.ok.bs b o e).1;have k : ∀ b o,s.heap.get? b = some o->h1.get? b = some o:=fun b o e=>k1 b o (k0 b o e)
 refine ⟨⟨I.ok.mod,S.kind,I.ok.glob,I.ok.blt,?_,fun x y c e1 e2=>I.ok.inj x y c (sub x c e1) (sub y c e2),fun x hx=>?_,fun x c e _=>?_,I.ok.hd,I.ok.frames,.inl rfl,fun b hb=>?_,fun b o e=>?_,?_,fun b o e hb=>?_,fun b hb=>?_,?_,I.zY2⟩,
  rfl,I.bare,Un.kept k1,⟨_,hn,fun i x v e1 e2 e3=>?_⟩,fun x c e=>?_,I.hok.fresh hs,fun x c e=>I.freeC x c (sub x c e),fun p hp=>?_,I.hok.kept k,?_⟩
 ·show h0.objs.size <= C;exact Nat.le_of_eq h0s
 ·have hx : (relabel scope X.env).names.lookup x = some .cell \/ (relabel scope X.env).names.lookup x = some .free:=hx
  have hx' : scope.names.lookup x = some .free:=by
   rcases hx with hx | hx
   ·rcases zm7 (scope:=scope) hx with e | ⟨_,e⟩
    ·exact absurd rfl (S.nocell _ (jy4 e))
    ·exact e
   ·rcases zm7 (scope:=scope) hx with e | ⟨e,_⟩
    ·exact e
    ·cases e
  exact zt7 (.inr (jy4 hx'))
 ·exact absurd (show false = true from e) by9
 ·rcases by7.mp hb with e | hb
  ·subst e;exact ⟨by8 hDC,fun x c e=>by8 (by6 (clt x c (sub x c e)) hD)⟩
  ·exact ⟨by8 (by6 (flt b hb) hs),fun x c e=>(hf b hb).2.2.2.2.1 x c (sub x c e)⟩
 ·exact ⟨k0 b o (I.bs b o e).1,(I.bs b o e).2⟩
 ·show X.base.objs.size <= h0.objs.size;rw [h0s];exact ey1 bsz hs
 ·rcases by7.mp hb with q | hb
  ·subst q;exact absurd (by6 (by2 (I.bk b o e)) hD) (ny1 _)
  ·rcases (hf b hb).2.2.2.1 with q | q
   ·exact I.ok.noex b o e q
   ·exact absurd (by6 (blt b o e) q) (ny1 _)
 ·intro hb2;have hb3 : b∈X.env.locals :: X.fs:=I.zY1 b hb2;rcases by7.mp hb with q | hb
  ·subst q;rcases by7.mp hb3 with q | q
   ·exact absurd I.lt (by rw [<- q]; exact Nat.not_lt.mpr hD)
   ·exact I.nofs hD q
  ·rcases by7.mp hb3 with q | q
   ·exact (hf b hb).2.1 q
   ·exact (hf b hb).2.2.1 q
 ·exact I.stack.of_keeps fun b o e _=>⟨o,k0 b o e,rfl⟩
 ·-- the captured names
  have e1 : (O++F)[i]? = some x:=e1;have e2 : (zc3 O cap σ)[i]? = some (some v):=e2;unfold zc3 at e2
  have hi : ¬ i < O.length:=fun hi=>by
   rw [ay8 (by simpa using hi)] at e2;rw [by1] at e2;cases q : O[i]? with
   | none=>rw [q] at e2; cases e2
   | some z=>rw [q] at e2; cases e2
  have hi' : O.length <= i:=Nat.not_lt.mp hi;rw [cy2 hi'] at e1;rw [cy2 (by simpa using hi'),ay3,by1] at e2;have hc:=congrArg (fun l=>l[i - O.length]?) S.caps;simp only [by1,e1,xy0] at hc;cases q : cap[i - O.length]? with
  | none=>rw [q] at e2; cases e2
  | some j =>
   rw [q] at e2 hc;simp only [xy0,Option.some.injEq] at e2 hc;have hj : X.N[j]? = some x:=hc.symm
   have hv : σ[j]? = some (some v):=by
    cases z : σ[j]? with
    | none=>rw [z] at e2; cases e2
    | some y=>rw [z] at e2; simp at e2; rw [e2]
   have hxf : scope.names.lookup x = some .free:=S.capf x (cy8 e1);have hxs:=S.frees _ (jy4 hxf) rfl;refine za0 fun gG=>?_;obtain ⟨m,hm,hl⟩:=I.loc;obtain ⟨u,ru,l⟩:=hl j x v hj hv (hxs.elim (fun z=>.inr (.inl z)) fun z=>.inr (.inr z));refine gG ?_;clear gG;refine ⟨u,ru,.inr ⟨zs1 hxf,?_⟩⟩;rcases l with ⟨l,_⟩ | ⟨_,c,ec,z⟩
   ·have l : X.env.scope.names.lookup x = some .local:=l;rcases hxs with q | q
    ·rw [q] at l; cases l
    ·rw [q] at l; cases l
   ·obtain ⟨c',hc'⟩:=zt7 (cells:=X.env.cells) (l:=scope.names) (acc:=[]) (.inr (jy4 hxf));have e':=sub x c' hc';rw [ec] at e';cases e';refine za0 fun gG=>?_;obtain ⟨o,ho,hd⟩:=z;refine gG ?_;clear gG;exact ⟨c,hc',o,k c o ho,hd⟩
 ·refine za0 fun gG=>?_;obtain ⟨v,o,ho,hd⟩:=I.cell x c (sub x c e);refine gG ?_;clear gG;exact ⟨v,o,k c o ho,hd⟩
 ·exact absurd (show p∈([] : List (Addr × Obj)) from hp) (by simp)
 ·show (zc3 O cap σ).length = (O++F).length;have:=congrArg List.length S.caps;simp only [ay3] at this;unfold zc3;simp [this]
theorem Inv.zd68 {pins : List (Addr × Obj)} {σ σ' : St} {H H' : Hp} {s s4 : Shared} {N : List Str} {cl : List (Str × Addr)} {fp : List Addr} {C D : Addr} {h0 h' : Heap} {ys : List V} {us : List Value} {n : Nat} (I : Inv X pins σ H s)
  (hf : ∀ b∈fp,zr9 X pins H b) (hs : s.heap.objs.size <= C) (hD : s.heap.objs.size <= D) (hDC : D < C)
  (k0 : ∀ b o,s.heap.get? b = some o->h0.get? b = some o)
  (I4 : Inv (zc2 X N scope cl C (D :: fp) { s with heap:=h0 } H) [] σ' H' s4) (fD : H' D = none) (oD : s4.heap.get? D = some { cls:=.type "list",data:=.seq us.toArray n }) (rv : Vals ys us) (hz : ys.length <= by3)
  (sb : fy3 C s4.heap h') : Inv X pins σ (upd H' D (.lst ys)) { s4 with heap:=h' }:=by
 have kC : ∀ b o,b ≠ C->s4.heap.get? b = some o->h'.get? b = some o:=fun b o hb e=>(sb.2 b hb).trans e;have lt : ∀ b o,s.heap.get? b = some o->b < s.heap.objs.size:=fun b o e=>by2 e;have neD : ∀ b o,s.heap.get? b = some o->b ≠ D:=fun b o e=>by8 (by6 (lt b o e) hD);have neC : ∀ b o,s.heap.get? b = some o->b ≠ C:=fun b o e=>by8 (by6 (lt b o e) hs);have nin : ∀ b o,s.heap.get? b = some o->b ∉ fp->b ∉ D :: fp:=fun b o e h hb=>(by7.mp hb).elim (neD b o e) h;have HD : H D = none:=I.hok.fresh hD;have neDH : ∀ b u,H b = some u->b ≠ D:=fun b u e=>za5 e HD;have fC : H' C = none:=I4.free;have un : Un (frs X.stack) (D :: fp) H H' h0 s4.heap:=I4.base;refine I.zb13 (ch:=fp) (s':={ s4 with heap:=h' }) (H':=upd H' D (.lst ys)) I4.os ⟨fun b o e n hb hx=>?_,fun b o e n hb hx=>?_,fun b o e n hx=>?_,fun b o e hx=>?_,fun b xs e=>?_,fun b o u e=>?_,fun b ps e=>?_⟩ (fun b u e=>?_) I4.bare (fun b hb=>?_)
 ·exact kC b o (neC b o e) (un.keep b o (k0 b o e) n hb (nin b o e hx))
 ·obtain ⟨sl,q⟩:=un.slot b o (k0 b o e) n hb (nin b o e hx);exact ⟨sl,kC b _ (neC b o e) q⟩
 ·rw [za8 (neD b o e)];exact un.free b o (k0 b o e) n (nin b o e hx)
 ·obtain ⟨o',q⟩:=un.there b o (k0 b o e) (nin b o e hx);exact ⟨o',kC b _ (neC b o e) q⟩
 ·rw [za8 (neDH b _ e)];exact un.tups b xs e
 ·rw [za8 (neDH b _ e)];exact un.frzs b o u e
 ·rw [za8 (neDH b _ e)];exact un.tbls b ps e
 ·by_cases hb : b = D
  ·subst hb;rw [zb5] at e;cases e;exact ⟨hz,us,n,rv,kC b _ (by8 hDC) oD⟩
  ·rw [za8 hb] at e;refine (I4.hok b u e).zS7 (fun c v hc q=>kC c v ?_ q) (fun c q=>by rw [za8 (za5 q fD)]; exact q) fun c xs q=>by rw [za8 (za5 q fD)]; exact q
   rcases hc with q | q
   ·rw [q]; exact za5 e fC
   ·exact za5 q fC
 ·refine za0 fun gG=>?_;obtain ⟨_,h1,_,h2,h3,h4⟩:=hf b hb;refine gG ?_;clear gG;exact ⟨h2,h1,h3,h4⟩
def Own (n : Nat) (g : TG) : Prop:=∀ x σ H Q,g x σ H Q->g x σ H fun σ2 H2=>(σ2.length = σ.length /\ ∀ j,n <= j->σ2[j]? = σ[j]?) /\ Q σ2 H2
def OwnS (n : Nat) (g : TGs) : Prop:=∀ x σ H Q,g x σ H Q->g x σ H fun σ2 H2=>(σ2.length = σ.length /\ ∀ j,n <= j->σ2[j]? = σ[j]?) /\ Q σ2 H2
theorem zb25 {n i : Nat} (h : i < n) : Own n (zn9 i):=fun x σ H Q q=>⟨⟨by simp,fun j hj=>by rw [cy6 (by omega)]⟩,q⟩
theorem zc57 {n : Nat} : OwnS n gNil:=fun x σ H Q zR=>by obtain ⟨e,q⟩:=zR; exact ⟨e,⟨rfl,fun _ _=>rfl⟩,q⟩
theorem zb26 {n i : Nat} {u : TGs} (h : i < n) (hu : OwnS n u) (mu : ∀ x σ H (Q Q' : St->Hp->Prop),(∀ σ H,Q σ H->Q' σ H)->u x σ H Q->u x σ H Q') : OwnS n (zS9 (zn9 i) u):=fun x σ H Q ⟨v,r,e,q⟩=>⟨v,r,e,by
 have q : u r (σ.set i (some v)) H Q:=q;show u r (σ.set i (some v)) H _;refine mu _ _ _ _ _ (fun σ2 H2 z=>?_) (hu _ _ _ _ q);refine za0 fun gG=>?_;obtain ⟨⟨h1,h2⟩,h3⟩:=z;refine gG ?_;clear gG
 exact ⟨⟨by rw [h1]; simp,fun j hj=>by rw [h2 j hj,cy6 (by omega)]⟩,h3⟩⟩
theorem zb27 : ∀ x σ H (Q Q' : St->Hp->Prop),(∀ σ H,Q σ H->Q' σ H)->gNil x σ H Q->gNil x σ H Q':=fun x σ H Q Q' h zR=>by obtain ⟨e,q⟩:=zR; exact ⟨e,h _ _ q⟩
theorem za09 {i : Nat} {u : TGs} (mu : ∀ x σ H (Q Q' : St->Hp->Prop),(∀ σ H,Q σ H->Q' σ H)->u x σ H Q->u x σ H Q') : ∀ x σ H (Q Q' : St->Hp->Prop),(∀ σ H,Q σ H->Q' σ H)->zS9 (zn9 i) u x σ H Q->zS9 (zn9 i) u x σ H Q' :=
 fun x σ H Q Q' h zR=>by obtain ⟨v,r,e,q⟩:=zR; exact ⟨v,r,e,mu _ _ _ _ _ h q⟩
theorem zc58 {n k : Nat} {K : ay5} {u : TGs} (hu : OwnS n u) : Own n (gTup K k u):=fun x σ H Q zR=>by obtain ⟨a,xs,e,h1,h2,q⟩:=zR; exact ⟨a,xs,e,h1,h2,hu _ _ _ _ q⟩
end
def Its (x : Str) : It:=⟨fun i _=>i < x.cps.size,fun i H v H'=>H' = H /\ ∃ c,x.cps[i]? = some c /\ v = .str ⟨#[c]⟩,fun i _=>x.cps.size <= i⟩
theorem zb28 {P : cy7} {w : World} {K : ay5} {tg : Expr} (it : Addr) (x : Str) (t : Tok) (cl : String) (hc : cl = "str_ascii_iterator" \/ cl = "str_iterator") : Turn P w K tg (Its x) [it] it (fun i h=>h.IsStrIter it cl x t i) where
 mem:=by simp
 obj:=fun i h st b hb=>by
  have e : b = it:=by simpa using hb
  subst e;refine za0 fun gG=>?_;obtain ⟨o,e,c,d⟩:=st;refine gG ?_;clear gG;exact ⟨o,e,fun v z=>by rw [d] at z; cases z⟩
 keep:=fun i h h' st k=>by
  refine za0 fun gG=>?_;obtain ⟨o,e,r⟩:=st;refine gG ?_;clear gG;exact ⟨o,k it (by simp) o e,r⟩
 item:=by
  intro X hP hw hK hcm i pins s σ H E I hf st hg;subst hP hw hK;refine za0 fun gG=>?_;obtain ⟨f0,f1,f2,f3,f4,f5⟩:=hf it (by simp);refine gG ?_;clear gG;have hi : i < x.cps.size:=hg
  have nm : ["enumerate", "zip", "dict_itemiterator", "dict_reverseitemiterator", "odict_iterator", "itertools.zip_longest", "itertools.pairwise"].contains cl = false:=by
   rcases hc with rfl | rfl <;> decide
  have go : ∀ (h' : Heap) (st' : h'.IsStrIter it cl x t (i + 1)) (sb : ∀ b o,b ≠ it->s.heap.get? b = some o->h'.get? b = some o) (tk : Nat) (u : Tok),∃ v,some (Value.str ⟨#[x.cps[i]]⟩ u) = some v /\
    wpAny (model X.prog X.w) X.A (oy9 tg (.ref it) v) (fun _ s2=>∃ y H',Inv X pins σ H' s2 /\ RelV y v /\ (Its x).yld i H y H' /\ s2.heap.IsStrIter it cl x t (i + 1) /\ ∀ b∈[it],H' b = none) E { s with heap:=h',toks:=tk }:=fun h' st' sb tk u=>by
   have I1 : Inv X pins σ H { s with heap:=h',toks:=tk }:=I.turned (fun b o hb e=>sb b o hb e) f0 f1 f3 f4 f5;refine za0 fun gG=>?_;obtain ⟨o,e,c,d⟩:=id st';refine gG ?_;clear gG;exact ⟨_,rfl,zJ9 (s:={ s with heap:=h',toks:=tk }) e c d nm ⟨.str ⟨#[x.cps[i]]⟩,H,I1,⟨_,rfl⟩,⟨rfl,x.cps[i],by simp [hi],rfl⟩,st',fun b hb=>(hf b hb).1⟩⟩
  rcases hc with rfl | rfl
  ·exact wpAny_pyNext_ascii_item st (c:=x.cps[i]) (by simp [hi]) fun h' st' sb=>go h' st' (fun b o hb e=>sb.extBut b o hb e) _ _
  ·exact wpAny_pyNext_wide_item st (c:=x.cps[i]) (by simp [hi]) fun h' st' sb=>go h' st' (fun b o hb e=>sb.extBut b o hb e) _ _
 done:=by
  intro X hP hw hK hcm i pins s σ H E I hf st hg;subst hP hw hK;refine za0 fun gG=>?_;obtain ⟨f0,f1,f2,f3,f4,f5⟩:=hf it (by simp);refine gG ?_;clear gG;have hi : x.cps.size <= i:=hg;rcases hc with rfl | rfl
  ·exact wpAny_pyNext_ascii_end (I.ok.hd hcm) st (by simp [hi]) fun h' eb=>⟨rfl,I.turned (t':=s.toks) (fun b o hb e=>eb b o hb e) f0 f1 f3 f4 f5⟩
  ·exact wpAny_pyNext_wide_end (I.ok.hd hcm) st (by simp [hi]) fun h' eb=>⟨rfl,I.turned (t':=s.toks) (fun b o hb e=>eb b o hb e) f0 f1 f3 f4 f5⟩
 self:=fun _ _ _ _ _ st h=>by
  rcases hc with rfl | rfl
  ·exact wpAny_pyIter_striter_ascii st h
  ·exact wpAny_pyIter_striter_wide st h
section
variable {X : Cx} {tg : Expr}
def iStr (tl : TE) : TI:=fun σ H R=>tl σ H fun v H1=>∃ x,v = .str x /\ R (Its x) H1
theorem zd70 {l : Expr} {tl : TE} (hl : PE X l tl) : PI X tg l (iStr tl):=by
 intro pins s σ H R I h;refine thn (hl pins s σ H _ I h) fun v s1 zR=>?_;refine za0 fun gG=>?_;obtain ⟨y,H1,I1,r1,q1⟩:=zR;obtain ⟨x,e,q⟩:=q1;subst e;obtain ⟨t,rfl⟩:=r1;refine gG ?_;clear gG
 have fin : ∀ (o : Obj) (cl : String),(cl = "str_ascii_iterator" \/ cl = "str_iterator")->(s1.heap.push o).IsStrIter s1.heap.objs.size cl x t 0->PIE X pins σ tg R (.ref s1.heap.objs.size) { s1 with heap:=s1.heap.push o }:=fun o cl hc st=>by
  refine ⟨s1.heap.objs.size,[s1.heap.objs.size],_,_,H1,rfl,I1.kept (t':=s1.toks) fun b o e=>ay2 _ e,zb28 _ x t cl hc,st,fun b hb=>?_,q⟩;have e : b = s1.heap.objs.size:=by simpa using hb
  subst e;exact I1.zY7 (ay6 _) (I1.hok.fresh (ay6 _))
 cases ha : x.cps.all (· < 128)
 ·exact wpAny_pyIter_wide ha (fin _ _ (.inr rfl) ⟨_,ay7 _ rfl,rfl,rfl⟩)
 ·exact wpAny_pyIter_ascii ha (fin _ _ (.inl rfl) ⟨_,ay7 _ rfl,rfl,rfl⟩)
end
theorem zK4 : ∀ {bs : List Bool} {us : List Value},Vals (bs.map V.bl) us->LSm.BoolsAre us bs:=by
 intro bs
 induction bs with
 | nil=>intro us r; rw [List.map_nil] at r; cases r; exact .nil
 | cons b bs ih =>
  intro us r;rw [ey9] at r;cases r with
  | cons r1 r2 =>
   cases r1;exact .cons b (ih r2)
section
variable {X : Cx}
theorem zb29 (hc : X.calm = true) : zj8 X (.builtin "all") (fun xs H Q=>∃ (p : Addr) (bs : List Bool),xs = [.ref p] /\ SqL X.K H p (bs.map V.bl) /\ Q (.bl (bs.all id)) H):=by
 intro pins s σ H xs us Q I r h;refine za0 fun gG=>?_;obtain ⟨p,bs,rfl,hq,q⟩:=h;refine gG ?_;clear gG;cases r with
 | cons r rr =>
  cases rr;cases r;refine za0 fun gG=>?_;obtain ⟨its,rv,pl,hz⟩:=I.list hq;obtain ⟨m,F⟩:=I.fr;refine gG ?_;clear gG;have hb:=zK4 rv;have hlt : p < s.heap.objs.size:=by obtain ⟨_,e,_⟩:=pl.isList; exact by2 e
  refine call_all_walk (wpAny_pyIter_list pl.isList ?_)
  refine ⟨s.heap.objs.size,[s.heap.objs.size,p],[s.heap.objs.size],its.toArray.size,_,_,fun i=>(bs[i]?).getD true,rfl,Walks.list (A:=X.A.in1) (I.ok.hd hc) _ p (by8 hlt) its.toArray,
   ⟨⟨_,ay7 _ rfl,rfl,rfl⟩,pl.isList.push _⟩,fun i v s' Q' E' hP hQ=>?_,fun h' tk hk=>?_⟩
  ·refine za0 fun gG=>?_;obtain ⟨b,e,rfl⟩:=hb.get i v (by simpa using hP);refine gG ?_;clear gG;simp only [e,Option.getD_some] at hQ;exact ky9 hQ
  ·have e : ((jy9 its.toArray.size).all fun i=>(bs[i]?).getD true) = bs.all id:=by
    rw [cy1,hb.length]; exact LSm.range_all bs
   rw [e];exact ⟨.bl (bs.all id),H,I.kept (LSm.kept_iter hk),rfl,q⟩
theorem zT6 {ys : List Str} : ∀ {us : List Value},Vals (ys.map V.str) us->StrsAre us ys:=by
 induction ys with
 | nil=>intro us r; rw [List.map_nil] at r; cases r; exact .nil
 | cons n ns ih =>
  intro us r;rw [ey9] at r;cases r with
  | cons r1 r2 =>
   refine za0 fun gG=>?_;obtain ⟨t,e⟩:=r1;subst e;refine gG ?_;clear gG;exact .cons n t (ih r2)
theorem Inv.big {pins : List (Addr × Obj)} {σ : St} {H : Hp} {s : Shared} (I : Inv X pins σ H s) : ky7 < s.heap.objs.size:=by
 have h : cy0 < s.heap.objs.size:=(I.mod.glob.keeps I.bk).lt;exact Nat.lt_trans (by decide) h
theorem zb30 {P : cy7} {w : World} {H : Hp} (h : Heap) (hb : ky7 < h.objs.size) : zc1 P w H (h.push { cls:=.type "dict",data:=.dict #[] }) h.objs.size (.dK []) :=
 ⟨dy9 _,beq_eq_false_iff_ne.mpr (fy2 (by8 hb)),[],.nil,Heap.DictOf.new h⟩
def zd71 : TE:=fun _ H Q=>∀ p,H p = none->Q (.ref p) (upd H p (.dK []))
theorem zb31 {pos : Pos} : PE X (.Dict [] [] pos) zd71:=fun pins s σ H Q I h =>
 wpAny_Dict_empty ⟨.ref s.heap.objs.size,_,I.laid (a:=s.heap.objs.size) (o:=.dK []) (t':=s.toks) (fun _ _ q=>ay2 _ q) (ay6 _) (zb30 s.heap I.big),rfl,h _ (I.hok.fresh (ay6 _))⟩
end
section
variable {X : Cx}
end
end L2
namespace HT
open PySem PySem.Spec PyProof.Rows
section
variable {prog : cy7} {w : World} {A : Around} {E : Value->Shared->Prop} {s : Shared}
theorem zq7 {t sl : Addr} {items : Array Value} {vl vu : Value} {lo hi : Option Int} {Q : Value->Shared->Prop} (ht : IsTup s.heap t items) (hs : s.heap.IsSliceOf sl vl vu .none) (pl : IsPart vl lo) (pu : IsPart vu hi)
  (hw : sIx items.size 0 lo = 0 /\ sIx items.size items.size hi = items.size)
  (h : Q (.ref t) s) : wpAny (model prog w) A (getItem (.ref t) (.ref sl)) Q E s:=by
 refine za0 fun gG=>?_;obtain ⟨os,hos,hcs,hds⟩:=id hs;refine gG ?_;clear gG;have hTs : s.TypeIs (.ref sl) "slice" := ⟨os,hos,hcs⟩
 unfold getItem
 try with_reducible refine fy1 ?_
 first | refine ay0 (ay1 ?_) | skip
 refine ay0 (wpAny_sequenceKey ht.typeIs (by decide) ?_)
 refine ay0 (ey8 (name:=my3 "__getitem__") ht.typeIs hy8
  (dy4 hy8 ht.typeIs entry_tuple_getitem ?_ (args_tuple_getitem _ _)))
 show wpAny _ _ (Builtin.Tuple.tupleItemsOf (.ref t) >>= _) _ _ s;refine ay0 (tupleItemsOf_ ht ?_);refine ay0 (uy1 hTs ?_);rw [if_pos (by decide)];refine ay0 (zl4 hs pl pu ?_)
 have hno : ((((sIx items.size 0 lo : Nat) : Int) == 0 && (1 : Int) == 1 && (sIx items.size items.size hi - sIx items.size 0 lo) == items.size) = true):=by
  rw [hw.1,hw.2];simp
 show wpAny _ _ (if (((sIx items.size 0 lo : Nat) : Int) == 0 && (1 : Int) == 1 && (sIx items.size items.size hi - sIx items.size 0 lo) == items.size) = true then _ else _) _ _ s;rw [if_pos hno];refine ay0 ?_;unfold Builtin.Tuple.tupleIsExact;refine ay0 (uy1 ht.typeIs (ay1 ?_));rw [if_pos (by decide)];refine ay0 (oy6 ?_);exact ay1 ⟨_,rfl,ay1 h⟩
theorem zb32 {t b : Addr} {vs ws : List Value} {Q : Value->Shared->Prop} (ht : IsTup s.heap t vs.toArray) (hb : IsTup s.heap b ws.toArray) (hv : vs = [])
  (h1 : Q (.ref b) s) : wpAny (model prog w) A (oy0 .Add (.ref t) (.ref b)) Q E s:=by
 refine za0 fun gG=>?_;obtain ⟨⟨cls,dd,data,sl⟩,ho,hc,n,hd⟩:=id ht;obtain ⟨⟨cls2,dd2,data2,sl2⟩,ho2,hc2,n2,hd2⟩:=id hb;refine gG ?_;clear gG;simp only at hc hd hc2 hd2;subst hc hd hc2 hd2
 exact concat_meets ⟨_,ho,rfl⟩ ⟨_,ho2,rfl⟩ noFill_tuple_add seq_tuple_add PySem.F.slot_tuple_add PySem.F.entry_tuple_add (PySem.F.args_tuple_add_2 _ _)
   (tuple_addW0 t b vs.toArray ws.toArray n n2 dd dd2 sl sl2 (by simp [hv])) ⟨ho,ho2,h1⟩
end
end HT
namespace L2
open PySem PySem.Spec PyProof.Rows
theorem zb33 {xs : List V} {lo hi : Option Int} (h : HT.sIx xs.length 0 lo = 0 /\ HT.sIx xs.length xs.length hi = xs.length) : zK1 xs lo hi = xs:=by
 unfold zK1;rw [h.1,h.2];simp
section
variable {X : Cx}
end
section
variable {X : Cx} {tg iter elt : Expr} {ifs : List Expr} {scope : Scope} {pos : Pos} {wi : TI} {g : TG} {tt : TT} {te : TE} {O F : List Str} {cap : List Nat}
theorem zG2 {use : Option (Value->Sem Unit)} {R : Value->Shared->Prop} {pins : List (Addr × Obj)} {s : Shared} {σ : St} {H : Hp} {Q : VK} {ps0 : Pos} (hc : X.calm = true) (S : zb3 X.N X.env.scope O F cap scope) (hi : PI X tg iter wi)
  (hg : ∀ cl C ex s H,PG (zc2 X (O++F) scope cl C ex s H) tg g) (ht : ∀ cl C ex s H,PTs (zc2 X (O++F) scope cl C ex s H) ifs tt) (he : ∀ cl C ex s H,PE (zc2 X (O++F) scope cl C ex s H) elt te)
  (ho : Own O.length g) (hs : ∀ x,ey4 iter X.env x = pure x) (I : Inv X pins σ H s) (h : za08 wi O cap g tt te σ H Q)
  (post : ∀ (s4 : Shared) (D C : Addr) (H4 : Hp) (ys : List V),(∃ m,s4.heap.Ns C m)->D ≠ C->(∀ h',fy3 C s4.heap h'->Inv X pins σ (upd H4 D (.lst ys)) { s4 with heap:=h' })->zr9 X pins (upd H4 D (.lst ys)) C->Q (.ref D) (upd H4 D (.lst ys)) ->
   compPost (model X.prog X.w) X.A X.xe use R (.ref D) C (.ok .next) s4) :
  wpAny (model X.prog X.w) X.A (comprehension (.ListComp elt [⟨tg,iter,ifs,0⟩] scope pos) scope X.env ps0 (newList []) false (eval iter X.env) use) R X.xe s:=by
 have hfr : ∀ y∈scope.names,y.2 = .free->∃ c,X.env.cells.lookup y.1 = some c:=fun y hy e=>I.ok.has y.1 (S.frees y hy e);refine wpAny_comprehension_free (use:=use) rfl hs (zq6 hfr) S.kind S.names (thn (hi pins s σ H _ I h) fun v s1 h1=>thn h1 fun itv s2 h2=>?_);refine zF0 h2 fun it fp tn J H2 e I2 T st2 f2 qR=>?_;refine za0 fun gG=>?_;obtain ⟨W,⟨m0,w0⟩,turn⟩:=qR;subst e;refine gG ?_;clear gG;refine ey5 (wpAny_newFunctionEnv S.nocell (by intro y hy; simp at hy) (fun h1 hns1 hsb1=>?_) S.kind);dsimp only at hns1 hsb1 ⊢;generalize hH0 : s2.heap.push { cls:=.type "list",dict:=none,data:=.seq ([] : List Value).toArray } = h0 at hns1 hsb1 ⊢;have h0s : h0.objs.size = s2.heap.objs.size + 1:=by rw [<- hH0,ny2]
 have k0 : ∀ b o,s2.heap.get? b = some o->h0.get? b = some o:=fun b o e=>hH0 ▸ ay2 _ e;have k1 : ∀ b o,h0.get? b = some o->h1.get? b = some o:=fun b o e=>hsb1.extBut b o (by8 (by2 e)) (ay2 _ e);have oD0 : h0.get? s2.heap.objs.size = some { cls:=.type "list",data:=.seq ([] : List Value).toArray }:=hH0 ▸ ay7 _ rfl;have hDC : s2.heap.objs.size < h0.objs.size:=by rw [h0s]; exact ky6 _
 have hsC : s2.heap.objs.size <= h0.objs.size:=ky8 hDC
 have flt : ∀ b∈fp,b < s2.heap.objs.size:=fun b hb=>by
  refine za0 fun gG=>?_;obtain ⟨o,e,_⟩:=T.obj _ _ st2 b hb;refine gG ?_;clear gG;exact by2 e
 have Dfp : s2.heap.objs.size ∉ fp:=fun z=>ny1 _ (flt _ z)
 have I3 : Inv (zc2 X (O++F) scope (zt6 X.env.cells scope.names []) h0.objs.size (s2.heap.objs.size :: fp) { s2 with heap:=h0 } H2) [] (zc3 O cap σ) H2 { s2 with heap:=h1,toks:=s2.toks + ([] : List (Str × Value)).length } :=
  I2.comp S f2 (T.obj _ _ st2) hsC s2.heap.objs.size (ay6 _) hDC rfl k0 k1 hns1
 generalize hX' : zc2 X (O++F) scope (zt6 X.env.cells scope.names []) h0.objs.size (s2.heap.objs.size :: fp) { s2 with heap:=h0 } H2 = X' at I3;have hg' : PG X' tg g:=hX' ▸ hg _ _ _ _ _;have ht' : PTs X' ifs tt:=hX' ▸ ht _ _ _ _ _;have he' : PE X' elt te:=hX' ▸ he _ _ _ _ _
 have fpok : ∀ {H' : Hp},(∀ b∈s2.heap.objs.size :: fp,H' b = none)->∀ b∈s2.heap.objs.size :: fp,zr9 X' [] H' b:=fun {H'} hn b hb=>by
  have hex : b∈X'.ex:=by rw [<- hX']; exact hb
  refine ⟨hn b hb,(I3.ok.exf b hex).1,I3.ok.exfs b hex,.inl hex,(I3.ok.exf b hex).2,fun p hp=>?_⟩;rw [<- hX'] at hp;exact absurd (show p∈([] : List (Addr × Obj)) from hp) (by simp)
 have eP : X'.prog = X.prog:=by rw [<- hX']; rfl
 have eW : X'.w = X.w:=by rw [<- hX']; rfl
 have eK : X'.K = X.K:=by rw [<- hX']; rfl
 have eA : X'.A = X.A:=by rw [<- hX']; rfl
 have eC : X'.calm = true:=by rw [<- hX']; exact hc
 have eE : X'.env = compEnvC scope (zt6 X.env.cells scope.names []) h0.objs.size X.env:=by rw [<- hX']; rfl
 have eX : X'.xe = fun _ _=>False:=by rw [<- hX']; rfl
 have loop : ∀ s3 : Shared,s3 = { s2 with heap:=h1,toks:=s2.toks + ([] : List (Str × Value)).length } ->
   ly4 (model X.prog X.w) X.A (.compLoop (.ListComp elt [⟨tg,iter,ifs,0⟩] scope pos) 0 (.ref it) (.ref s2.heap.objs.size) (compEnvC scope (zt6 X.env.cells scope.names []) h0.objs.size X.env))
    (compPost (model X.prog X.w) X.A X.xe use R (.ref s2.heap.objs.size) h0.objs.size) s3:=by
  rintro s3 rfl
  refine zG1 (fun n s'=>∃ i ys us k H',Inv X' [] (zc3 O cap σ) H' s' /\ tn i s'.heap /\ (∀ b∈s2.heap.objs.size :: fp,H' b = none) /\ s'.heap.get? s2.heap.objs.size = some { cls:=.type "list",data:=.seq us.toArray k } /\ Vals ys us /\ W i n ys H') ?_ m0
   ⟨0,[],[],_,H2,I3,T.keep _ _ _ st2 (fun b _ o e=>k1 b o (k0 b o e)),fun b hb=>?_,k1 _ _ oD0,.nil,w0⟩
  ·intro n s3 gX;refine za0 fun gG=>?_;obtain ⟨i,ys,us,k,H3,I3',st3,fr3,o3,rv3,w3⟩:=gX;obtain ⟨hz,step⟩:=turn i n ys H3 w3;refine gG ?_;clear gG;have fpI : ∀ b∈fp,zr9 X' [] H3 b:=fun b hb=>fpok fr3 b (by0 _ hb);rcases step with ⟨stop,q⟩ | ⟨go,NN,hNN,step⟩
   ·have:=T.done X' eP eW eK eC i [] s3 (zc3 O cap σ) H3 (fun _ _=>False) I3' fpI st3 stop;rw [eA] at this
    have hk : ∀ {s4 : Shared},Inv X' [] (zc3 O cap σ) H3 s4->s4.heap.get? s2.heap.objs.size = some { cls:=.type "list",data:=.seq us.toArray k }->compPost (model X.prog X.w) X.A X.xe use R (.ref s2.heap.objs.size) h0.objs.size (.ok .next) s4:=fun {s4} I4 o4=>by
     refine za0 fun gG=>?_;obtain ⟨m,hm,_⟩:=id I4.loc;refine gG ?_;clear gG;rw [eE] at hm
     have fC : H3 h0.objs.size = none:=by
      have:=I4.free;rw [eE] at this;exact this
     have nCD : h0.objs.size ≠ s2.heap.objs.size:=my2 hDC;refine post s4 s2.heap.objs.size h0.objs.size H3 ys ⟨m,hm⟩ (fy2 nCD) (fun h' sb=>?_) (I2.zY7 hsC (by rw [za8 nCD]; exact fC)) (q _ (fr3 _ ay9));rw [<- hX'] at I4;exact I2.zd68 f2 hsC (ay6 _) hDC k0 I4 (fr3 _ ay9) o4 rv3 hz sb
    have J3 : Inv X' [(s2.heap.objs.size,{ cls:=.type "list",data:=.seq us.toArray k })] (zc3 O cap σ) H3 s3:=I3'.zl7 fun p hp=>by
     have : p = (s2.heap.objs.size,{ cls:=.type "list",data:=.seq us.toArray k }):=by simpa using hp
     subst this;refine za0 fun gG=>?_;obtain ⟨f0,f1,f2',_⟩:=fpok fr3 s2.heap.objs.size ay9;refine gG ?_;clear gG;exact ⟨o3,f0,f1,f2',fun v z=>by cases z⟩
    have fpJ : ∀ b∈fp,zr9 X' [(s2.heap.objs.size,{ cls:=.type "list",data:=.seq us.toArray k })] H3 b:=fun b hb=>by
     refine za0 fun gG=>?_;obtain ⟨f0,f1,f3,f4,f5,f6⟩:=fpI b hb;refine gG ?_;clear gG;refine ⟨f0,f1,f3,f4,f5,fun p hp=>?_⟩;rcases ey0.mp hp with z | z
     ·exact f6 p (ky3 _ z)
     ·have : p = (s2.heap.objs.size,{ cls:=.type "list",data:=.seq us.toArray k }):=by simpa using z
      subst this;intro e;exact Dfp (by rw [show s2.heap.objs.size = b from e]; exact hb)
    have fin:=T.done X' eP eW eK eC i _ s3 (zc3 O cap σ) H3 (fun _ _=>False) J3 fpJ st3 stop;rw [eA] at fin;refine thn fin fun r s4 zR=>?_;refine za0 fun gG=>?_;obtain ⟨hr,J4⟩:=zR;subst hr;refine gG ?_;clear gG;exact hk (J4.zl7 fun p hp=>absurd hp (by simp)) (J4.pin (s2.heap.objs.size,{ cls:=.type "list",data:=.seq us.toArray k }) (dy3 _ (ey2.mpr rfl))).1
   ·have J3 : Inv X' (zf2 [s2.heap.objs.size] s3.heap) (zc3 O cap σ) H3 s3:=by
     have:=I3'.pinned (fp:=[s2.heap.objs.size]) (fun b hb=>fpok fr3 b (by simp at hb; simp [hb])) (fun b hb=>by
      have e : b = s2.heap.objs.size:=by simpa using hb
      subst e
      exact ⟨_,o3,fun v z=>by cases z⟩)
     simpa using this
    have fpJ : ∀ b∈fp,zr9 X' (zf2 [s2.heap.objs.size] s3.heap) H3 b:=fun b hb=>by
     refine za0 fun gG=>?_;obtain ⟨f0,f1,f3,f4,f5,f6⟩:=fpI b hb;refine gG ?_;clear gG;refine ⟨f0,f1,f3,f4,f5,fun p hp=>?_⟩;rcases ey0.mp hp with z | z
     ·exact f6 p (ky3 _ z)
     ·have:=(zg5 z).1;have e' : p.1 = s2.heap.objs.size:=by simpa using this
      intro e;exact Dfp (by rw [<- e',e]; exact hb)
    have it3:=T.item X' eP eW eK eC i _ s3 (zc3 O cap σ) H3 (fun _ _=>False) J3 fpJ st3 go;rw [eA] at it3;refine thn it3 fun r s4 zR=>?_;refine za0 fun gG=>?_;obtain ⟨u,hr,h4⟩:=zR;subst hr;refine gG ?_;clear gG;refine thn h4 fun _ s5 zR=>?_;refine za0 fun gG=>?_;obtain ⟨x,H5,I5,r5,y5,st5,fr5⟩:=zR;refine gG ?_;clear gG;have o5 : s5.heap.get? s2.heap.objs.size = some { cls:=.type "list",data:=.seq us.toArray k }:=(I5.pin (_,_) (dy3 _ (ze6 (by simp) o3))).1;have d5 : H5 s2.heap.objs.size = none:=(I5.pin (_,_) (dy3 _ (ze6 (by simp) o3))).2.1;have fr5' : ∀ b∈s2.heap.objs.size :: fp,H5 b = none:=fun b hb=>(by7.mp hb).elim (fun z=>by rw [z]; exact d5) (fr5 b)
    have I5' : Inv X' (zf2 (s2.heap.objs.size :: fp) s5.heap) (zc3 O cap σ) H5 s5:=by
     have:=(I5.zl7 (pins':=[]) fun p hp=>absurd hp (by simp)).pinned (fp:=s2.heap.objs.size :: fp) (fpok fr5') (fun b hb=>by
      rcases by7.mp hb with e | hb
      ·subst e;exact ⟨_,o5,fun v z=>by cases z⟩
      ·exact T.obj _ _ st5 b hb)
     simpa using this
    have a5:=hg' _ s5 (zc3 O cap σ) H5 x u _ I5' r5 (ho _ _ _ _ (step x H5 y5));rw [eP,eW,eA,eE,eX] at a5;refine thn a5 fun _ s6 zR=>?_;refine za0 fun gG=>?_;obtain ⟨σ6,H6,I6,⟨l6,w6⟩,q6⟩:=zR;refine gG ?_;clear gG;have t6:=ht' _ s6 σ6 H6 _ I6 q6;rw [eP,eW,eA,eE,eX] at t6;refine thn t6 fun ok s7 zR=>?_;refine za0 fun gG=>?_;obtain ⟨H7,I7,q7⟩:=zR;refine gG ?_;clear gG
    have back : ∀ {σ8 : St} {H8 : Hp} {s8 : Shared},σ8.length = (zc3 O cap σ).length->Inv X' (zf2 (s2.heap.objs.size :: fp) s5.heap) σ8 H8 s8->(∀ (j : Nat) v,(zc3 O cap σ)[j]? = some (some v)->σ8[j]? = some (some v)) ->
      Inv X' [] (zc3 O cap σ) H8 s8 /\ tn (i + 1) s8.heap /\ (∀ b∈s2.heap.objs.size :: fp,H8 b = none) /\ s8.heap.get? s2.heap.objs.size = some { cls:=.type "list",data:=.seq us.toArray k }:=fun {σ8 H8 s8} hl I8 hw=>by
     have pin8 : ∀ b∈s2.heap.objs.size :: fp,∀ o,s5.heap.get? b = some o->s8.heap.get? b = some o /\ H8 b = none:=fun b hb o e=>by
      have:=I8.pin (b,o) (dy3 _ (ze6 hb e));exact ⟨this.1,this.2.1⟩
     refine ⟨(I8.zl7 fun p hp=>absurd hp (by simp)).weak hl.symm hw,T.keep _ _ _ st5 fun b hb o e=>(pin8 b (by0 _ hb) o e).1,fun b hb=>?_,(pin8 _ ay9 _ o5).1⟩;rcases by7.mp hb with e | hb'
     ·exact (pin8 b hb _ (by rw [e]; exact o5)).2
     ·refine za0 fun gG=>?_;obtain ⟨o,e,_⟩:=T.obj _ _ st5 b hb';refine gG ?_;clear gG;exact (pin8 b hb o e).2
    have w6' : ∀ (j : Nat) v,(zc3 O cap σ)[j]? = some (some v)->σ6[j]? = some (some v):=fun j v e=>by
     by_cases hj : O.length <= j
     ·rw [w6 j hj]; exact e
     ·exfalso;unfold zc3 at e;rw [ay8 (by simpa using Nat.not_le.mp hj),by1] at e;cases q : O[j]? with
      | none=>rw [q] at e; cases e
      | some z=>rw [q] at e; cases e
    cases ok with
    | false =>
     rw [if_neg by9] at q7 ⊢;refine za0 fun gG=>?_;obtain ⟨m',hm,w7⟩:=hNN _ _ q7;obtain ⟨b1,b2,b3,b4⟩:=back l6 I7 w6';refine gG ?_;clear gG;exact ⟨m',hm,i + 1,ys,us,k,H7,b1,b2,b3,b4,rv3,w7⟩
    | true =>
     rw [if_pos rfl] at q7 ⊢;have e7:=he' _ s7 σ6 H7 _ I7 q7;rw [eP,eW,eA,eE,eX] at e7;refine thn e7 fun y s8 zR=>?_;refine za0 fun gG=>?_;obtain ⟨z,H8,I8,r8,q8⟩:=zR;obtain ⟨m',hm,w8⟩:=hNN _ _ q8;obtain ⟨b1,b2,b3,b4⟩:=back l6 I8 w6';refine gG ?_;clear gG;have hzs : us.toArray.size <= by3:=by rw [cy1,<- rv3.length]; exact hz
     refine append_at (hsz:=hzs) b4 fun h9 hs9 hD9=>?_;refine za0 fun gG=>?_;obtain ⟨f0,f1,f2',f3,f4,f5⟩:=fpok b3 s2.heap.objs.size ay9;refine gG ?_;clear gG;have I9 : Inv X' [] (zc3 O cap σ) H8 { s8 with heap:=h9 }:=b1.turned (t':=s8.toks) (fun b o hb e=>(hs9.2 b hb).trans e) f0 f1 f3 f4 f5;refine ⟨m',hm,i + 1,ys++[z],us++[y],k + 1,H8,I9,T.keep _ _ _ b2 fun b hb o e=>(hs9.2 b fun q=>Dfp (by rw [<- q]; exact hb)).trans e,b3,?_,rv3.snoc r8,w8⟩;rw [hD9,List.push_toArray]
  ·rcases by7.mp hb with e | hb
   ·rw [e]; exact I2.hok.fresh (ay6 _)
   ·exact (f2 b hb).1
 exact codeAny_compStart_list (loop _ rfl) (T.self _ 0 _ _ _ (T.keep _ _ _ st2 (fun b _ o e=>k1 b o (k0 b o e))) (loop _ rfl))
theorem za10 (hc : X.calm = true) (S : zb3 X.N X.env.scope O F cap scope) (hi : PI X tg iter wi)
  (hg : ∀ cl C ex s H,PG (zc2 X (O++F) scope cl C ex s H) tg g) (ht : ∀ cl C ex s H,PTs (zc2 X (O++F) scope cl C ex s H) ifs tt) (he : ∀ cl C ex s H,PE (zc2 X (O++F) scope cl C ex s H) elt te)
  (ho : Own O.length g) (hs : ∀ x,ey4 iter X.env x = pure x:=by intro _; rfl) : PE X (.ListComp elt [⟨tg,iter,ifs,0⟩] scope pos) (za08 wi O cap g tt te):=by
 intro pins s σ H Q I h;rw [eval_ListComp];exact zG2 (use:=none) (R:=EP X pins σ Q) hc S hi hg ht he ho hs I h fun s4 D C H4 ys hm hDC hI fp q=>hm.elim fun m hm=>⟨m,hm,fun h' sb=>⟨.ref D,_,hI h' sb,rfl,q⟩⟩
theorem zc59 {i : Nat} {x : Str} {pos' spos : Pos} (hN : X.N.Nodup) (hix : X.N[i]? = some x) (hx : Loc X.env.scope x) (hc : X.calm = true) (S : zb3 X.N X.env.scope O F cap scope) (hi : PI X tg iter wi)
  (hg : ∀ cl C ex s H,PG (zc2 X (O++F) scope cl C ex s H) tg g) (ht : ∀ cl C ex s H,PTs (zc2 X (O++F) scope cl C ex s H) ifs tt) (he : ∀ cl C ex s H,PE (zc2 X (O++F) scope cl C ex s H) elt te)
  (ho : Own O.length g) (hsw : swapsWith (.ListComp elt [⟨tg,iter,ifs,0⟩] scope pos) (some (.Name x pos')) spos.line X.env = pure true:=by rfl) (hs : ∀ x,ey4 iter X.env x = pure x:=by intro _; rfl)
  (hf : X.fn x = true \/ X.env.scope.names.lookup x = some .local:=by first | exact .inl rfl | exact .inr rfl | assumption) :
  PS X (.Assign [.Name x pos'] (.ListComp elt [⟨tg,iter,ifs,0⟩] scope pos) spos) (tAsg (za08 wi O cap g tt te) (zn9 i)):=by
 intro pins s σ H D I h;rw [exec_Assign_Name_used _ _ _ _ hsw];refine ay0 (ly3 (ay0 ?_));show wpAny _ X.A (do let _ <- comprehension (.ListComp elt [⟨tg,iter,ifs,0⟩] scope pos) scope X.env _ (newList []) false (eval iter X.env) (some (assign (.Name x pos') X.env))) _ _ s;refine ay0 (fy6 (zG2 (R:=fun _ s'=>SP X pins D .next s') hc S hi hg ht he ho hs I h ?_) (fun _ s' hq=>ay1 (ay1 hq)) fun _ _ e=>e);intro s4 D' C H4 ys ⟨m,hm⟩ hDC hI fp q;show wpAny (model X.prog X.w) X.A (assign (.Name x pos') X.env (.ref D')) (fun _ s''=>∃ m,s''.heap.Ns C m /\ ∀ h',fy3 C s''.heap h'->SP X pins D .next { s'' with heap:=h' }) X.xe s4;refine za0 fun gG=>?_;obtain ⟨f0,f1,f2,f3,f4,f5⟩:=fp;refine gG ?_;clear gG;refine wpAny_assign_Name (zu6 (v:=.ref D') (hI s4.heap ⟨rfl,fun _ _=>rfl⟩) hN hix hx rfl (fun s5 I5 z=>?_) hf);refine za0 fun gG=>?_;obtain ⟨a,sb,ha⟩:=z;refine gG ?_;clear gG
 have hCa : C ≠ a:=by
  rcases ha with e | e
  ·rw [e]; exact f1
  ·exact fy2 (f4 x a e)
 refine ⟨m,hm.sameBut sb hCa,fun h' sb'=>?_⟩;exact ⟨_,upd H4 D' (.lst ys),I5.turned (t':=s5.toks) (fun b o hb e=>(sb'.2 b hb).trans e) f0 f1 f3 f4 f5,q⟩
end
structure Dat (d : PyData) : Prop where
 lay : d.canLay0 = true
 dep : d.depth <= 64
section
variable {X : Cx}
end
section
variable {X : Cx} {tg : Expr}
end
section
variable {X : Cx} {a b c d : Expr} {ta tb tc td : TE} {pos : Pos}
theorem zc60 : OpR X (oy0 .Mult) (rI (fun i j=>gy8 i <= 2 ^ 20 /\ gy8 j <= 2 ^ 20) fun i j=>.int (i * j)):=opI fun _ _ _ _ _ _ _ hc q=>mul_int q (IntMulOk.of_bits hc.1 hc.2)
end
end L2
namespace L2
open PySem PySem.Spec PyProof.Rows PySem.W
theorem zv2 : ∀ {ns : List Int} {n : Int},n∈ns->gy8 n <= WData.weightAll (ns.map WData.int)
 | m :: ns,n,h=>by
  simp only [ey9,WData.weightAll];rcases by7.mp h with rfl | h
  ·have : gy8 n = WData.weight (.int n):=by simp [WData.weight,gy8]
   omega
  ·have:=zv2 h;omega
theorem zb34 {l : PySem.W.OpenLaw} {n k : Nat} {q : cy7} {loose : List Str} {XP : (Str->Option Value)->Heap->Prop} {YP : World->Heap->Prop} {d : DefRec} {K : Params->ay5} {CX : World->CXT} {sp : World->Sp} {x : Str}
  (hn : l.most = some n) (hn2 : n <= by3) (hdf : d.params.defaults = []) (hr : zA3 k callerA)
  (hY : ∀ (w : World) (h : Heap),YP w h->(K w.params).In h)
  (F : ∀ (w : World) (mg : Str->Option Value) (fa : Addr) (h : Heap),(K w.params).In h->h.Ns cy0 mg->mg d.name = some (.ref fa) ->
   ∃ fd : ey7,(∀ (s : Shared) (u : Value),BindsTo s fd ⟨[u],[]⟩ [(x,u)]) /\
    ∀ base : Heap,(K w.params).In base->base.Ns cy0 mg->zj0 l.prog w (K w.params) mg base (CX w) k fa fd [x] (sp w))
  (hsp : ∀ (w : World) (H : Hp) (a : Addr) (ns : List Int),ns.length <= n->(∀ m∈ns,gy8 m <= 2 ^ 20)->Only H->SqL (K w.params) H a (ns.map V.int)->sp w [.ref a] H (fun v _=>v = .bl true) fun _ _ _=>False)
  (hCX : ∀ (w : World) (H : Hp) (s : Shared) (e : Value) (s' : Shared),CX w [] H s (fun _ _ _=>False) e s'->False) :
  PySem.W.WalkO q loose XP YP l.row.toRowW d [] (fun f vs=>PySem.call f vs):=by
 intro w s₀ s₁ mg mb G Y fa o pm cd doc dV kV ho hd hcd hD hmg hg args vals as hpre hlay hrd hwl hlo;obtain rfl : dV = .none:=Dflts.none hD hdf;obtain rfl : kV = .none:=Dflts.noKw hD;refine za0 fun gG=>?_;obtain ⟨a,vs,ns,rfl,rfl,hobj,hints,hlen⟩:=Att.za05 hn hpre hwl;have KX:=hY w _ Y;obtain ⟨fd,hb,hF⟩:=F w mg fa _ KX G.T.g hmg;refine gG ?_;clear gG
 have hbits : ∀ m∈ns,gy8 m <= 2 ^ 20:=fun m hm=>by
  have h1:=(layableW_iff.mp (layW_cons hlay).1).2.2;have h2:=zv2 hm;have e : WData.weight (.list (ns.map WData.int)) = WData.weightAll (ns.map WData.int):=by simp [WData.weight]
  rw [e] at h1;exact ey1 h2 h1
 refine PySem.W.enter_call (ty9 (zb24 KX G.T.g G.T.b G.T.builtins G.T.nolimit hg hobj hints (ey1 hlen hn2) hr hF hb (fun H hO hS=>hsp w H a ns hlen hbits hO hS) fun H e s'=>hCX w H s₁ e s') fun r s' hq=>?_);refine za0 fun gG=>?_;obtain ⟨rfl,h2,h3,h4⟩:=hq;refine gG ?_;clear gG;exact ⟨.inl ⟨.bool true,.bool true,[],rfl,fun _=>rfl,.bool true,Att.za06 l _,fun _=>⟨List.Pairwise.nil,fun _ hm=>(nomatch hm)⟩⟩,h2,h3,h4⟩
end L2
namespace L2
open PySem PySem.Spec PyProof.Rows
section
variable {α β : Type} {F G : α->β->Prop}
theorem zg6 (h : ∀ a b,F a b->G a b) {l : List α} {m : List β} (p : Paired F l m) : Paired G l m:=by
 induction p with
 | nil=>exact .nil
 | cons a t ih=>exact .cons (h _ _ a) ih
theorem zh6 : ∀ {l : List α} {m : List β} {i : Nat} {a : α},Paired F l m->l[i]? = some a->∃ b,m[i]? = some b /\ F a b
 | _,_,_,_,.nil,e=>by simp at e
 | _,_,0,_,.cons h _,e=>by simp at e; subst e; exact ⟨_,rfl,h⟩
 | _,_,i + 1,a,.cons _ t,e=>by
  refine za0 fun gG=>?_;obtain ⟨b,h1,h2⟩:=zh6 (i:=i) (a:=a) t (by simpa using e);refine gG ?_;clear gG;exact ⟨b,by simpa using h1,h2⟩
theorem ze8 : ∀ {l : List α} {m : List β} {i : Nat} {b : β},Paired F l m->m[i]? = some b->∃ a,l[i]? = some a /\ F a b
 | _,_,_,_,.nil,e=>by simp at e
 | _,_,0,_,.cons h _,e=>by simp at e; subst e; exact ⟨_,rfl,h⟩
 | _,_,i + 1,b,.cons _ t,e=>by
  refine za0 fun gG=>?_;obtain ⟨a,h1,h2⟩:=ze8 (i:=i) (b:=b) t (by simpa using e);refine gG ?_;clear gG;exact ⟨a,by simpa using h1,h2⟩
theorem zb2 : ∀ {l : List α} {m : List β},Paired F l m->l.length = m.length
 | _,_,.nil=>rfl
 | _,_,.cons _ t=>by simp [zb2 t]
theorem zy6 {l l' : List α} {m m' : List β} (h : Paired F l m) (s : Paired F l' m') : Paired F (l++l') (m++m'):=by
 induction h with
 | nil=>exact s
 | cons h t ih=>exact .cons h ih
theorem za11 : ∀ {l : List α} {m : List β} (n : Nat),Paired F l m->Paired F (l.take n) (m.take n)
 | _,_,0,_=>.nil
 | _,_,_ + 1,.nil=>.nil
 | _,_,n + 1,.cons r t=>.cons r (za11 n t)
theorem za12 : ∀ {l : List α} {m : List β} (n : Nat),Paired F l m->Paired F (l.drop n) (m.drop n)
 | _,_,0,r=>r
 | _,_,_ + 1,.nil=>.nil
 | _,_,n + 1,.cons _ t=>za12 n t
theorem zc07 {a : α} {b : β} (r : F a b) : ∀ {l : List α} {m : List β} (i : Nat),Paired F l m->Paired F (l.set i a) (m.set i b)
 | _,_,_,.nil=>.nil
 | _,_,0,.cons _ t=>.cons r t
 | _,_,i + 1,.cons q t=>.cons q (zc07 r i t)
theorem za13 {γ : Type} {f : γ->α} {l : List γ} {m : List β} (h : Paired (fun c b=>F (f c) b) l m) : Paired F (l.map f) m:=by
 induction h with
 | nil=>exact .nil
 | cons r _ ih=>exact .cons r ih
theorem zB0 {γ : Type} {f : γ->α} {l : List γ} : ∀ {m : List β},Paired F (l.map f) m->Paired (fun c b=>F (f c) b) l m:=by
 induction l with
 | nil=>intro m h; cases h; exact .nil
 | cons c l ih=>intro m h; cases h with
  | cons r t=>exact .cons r (ih t)
end
mutual
inductive Rq (K : ay5) (F : Hp) : V->PyData->Prop
 | non : Rq K F .non .none
 | bl (b : Bool) : Rq K F (.bl b) (.bool b)
 | int (i : Int) : Rq K F (.int i) (.int i)
 | str (x : Str) : Rq K F (.str x) (.str x)
 | lst {a : Addr} {vs : List V} {ds : List PyData} : Rd F a (.lst vs)->Rqs K F vs ds->Rq K F (.ref a) (.list ds)
 | tup {a : Addr} {vs : List V} {ds : List PyData} : SqT K F a vs->Rqs K F vs ds->Rq K F (.ref a) (.tuple ds)
 | dct {a : Addr} : F a = some (.dK [])->Rq K F (.ref a) (.dict [])
inductive Rqs (K : ay5) (F : Hp) : List V->List PyData->Prop
 | nil : Rqs K F [] []
 | cons {v : V} {d : PyData} {vs : List V} {ds : List PyData} : Rq K F v d->Rqs K F vs ds->Rqs K F (v :: vs) (d :: ds)
end
theorem zn2.rd {H H' : Hp} {a : Addr} {u : HO} (e : zn2 H H') (h : Rd H a u) : Rd H' a u:=by
 rcases h with h | ⟨o,h⟩
 ·exact .inl (e _ _ h)
 ·exact .inr ⟨o,e _ _ h⟩
theorem zn2.zt3 {K : ay5} {H H' : Hp} {a : Addr} {xs : List V} (e : zn2 H H') (h : SqT K H a xs) : SqT K H' a xs:=by
 rcases h with (h | ⟨o,h⟩) | h
 ·exact .inl (.inl (e _ _ h))
 ·exact .inl (.inr ⟨o,e _ _ h⟩)
 ·exact .inr h
mutual
theorem Rq.same {K : ay5} {H H' : Hp} (s : zn2 H H') : ∀ (d : PyData) {v : V},Rq K H v d->Rq K H' v d
 | .none,_,h=>by cases h; exact .non
 | .bool _,_,h=>by cases h; exact .bl _
 | .int _,_,h=>by cases h; exact .int _
 | .str _,_,h=>by cases h; exact .str _
 | .list ds,_,h=>by cases h with | lst e r=>exact .lst (s.rd e) (Rqs.same s ds r)
 | .tuple ds,_,h=>by cases h with | tup e r=>exact .tup (s.zt3 e) (Rqs.same s ds r)
 | .dict _,_,h=>by cases h with | dct e=>exact .dct (s _ _ e)
theorem Rqs.same {K : ay5} {H H' : Hp} (s : zn2 H H') : ∀ (ds : List PyData) {vs : List V},Rqs K H vs ds->Rqs K H' vs ds
 | [],_,.nil=>.nil
 | d :: ds,_,.cons r t=>.cons (Rq.same s d r) (Rqs.same s ds t)
end
theorem Rqs.pd {K : ay5} {H : Hp} : ∀ {vs : List V} {ds : List PyData},Rqs K H vs ds->Paired (fun d v=>Rq K H v d) ds vs
 | _,_,.nil=>.nil
 | _,_,.cons r t=>.cons r (Rqs.pd t)
theorem Rqs.of {K : ay5} {H : Hp} : ∀ {ds : List PyData} {vs : List V},Paired (fun d v=>Rq K H v d) ds vs->Rqs K H vs ds
 | _,_,.nil=>.nil
 | _,_,.cons r t=>.cons r (Rqs.of t)
theorem Rq.zf7 {K : ay5} {H : Hp} {v : V} {x : Str} (r : Rq K H v (.str x)) : v = .str x:=by cases r; rfl
theorem Rq.ze3 {K : ay5} {H : Hp} {v : V} {x : Int} (r : Rq K H v (.int x)) : v = .int x:=by cases r; rfl
theorem Rq.zv3 {K : ay5} {H : Hp} {v : V} {x : Bool} (r : Rq K H v (.bool x)) : v = .bl x:=by cases r; rfl
theorem Rq.zc08 {K : ay5} {H : Hp} {v : V} (r : Rq K H v .none) : v = .non:=by cases r; rfl
theorem Rq.zg7 {K : ay5} {H : Hp} {v : V} {ds : List PyData} (r : Rq K H v (.tuple ds)) : ∃ a vs,v = .ref a /\ SqT K H a vs /\ Paired (fun d v=>Rq K H v d) ds vs:=by
 cases r with
 | tup h t=>exact ⟨_,_,rfl,h,t.pd⟩
theorem Rq.zG3 {K : ay5} {H : Hp} {v : V} {ds : List PyData} (r : Rq K H v (.list ds)) : ∃ a vs,v = .ref a /\ Rd H a (.lst vs) /\ Paired (fun d v=>Rq K H v d) ds vs:=by
 cases r with
 | lst h t=>exact ⟨_,_,rfl,h,t.pd⟩
mutual
theorem Rq.reads {X : Cx} {pins : List (Addr × Obj)} {σ : St} {H : Hp} {s : Shared} (I : Inv X pins σ H s) : ∀ (d : PyData) {v : V} {u : Value},d.canLay0 = true->Rq X.K H v d->RelV v u->∃ as,Reads s.heap u d as
 | .none,_,_,_,h,r=>by cases h; cases r; exact ⟨_,.none⟩
 | .bool b,_,_,_,h,r=>by cases h; cases r; exact ⟨_,.bool b⟩
 | .int i,_,_,_,h,r=>by cases h; obtain ⟨t,rfl⟩:=r; exact ⟨_,.int i t⟩
 | .str x,_,_,_,h,r=>by cases h; obtain ⟨t,rfl⟩:=r; exact ⟨_,.str x t⟩
 | .list ds,_,_,c,h,r=>by
  cases h
  rename_i e q
  cases r;refine za0 fun gG=>?_;obtain ⟨its,rv,⟨o,n,ho,hc,_,hd⟩,_⟩:=I.list (.inl e);obtain ⟨as,h⟩:=Rqs.reads I ds (by simpa [qy8] using c) q rv;refine gG ?_;clear gG;exact ⟨_,.list ho hc hd (by simpa using h)⟩
 | .tuple ds,_,_,c,h,r=>by
  cases h
  rename_i e q
  cases r;refine za0 fun gG=>?_;obtain ⟨its,rv,⟨o,ho,hc,n,hd⟩,_⟩:=I.tuple e;obtain ⟨as,h⟩:=Rqs.reads I ds (by simpa [qy8] using c) q rv;refine gG ?_;clear gG;exact ⟨_,.tuple ho hc hd (by simpa using h)⟩
 | .dict _,_,_,c,_,r=>by simp [qy8] at c
theorem Rqs.reads {X : Cx} {pins : List (Addr × Obj)} {σ : St} {H : Hp} {s : Shared} (I : Inv X pins σ H s) : ∀ (ds : List PyData) {vs : List V} {us : List Value},oy7 ds = true->Rqs X.K H vs ds->Vals vs us->∃ as,ReadsAll s.heap us ds as
 | [],_,_,_,.nil,r=>by cases r; exact ⟨_,.nil⟩
 | d :: ds,_,_,c,.cons q t,r=>by
  cases r with
  | cons r1 r2 =>
   simp [oy7] at c;refine za0 fun gG=>?_;obtain ⟨as,h⟩:=Rq.reads I d c.1 q r1;obtain ⟨bs,h'⟩:=Rqs.reads I ds c.2 t r2;refine gG ?_;clear gG;exact ⟨_,.cons h h'⟩
end
inductive El where
 | d (x : PyData)
 | o (k : Nat)
 | s (ns : List Int)
 | x (C : Addr)
 | p (ks : List Key)
 | t (xs : List (Sum PyData Nat))
inductive OD where
 | lst (xs : List El)
 | dK (kvs : List (Key × El))
 | dT (kvs : List (List Key × El))
 | fT (o : Obj) (kvs : List (List Key × El))
 | fK (o : Obj) (kvs : List (Key × El))
abbrev Wl:=List OD
abbrev Sl:=List (Option El)
def excO (a C : Addr) : HO:=.ext fun h=>∃ o,h.get? a = some o /\ o.cls = .ref C
def TiR (K : ay5) (F : Hp) (A : List Addr) : Sum PyData Nat->V->Prop
 | .inl d,v=>Rq K F v d
 | .inr k,v=>∃ a,A[k]? = some a /\ v = .ref a
def ElR (K : ay5) (F : Hp) (A : List Addr) : El->V->Prop
 | .d x,v=>Rq K F v x
 | .o k,v=>∃ a,A[k]? = some a /\ v = .ref a
 | .s ns,v=>∃ a,v = .ref a /\ SqL K F a (ns.map V.int)
 | .x C,v=>∃ a,v = .ref a /\ F a = some (excO a C)
 | .p ks,v=>∃ a,v = .ref a /\ F a = some (.tup (ks.map kV))
 | .t xs,v=>∃ a vs,v = .ref a /\ F a = some (.tup vs) /\ Paired (TiR K F A) xs vs
theorem ElR.dd {K : ay5} {F : Hp} {A : List Addr} {x : PyData} {v : V} (h : Rq K F v x) : ElR K F A (.d x) v:=h
theorem ElR.oo {K : ay5} {F : Hp} {A : List Addr} {k : Nat} {a : Addr} (h : A[k]? = some a) : ElR K F A (.o k) (.ref a):=⟨a,h,rfl⟩
def KeysIn (F : Hp) (o : Obj) (ks : List (List Key)) : Prop:=∃ es ep,o.ExactDict /\ o.data = .dict es ep /\ es.size = ks.length /\ ∀ (i : Nat) k,ks[i]? = some k->∃ en b,es[i]? = some en /\ en.key = .ref b /\ F b = some (.tup (k.map kV))
theorem KeysIn.same {F F' : Hp} {o : Obj} {ks : List (List Key)} (h : KeysIn F o ks) (s : zn2 F F') : KeysIn F' o ks:=by
 refine za0 fun gG=>?_;obtain ⟨es,ep,h1,h2,h3,h4⟩:=h;refine gG ?_;clear gG;refine ⟨es,ep,h1,h2,h3,fun i k hk=>?_⟩;refine za0 fun gG=>?_;obtain ⟨en,b,e1,e2,e3⟩:=h4 i k hk;refine gG ?_;clear gG;exact ⟨en,b,e1,e2,s _ _ e3⟩
def OdR (K : ay5) (F : Hp) (A : List Addr) : OD->HO->Prop
 | .lst es,h=>∃ vs,h = .lst vs /\ Paired (ElR K F A) es vs
 | .dK kvs,h=>∃ vs,h = .dK vs /\ Paired (fun p q=>p.1 = q.1 /\ ElR K F A p.2 q.2) kvs vs
 | .dT kvs,h=>∃ vs,h = .dT vs /\ Paired (fun p q=>p.1 = q.1 /\ ElR K F A p.2 q.2) kvs vs
 | .fT o kvs,h=>∃ vs,(h = .frz o (.dT vs) /\ KeysIn F o (kvs.map (·.1))) /\ Paired (fun p q=>p.1 = q.1 /\ ElR K F A p.2 q.2) kvs vs
 | .fK o kvs,h=>∃ vs,h = .frz o (.dK vs) /\ Paired (fun p q=>p.1 = q.1 /\ ElR K F A p.2 q.2) kvs vs
structure RW (K : ay5) (F : Hp) (A : List Addr) (W : Wl) (H : Hp) : Prop where
 sub : zn2 F H
 len : A.length = W.length
 nd : A.Nodup
 out : ∀ a∈A,F a = none
 obj : ∀ (k : Nat) a o,A[k]? = some a->W[k]? = some o->∃ h,H a = some h /\ OdR K F A o h
structure SR (K : ay5) (F : Hp) (A : List Addr) (S : Sl) (σ : St) : Prop where
 len : S.length = σ.length
 get : ∀ (i : Nat) e,S[i]? = some (some e)->∃ v,σ[i]? = some (some v) /\ ElR K F A e v
structure Ext (F : Hp) (A : List Addr) (F' : Hp) (A' : List Addr) : Prop where
 same : zn2 F F'
 pre : A <+: A'
section
variable {K : ay5} {F F' F1 F2 : Hp} {A A' A1 A2 : List Addr} {W W' : Wl} {H H' : Hp}
theorem Ext.refl : Ext F A F A:=⟨.refl _,sy6 _⟩
theorem Ext.trans (a : Ext F A F1 A1) (b : Ext F1 A1 F2 A2) : Ext F A F2 A2:=⟨a.same.trans b.same,a.pre.trans b.pre⟩
theorem zv4 {A A' : List Addr} (h : A <+: A') {k : Nat} {a : Addr} (e : A[k]? = some a) : A'[k]? = some a:=by
 refine za0 fun gG=>?_;obtain ⟨r,rfl⟩:=h;refine gG ?_;clear gG;rw [ay8 (by obtain ⟨q,_⟩:=ay4.mp e; exact q)];exact e
theorem TiR.ext (x : Ext F A F' A') : ∀ {e : Sum PyData Nat} {v : V},TiR K F A e v->TiR K F' A' e v
 | .inl _,_,h=>Rq.same x.same _ h
 | .inr _,_,⟨a,h,r⟩=>⟨a,zv4 x.pre h,r⟩
theorem ElR.ext (x : Ext F A F' A') : ∀ {e : El} {v : V},ElR K F A e v->ElR K F' A' e v
 | .d _,_,h=>Rq.same x.same _ h
 | .o _,_,⟨a,h,r⟩=>⟨a,zv4 x.pre h,r⟩
 | .s _,_,⟨a,h,r⟩=>⟨a,h,x.same.seq r⟩
 | .x _,_,⟨a,h,r⟩=>⟨a,h,x.same _ _ r⟩
 | .p _,_,⟨a,h,r⟩=>⟨a,h,x.same _ _ r⟩
 | .t _,_,⟨a,vs,h,r,p⟩=>⟨a,vs,h,x.same _ _ r,zg6 (fun _ _ z=>z.ext x) p⟩
theorem OdR.ext (x : Ext F A F' A') : ∀ {o : OD} {h : HO},OdR K F A o h->OdR K F' A' o h
 | .lst _,_,⟨vs,e,p⟩=>⟨vs,e,zg6 (fun _ _ r=>r.ext x) p⟩
 | .dK _,_,⟨vs,e,p⟩=>⟨vs,e,zg6 (fun _ _ r=>⟨r.1,r.2.ext x⟩) p⟩
 | .dT _,_,⟨vs,e,p⟩=>⟨vs,e,zg6 (fun _ _ r=>⟨r.1,r.2.ext x⟩) p⟩
 | .fT _ _,_,⟨vs,⟨e,ki⟩,p⟩=>⟨vs,⟨e,ki.same x.same⟩,zg6 (fun _ _ r=>⟨r.1,r.2.ext x⟩) p⟩
 | .fK _ _,_,⟨vs,e,p⟩=>⟨vs,e,zg6 (fun _ _ r=>⟨r.1,r.2.ext x⟩) p⟩
theorem SR.ext {S : Sl} {σ : St} (r : SR K F A S σ) (x : Ext F A F' A') : SR K F' A' S σ:=⟨r.len,fun i e h=>by
 refine za0 fun gG=>?_;obtain ⟨v,h1,h2⟩:=r.get i e h;refine gG ?_;clear gG
 exact ⟨v,h1,h2.ext x⟩⟩
theorem SR.set {S : Sl} {σ : St} (r : SR K F A S σ) {e : El} {v : V} (h : ElR K F A e v) (i : Nat) : SR K F A (S.set i (some e)) (σ.set i (some v)):=⟨by simp [r.len],fun j e' q=>by
 by_cases hj : i = j
 ·subst hj
  have hi : i < S.length:=by
   have:=(ay4.mp q).1;simpa using this
  rw [gy3 hi] at q;cases q;exact ⟨v,by rw [gy3 (by rw [<- r.len]; exact hi)],h⟩
 ·rw [cy6 hj] at q;refine za0 fun gG=>?_;obtain ⟨v',h1,h2⟩:=r.get j e' q;refine gG ?_;clear gG
  exact ⟨v',by rw [cy6 hj]; exact h1,h2⟩⟩
theorem RW.zd72 (r : RW K F A W H) {p : Addr} (h : H p = none) : p ∉ A:=fun z=>by
 obtain ⟨k,hk⟩:=gy7.mp z;have hl : k < W.length:=by rw [<- r.len]; exact (ay4.mp hk).1
 refine za0 fun gG=>?_;obtain ⟨o,e,_⟩:=r.obj k p W[k] hk (by simp [hl]);refine gG ?_;clear gG;rw [h] at e;cases e
theorem zj9 {F : Hp} {p : Addr} {o : HO} (h : F p = none) : zn2 F (upd F p o):=fun b o' e=>by rw [za8 (za5 e h)]; exact e
theorem zb35 {F H : Hp} (s : zn2 F H) {p : Addr} {o : HO} : zn2 (upd F p o) (upd H p o):=fun b o' e=>by
 by_cases hb : b = p
 ·subst hb; rw [zb5] at e ⊢; exact e
 ·rw [za8 hb] at e ⊢; exact s _ _ e
theorem RW.newF (r : RW K F A W H) {p : Addr} (h : H p = none) (o : HO) : RW K (upd F p o) A W (upd H p o) /\ Ext F A (upd F p o) A:=by
 have hp:=r.zd72 h;have x : Ext F A (upd F p o) A:=⟨zj9 (r.sub.free h),sy6 _⟩
 refine ⟨⟨zb35 r.sub,r.len,r.nd,fun a ha=>?_,fun k a o' hk hw=>?_⟩,x⟩
 ·rw [za8 (fun z=>hp (by rw [<- z]; exact ha))];exact r.out a ha
 ·refine za0 fun gG=>?_;obtain ⟨u,e,q⟩:=r.obj k a o' hk hw;refine gG ?_;clear gG;exact ⟨u,by rw [za8 (za5 e h)]; exact e,q.ext x⟩
theorem RW.zX4 (r : RW K F A W H) {p : Addr} (h : H p = none) {o : OD} {u : HO} (q : OdR K F A o u) : RW K F (A++[p]) (W++[o]) (upd H p u) /\ Ext F A F (A++[p]):=by
 have hp:=r.zd72 h;have x : Ext F A F (A++[p]):=⟨.refl _,List.prefix_append _ _⟩
 refine ⟨⟨fun b o' e=>by rw [za8 (za5 (r.sub _ _ e) h)]; exact r.sub _ _ e,by simp [r.len],?_,fun a ha=>?_,fun k a o' hk hw=>?_⟩,x⟩
 ·rw [List.nodup_append];exact ⟨r.nd,by simp,fun a ha b hb=>by simp at hb; subst hb; exact fun z=>hp (z ▸ ha)⟩
 ·rcases ey0.mp ha with ha | ha
  ·exact r.out a ha
  ·simp at ha; subst ha; exact r.sub.free h
 ·by_cases hl : k < A.length
  ·rw [ay8 hl] at hk;rw [ay8 (by rw [<- r.len]; exact hl)] at hw;refine za0 fun gG=>?_;obtain ⟨u',e,q'⟩:=r.obj k a o' hk hw;refine gG ?_;clear gG;exact ⟨u',by rw [za8 (za5 e h)]; exact e,q'.ext x⟩
  ·have hk' : k = A.length:=by
    have:=(ay4.mp hk).1;simp at this;omega
   subst hk';rw [cy2 (ay6 _)] at hk;rw [cy2 (by rw [r.len]; exact ay6 _)] at hw;simp at hk;simp [r.len] at hw;subst hk hw;exact ⟨u,zb5,q.ext x⟩
theorem RW.put (r : RW K F A W H) {k : Nat} {a : Addr} (hk : A[k]? = some a) {o : OD} {u : HO} (q : OdR K F A o u) : RW K F A (W.set k o) (upd H a u):=by
 have ha : a∈A:=cy8 hk;refine ⟨fun b o' e=>?_,by simp [r.len],r.nd,r.out,fun j b o' hj hw=>?_⟩
 ·have : b ≠ a:=fun z=>by subst z; rw [r.out _ ha] at e; cases e
  rw [za8 this]; exact r.sub _ _ e
 ·by_cases hjk : k = j
  ·subst hjk;rw [hk] at hj;cases hj;have hl : k < W.length:=by rw [<- r.len]; exact (ay4.mp hk).1
   rw [gy3 hl] at hw;cases hw;exact ⟨u,zb5,q⟩
  ·rw [cy6 hjk] at hw;refine za0 fun gG=>?_;obtain ⟨u',e,q'⟩:=r.obj j b o' hj hw;refine gG ?_;clear gG
   have : b ≠ a:=fun z=>by
    subst z;have h1:=(ay4.mp hj)
    have h2:=(ay4.mp hk)
    refine za0 fun gG=>?_;obtain ⟨l1,e1⟩:=h1;obtain ⟨l2,e2⟩:=h2;refine gG ?_;clear gG;exact hjk ((iy4 r.nd).mp (e2.trans e1.symm))
   exact ⟨u',by rw [za8 this]; exact e,q'⟩
theorem RW.grew (r : RW K F A W H) (s : zn2 H H') {p : Addr} {vs : List V} (h : H' p = some (.tup vs)) : ∃ F',zn2 F F' /\ F' p = some (.tup vs) /\ RW K F' A W H':=by
 have hp : p ∉ A:=fun z=>by
  obtain ⟨k,hk⟩:=gy7.mp z;have hl : k < W.length:=by rw [<- r.len]; exact (ay4.mp hk).1
  refine za0 fun gG=>?_;obtain ⟨o,e,q⟩:=r.obj k p W[k] hk (by simp [hl]);refine gG ?_;clear gG;rw [s _ _ e] at h;cases h;generalize W[k] = oo at q;cases oo with
  | lst es=>obtain ⟨vs,e,_⟩:=q; cases e
  | dK es=>obtain ⟨vs,e,_⟩:=q; cases e
  | dT es=>obtain ⟨vs,e,_⟩:=q; cases e
  | fT o es=>obtain ⟨vs,⟨e,_⟩,_⟩:=q; cases e
  | fK o es=>obtain ⟨vs,e,_⟩:=q; cases e
 have sF : zn2 F (upd F p (.tup vs)):=fun b o e=>by
  by_cases hb : b = p
  ·subst hb;have:=s _ _ (r.sub _ _ e);rw [h] at this;rw [zb5];exact this
  ·rw [za8 hb]; exact e
 have x : Ext F A (upd F p (.tup vs)) A:=⟨sF,sy6 _⟩
 refine ⟨upd F p (.tup vs),sF,zb5,⟨fun b o e=>?_,r.len,r.nd,fun a ha=>?_,fun k a o hk hw=>?_⟩⟩
 ·by_cases hb : b = p
  ·subst hb; rw [zb5] at e; cases e; exact h
  ·rw [za8 hb] at e; exact s _ _ (r.sub _ _ e)
 ·rw [za8 (fun z=>hp (by rw [<- z]; exact ha))]; exact r.out a ha
 ·refine za0 fun gG=>?_;obtain ⟨u,e,q⟩:=r.obj k a o hk hw;refine gG ?_;clear gG;exact ⟨u,s _ _ e,q.ext x⟩
end
abbrev KB:=El->Wl->Prop
def zs2 (K : ay5) (F : Hp) (A : List Addr) (k : KB) (Q : VK) : Prop:=∀ F' A' W' H' e v,Ext F A F' A'->RW K F' A' W' H'->ElR K F' A' e v->k e W'->Q v H'
section
variable {K : ay5} {F F1 : Hp} {A A1 : List Addr} {W : Wl} {H H' : Hp} {k : KB} {Q : VK}
theorem zs2.ext (q : zs2 K F A k Q) (x : Ext F A F1 A1) : zs2 K F1 A1 k Q:=fun F' A' W' H' e v y r z h=>q F' A' W' H' e v (x.trans y) r z h
theorem zs2.same (q : zs2 K F A k Q) (r : RW K F A W H) {e : El} {v : V} (z : ElR K F A e v) (h : k e W) : Q v H:=q F A W H e v .refl r z h
theorem zs2.newT (q : zs2 K F A k Q) (r : RW K F A W H) {p : Addr} (hp : H p = none) {vs : List V} {ds : List PyData} (z : Paired (fun d v=>Rq K F v d) ds vs) (h : k (.d (.tuple ds)) W) : Q (.ref p) (upd H p (.tup vs)):=by
 obtain ⟨r',x⟩:=r.newF hp (.tup vs);exact q _ _ _ _ _ _ x r' (.dd (Rq.tup (SqT.of zb5) (Rqs.of (zg6 (fun _ _ t=>Rq.same x.same _ t) z)))) h
theorem zs2.newL (q : zs2 K F A k Q) (r : RW K F A W H) {p : Addr} (hp : H p = none) {vs : List V} {ds : List PyData} (z : Paired (fun d v=>Rq K F v d) ds vs) (h : k (.d (.list ds)) W) : Q (.ref p) (upd H p (.lst vs)):=by
 obtain ⟨r',x⟩:=r.newF hp (.lst vs);exact q _ _ _ _ _ _ x r' (.dd (Rq.lst (.inl zb5) (Rqs.of (zg6 (fun _ _ t=>Rq.same x.same _ t) z)))) h
theorem zs2.zX4 (q : zs2 K F A k Q) (r : RW K F A W H) {p : Addr} (hp : H p = none) {o : OD} {u : HO} (z : OdR K F A o u) (h : k (.o W.length) (W++[o])) : Q (.ref p) (upd H p u):=by
 obtain ⟨r',x⟩:=r.zX4 hp z;exact q _ _ _ _ _ _ x r' (ElR.oo (k:=W.length) (by rw [<- r.len]; simp)) h
theorem zs2.put (q : zs2 K F A k Q) (r : RW K F A W H) {j : Nat} {a : Addr} (hj : A[j]? = some a) {o : OD} {u : HO} (z : OdR K F A o u) {e : El} {v : V} (zv : ElR K F A e v) (h : k e (W.set j o)) : Q v (upd H a u) :=
 q _ _ _ _ _ _ .refl (r.put hj z) zv h
end
structure Bc extends Cx where
 F0 : Hp
 A0 : List Addr
 xk : Addr->Sl->Wl->Prop
instance : Coe Bc Cx:=⟨Bc.toCx⟩
abbrev Bc.Am (X : Bc) (F : Hp) (A : List Addr) : Prop:=Ext X.F0 X.A0 F A
def tD (X : Bc) (S : Sl) (W : Wl) (k : KB) : TE:=fun σ H Q=>∃ F A,X.Am F A /\ RW X.K F A W H /\ SR X.K F A S σ /\ zs2 X.K F A k Q
def BE (X : Bc) (S : Sl) (W : Wl) (e : Expr) (k : KB) : Prop:=PE X e (tD X S W k)
def tU (X : Bc) (e : Expr) : TE:=fun σ H Q=>∃ t,PE X e t /\ t σ H Q
theorem zi1 {X : Bc} {e : Expr} : PE X e (tU X e):=fun pins s σ H Q I zR=>by obtain ⟨t,h,q⟩:=zR; exact h pins s σ H Q I q
theorem BE.use {X : Bc} {S : Sl} {W : Wl} {e : Expr} {k : KB} (h : BE X S W e k) {F : Hp} {A : List Addr} {σ : St} {H : Hp} {Q : VK} (x0 : X.Am F A) (r : RW X.K F A W H) (s : SR X.K F A S σ)
  (q : ∀ F' A' W' H' e v,Ext F A F' A'->RW X.K F' A' W' H'->ElR X.K F' A' e v->k e W'->Q v H') : tU X e σ H Q:=⟨_,h,F,A,x0,r,s,q⟩
theorem BE.of {X : Bc} {S : Sl} {W : Wl} {e : Expr} {k : KB} {t : TE} (h : PE X e t) (i : ∀ F A σ H Q,X.Am F A->RW X.K F A W H->SR X.K F A S σ->zs2 X.K F A k Q->t σ H Q) : BE X S W e k :=
 fun pins s σ H Q I zR=>by obtain ⟨F,A,x0,r,sr,q⟩:=zR; exact h pins s σ H Q I (i F A σ H Q x0 r sr q)
theorem BE.mono {X : Bc} {S : Sl} {W : Wl} {e : Expr} {k k' : KB} (h : BE X S W e k) (hk : ∀ x W,k x W->k' x W) : BE X S W e k' :=
 .of h fun F A σ H Q x0 r sr q=>⟨F,A,x0,r,sr,fun F' A' W' H' e v x r z hh=>q F' A' W' H' e v x r z (hk _ _ hh)⟩
section
variable {X : Bc} {S : Sl} {W : Wl} {k : KB}
theorem zd74 {i : Nat} {x : Str} {pos : Pos} {e : El} (hN : X.N[i]? = some x) (hv : Vis X.env.scope x) (hs : S[i]? = some (some e)) (h : k e W) (hd : (x == ("__debug__" : Str)) = false:=by decide) (hcd : (x == ("__classdict__" : Str)) = false:=by decide) : BE X S W (.Name x pos) k :=
 .of (zd35 hN hv hd hcd) fun F A σ H Q x0 r sr q=>by
  refine za0 fun gG=>?_;obtain ⟨v,h1,h2⟩:=sr.get i e hs;refine gG ?_;clear gG;exact ⟨v,h1,q.same r h2 h⟩
theorem zb1 {i j pos} (h : k (.d (.int i)) W) : BE X S W (.Constant (.int i) j pos) k:=.of zd36 fun F A σ H Q x0 r sr q=>q.same r (.dd (Rq.int i)) h
theorem zp1 {b j pos} (h : k (.d (.bool b)) W) : BE X S W (.Constant (.bool b) j pos) k:=.of ze56 fun F A σ H Q x0 r sr q=>q.same r (.dd (Rq.bl b)) h
theorem zG4 {j pos} (h : k (.d .none) W) : BE X S W (.Constant .none j pos) k:=.of zd37 fun F A σ H Q x0 r sr q=>q.same r (.dd Rq.non) h
theorem zc6 {x j pos} (h : k (.d (.str x)) W) : BE X S W (.Constant (.str x) j pos) k:=.of zd38 fun F A σ H Q x0 r sr q=>q.same r (.dd (Rq.str x)) h
theorem zK5 {x : Str} {d : PyData} {v : V} {u : Value} {pos : Pos} (hg : Gl X x) (hm : X.mg x = some u) (rv : RelV v u) (rq : ∀ F,Rq X.K F v d) (h : k (.d d) W) (hd : (x == ("__debug__" : Str)) = false:=by decide) : BE X S W (.Name x pos) k :=
 .of (zc36 hg hm rv hd) fun F A σ H Q x0 r sr q=>q.same r (.dd (rq F)) h
def rU2 (X : Bc) (f : Value->Value->Sem Value) : R2:=fun x y H Q=>∃ r,OpR X f r /\ r x y H Q
theorem op_U {f : Value->Value->Sem Value} : OpR X f (rU2 X f):=fun pins s σ H x y v u Q I rx ry zR=>by obtain ⟨r,h,q⟩:=zR; exact h pins s σ H x y v u Q I rx ry q
def OB (X : Bc) (f : Value->Value->Sem Value) (x y : El) (W : Wl) (k : KB) : Prop :=
 ∀ F A H Q vx vy,RW X.K F A W H->ElR X.K F A x vx->ElR X.K F A y vy->zs2 X.K F A k Q->rU2 X f vx vy H Q
theorem OB.of {f : Value->Value->Sem Value} {x y : El} {r2 : R2} (ho : OpR X f r2) (i : ∀ F A H Q vx vy,RW X.K F A W H->ElR X.K F A x vx->ElR X.K F A y vy->zs2 X.K F A k Q->r2 vx vy H Q) : OB X f x y W k :=
 fun F A H Q vx vy r zx zy q=>⟨r2,ho,i F A H Q vx vy r zx zy q⟩
theorem zf8 {a b : Expr} {op : Operator} {pos : Pos} (h : BE X S W a fun x W1=>BE X S W1 b fun y W2=>OB X (oy0 op) x y W2 k) : BE X S W (.BinOp a op b pos) k :=
 .of (ze67 op_U zi1 zi1) fun F A σ H Q x0 r sr q =>
  h.use x0 r sr fun F1 A1 W1 H1 x vx e1 r1 z1 h1=>h1.use (x0.trans e1) r1 (sr.ext e1) fun F2 A2 W2 H2 y vy e2 r2 z2 h2=>h2 F2 A2 H2 Q vx vy r2 (z1.ext e2) z2 (q.ext (e1.trans e2))
theorem zs3 {a b : Expr} {op : CmpOp} {pos : Pos} (hm : behindInMarks op b = false) (h : BE X S W a fun x W1=>BE X S W1 b fun y W2=>OB X (gy5 op) x y W2 k) : BE X S W (.Compare a [op] [b] pos) k :=
 .of (zc44 op_U zi1 zi1 hm) fun F A σ H Q x0 r sr q =>
  h.use x0 r sr fun F1 A1 W1 H1 x vx e1 r1 z1 h1=>h1.use (x0.trans e1) r1 (sr.ext e1) fun F2 A2 W2 H2 y vy e2 r2 z2 h2=>h2 F2 A2 H2 Q vx vy r2 (z1.ext e2) z2 (q.ext (e1.trans e2))
abbrev TB:=Bool->Wl->Prop
def tDT (X : Bc) (S : Sl) (W : Wl) (k : TB) : TT:=fun σ H Q=>∃ F A,X.Am F A /\ RW X.K F A W H /\ SR X.K F A S σ /\ ∀ F' A' W' H' b,Ext F A F' A'->RW X.K F' A' W' H'->k b W'->Q b H'
def BT (X : Bc) (S : Sl) (W : Wl) (e : Expr) (k : TB) : Prop:=PT X e (tDT X S W k)
def tUT (X : Bc) (e : Expr) : TT:=fun σ H Q=>∃ t,PT X e t /\ t σ H Q
theorem pt_U {e : Expr} : PT X e (tUT X e):=fun pins s σ H Q I zR=>by obtain ⟨t,h,q⟩:=zR; exact h pins s σ H Q I q
theorem BT.use {e : Expr} {k : TB} (h : BT X S W e k) {F : Hp} {A : List Addr} {σ : St} {H : Hp} {Q : Bool->Hp->Prop} (x0 : X.Am F A) (r : RW X.K F A W H) (s : SR X.K F A S σ)
  (q : ∀ F' A' W' H' b,Ext F A F' A'->RW X.K F' A' W' H'->k b W'->Q b H') : tUT X e σ H Q:=⟨_,h,F,A,x0,r,s,q⟩
theorem BT.of {e : Expr} {k : TB} {t : TT} (h : PT X e t) (i : ∀ F A σ H (Q : Bool->Hp->Prop),X.Am F A->RW X.K F A W H->SR X.K F A S σ->(∀ F' A' W' H' b,Ext F A F' A'->RW X.K F' A' W' H'->k b W'->Q b H')->t σ H Q) : BT X S W e k :=
 fun pins s σ H Q I zR=>by obtain ⟨F,A,x0,r,sr,q⟩:=zR; exact h pins s σ H Q I (i F A σ H Q x0 r sr q)
theorem BT.mono {e : Expr} {k k' : TB} (h : BT X S W e k) (hk : ∀ b W,k b W->k' b W) : BT X S W e k' :=
 .of h fun F A σ H Q x0 r sr q=>⟨F,A,x0,r,sr,fun F' A' W' H' b x r z=>q F' A' W' H' b x r (hk _ _ z)⟩
def BW (X : Bc) (S : Sl) (W : Wl) (e : Expr) (k : TB) : Prop:=PW X e (tDT X S W k)
def tUW (X : Bc) (e : Expr) : TT:=fun σ H Q=>∃ t,PW X e t /\ t σ H Q
theorem pw_U {e : Expr} : PW X e (tUW X e):=fun wh pins s σ H Q I zR=>by obtain ⟨t,h,q⟩:=zR; exact h wh pins s σ H Q I q
theorem BW.use {e : Expr} {k : TB} (h : BW X S W e k) {F : Hp} {A : List Addr} {σ : St} {H : Hp} {Q : Bool->Hp->Prop} (x0 : X.Am F A) (r : RW X.K F A W H) (s : SR X.K F A S σ)
  (q : ∀ F' A' W' H' b,Ext F A F' A'->RW X.K F' A' W' H'->k b W'->Q b H') : tUW X e σ H Q:=⟨_,h,F,A,x0,r,s,q⟩
theorem BW.of {e : Expr} {k : TB} {t : TT} (h : PW X e t) (i : ∀ F A σ H (Q : Bool->Hp->Prop),X.Am F A->RW X.K F A W H->SR X.K F A S σ->(∀ F' A' W' H' b,Ext F A F' A'->RW X.K F' A' W' H'->k b W'->Q b H')->t σ H Q) : BW X S W e k :=
 fun wh pins s σ H Q I zR=>by obtain ⟨F,A,x0,r,sr,q⟩:=zR; exact h wh pins s σ H Q I (i F A σ H Q x0 r sr q)
theorem BW.bt {e : Expr} {k : TB} (h : BW X S W e k) : BT X S W e k:=h.pt
theorem zf9 {e : Expr} {k : TB} (h : BE X S W e fun x W1=>∃ b,x = .d (.bool b) /\ k b W1) (he : ∀ whole,isTrue e X.env whole = (do let v <- whole; standAt e.pos; holding [v] (truthy v)):=by intro _; rfl) : BT X S W e k :=
 .of (zd39 zi1 he) fun F A σ H Q x0 r sr q=>h.use x0 r sr fun F1 A1 W1 H1 x vx e1 r1 z1 zR=>by
  refine za0 fun gG=>?_;obtain ⟨b,hb,h1⟩:=zR;subst hb;refine gG ?_;clear gG;obtain rfl:=Rq.zv3 z1;exact ⟨b,rfl,q F1 A1 W1 H1 b e1 r1 h1⟩
theorem ze0 {a b : Expr} {op : CmpOp} {pos : Pos} {k : TB} (hm : behindInMarks op b = false) (h : BE X S W a fun x W1=>BE X S W1 b fun y W2=>OB X (gy5 op) x y W2 fun z W3=>∃ c,z = .d (.bool c) /\ k c W3) : BT X S W (.Compare a [op] [b] pos) k :=
 .of (zc45 op_U zi1 zi1 hm) fun F A σ H Q x0 r sr q =>
  h.use x0 r sr fun F1 A1 W1 H1 x vx e1 r1 z1 h1=>h1.use (x0.trans e1) r1 (sr.ext e1) fun F2 A2 W2 H2 y vy e2 r2 z2 h2=>h2 F2 A2 H2 _ vx vy r2 (z1.ext e2) z2 fun F3 A3 W3 H3 z vz e3 r3 z3 zR=>by
   refine za0 fun gG=>?_;obtain ⟨c,hc,h3⟩:=zR;subst hc;refine gG ?_;clear gG;obtain rfl:=Rq.zv3 z3;exact ⟨c,rfl,q F3 A3 W3 H3 c ((e1.trans e2).trans e3) r3 h3⟩
theorem zj1 {a : Expr} {pos : Pos} {k : TB} (h : BT X S W a fun b W1=>k (!b) W1) : BT X S W (.UnaryOp .Not a pos) k :=
 .of (zd42 pt_U) fun F A σ H Q x0 r sr q=>h.use x0 r sr fun F1 A1 W1 H1 b e1 r1 h1=>q F1 A1 W1 H1 _ e1 r1 h1
theorem zv5 {a : Expr} {pos : Pos} {k : TB} (h : BT X S W a k) : BW X S W (.BoolOp .And [a] pos) k:=.of (zc38 pt_U) fun F A σ H Q x0 r sr q=>h.use x0 r sr q
theorem zs4 {a : Expr} {pos : Pos} {k : TB} (h : BT X S W a k) : BW X S W (.BoolOp .Or [a] pos) k:=.of (zd40 pt_U) fun F A σ H Q x0 r sr q=>h.use x0 r sr q
theorem zv6 {a b : Expr} {rest : List Expr} {pos : Pos} {k : TB} (h : BT X S W a fun c W1=>if c = true then BW X S W1 (.BoolOp .And (b :: rest) pos) k else k false W1) : BW X S W (.BoolOp .And (a :: b :: rest) pos) k :=
 .of (zd41 pt_U pw_U) fun F A σ H Q x0 r sr q=>h.use x0 r sr fun F1 A1 W1 H1 c e1 r1 h1=>by
  cases c with
  | true =>
   rw [if_pos rfl] at h1 ⊢;exact h1.use (x0.trans e1) r1 (sr.ext e1) fun F2 A2 W2 H2 b e2 r2 h2=>q F2 A2 W2 H2 b (e1.trans e2) r2 h2
  | false =>
   rw [if_neg (by decide)] at h1 ⊢;exact q F1 A1 W1 H1 _ e1 r1 h1
theorem zG5 {a b : Expr} {rest : List Expr} {pos : Pos} {k : TB} (h : BT X S W a fun c W1=>if c = true then k true W1 else BW X S W1 (.BoolOp .Or (b :: rest) pos) k) : BW X S W (.BoolOp .Or (a :: b :: rest) pos) k :=
 .of (ze57 pt_U pw_U) fun F A σ H Q x0 r sr q=>h.use x0 r sr fun F1 A1 W1 H1 c e1 r1 h1=>by
  cases c with
  | true =>
   rw [if_pos rfl] at h1 ⊢;exact q F1 A1 W1 H1 _ e1 r1 h1
  | false =>
   rw [if_neg (by decide)] at h1 ⊢;exact h1.use (x0.trans e1) r1 (sr.ext e1) fun F2 A2 W2 H2 b e2 r2 h2=>q F2 A2 W2 H2 b (e1.trans e2) r2 h2
theorem zO9 {op} {a : Expr} {pos : Pos} (h : BE X S W a k) : BE X S W (.BoolOp op [a] pos) k:=zd43 h
theorem zP0 {a b : Expr} {rest : List Expr} {pos : Pos} (h : BE X S W a fun x W1=>∃ c,x = .d (.bool c) /\ if c = true then BE X S W1 (.BoolOp .And (b :: rest) pos) k else k (.d (.bool false)) W1) : BE X S W (.BoolOp .And (a :: b :: rest) pos) k :=
 .of (zd44 zi1 zi1) fun F A σ H Q x0 r sr q=>h.use x0 r sr fun F1 A1 W1 H1 x vx e1 r1 z1 zR=>by
  refine za0 fun gG=>?_;obtain ⟨c,hc,h1⟩:=zR;subst hc;refine gG ?_;clear gG;obtain rfl:=Rq.zv3 z1;refine ⟨c,rfl,?_⟩;cases c with
  | true =>
   rw [if_pos rfl] at h1 ⊢;exact h1.use (x0.trans e1) r1 (sr.ext e1) fun F2 A2 W2 H2 y vy e2 r2 z2 h2=>q F2 A2 W2 H2 y vy (e1.trans e2) r2 z2 h2
  | false =>
   rw [if_neg (by decide)] at h1 ⊢;exact q F1 A1 W1 H1 _ _ e1 r1 (.dd (Rq.bl false)) h1
theorem ze85 {a b : Expr} {rest : List Expr} {pos : Pos} (h : BE X S W a fun x W1=>∃ c,x = .d (.bool c) /\ if c = true then k (.d (.bool true)) W1 else BE X S W1 (.BoolOp .Or (b :: rest) pos) k) : BE X S W (.BoolOp .Or (a :: b :: rest) pos) k :=
 .of (ze59 zi1 zi1) fun F A σ H Q x0 r sr q=>h.use x0 r sr fun F1 A1 W1 H1 x vx e1 r1 z1 zR=>by
  refine za0 fun gG=>?_;obtain ⟨c,hc,h1⟩:=zR;subst hc;refine gG ?_;clear gG;obtain rfl:=Rq.zv3 z1;refine ⟨c,rfl,?_⟩;cases c with
  | true =>
   rw [if_pos rfl] at h1 ⊢;exact q F1 A1 W1 H1 _ _ e1 r1 (.dd (Rq.bl true)) h1
  | false =>
   rw [if_neg (by decide)] at h1 ⊢;exact h1.use (x0.trans e1) r1 (sr.ext e1) fun F2 A2 W2 H2 y vy e2 r2 z2 h2=>q F2 A2 W2 H2 y vy (e1.trans e2) r2 z2 h2
theorem ze86 {c a b : Expr} {pos : Pos} (h : BT X S W c fun t W1=>if t = true then BE X S W1 a k else BE X S W1 b k) : BE X S W (.IfExp c a b pos) k :=
 .of (zb14 pt_U zi1 zi1) fun F A σ H Q x0 r sr q=>h.use x0 r sr fun F1 A1 W1 H1 c e1 r1 h1=>by
  cases c with
  | true =>
   rw [if_pos rfl] at h1 ⊢;exact h1.use (x0.trans e1) r1 (sr.ext e1) fun F2 A2 W2 H2 y vy e2 r2 z2 h2=>q F2 A2 W2 H2 y vy (e1.trans e2) r2 z2 h2
  | false =>
   rw [if_neg (by decide)] at h1 ⊢;exact h1.use (x0.trans e1) r1 (sr.ext e1) fun F2 A2 W2 H2 y vy e2 r2 z2 h2=>q F2 A2 W2 H2 y vy (e1.trans e2) r2 z2 h2
end
section
variable {X : Bc} {S : Sl} {W : Wl} {k : KB}
abbrev KA:=List El->Wl->Prop
def tDA (X : Bc) (S : Sl) (W : Wl) (k : KA) : TA:=fun σ H Q=>∃ F A,X.Am F A /\ RW X.K F A W H /\ SR X.K F A S σ /\ ∀ F' A' W' H' es vs,Ext F A F' A'->RW X.K F' A' W' H'->Paired (ElR X.K F' A') es vs->k es W'->Q vs H'
def BA (X : Bc) (S : Sl) (W : Wl) (es : List Expr) (k : KA) : Prop:=PA X es (tDA X S W k)
def tUA (X : Bc) (es : List Expr) : TA:=fun σ H Q=>∃ t,PA X es t /\ t σ H Q
theorem pa_U {es : List Expr} : PA X es (tUA X es):=fun pos pins s σ H Q I zR=>by obtain ⟨t,h,q⟩:=zR; exact h pos pins s σ H Q I q
theorem BA.use {es : List Expr} {k : KA} (h : BA X S W es k) {F : Hp} {A : List Addr} {σ : St} {H : Hp} {Q : List V->Hp->Prop} (x0 : X.Am F A) (r : RW X.K F A W H) (s : SR X.K F A S σ)
  (q : ∀ F' A' W' H' es vs,Ext F A F' A'->RW X.K F' A' W' H'->Paired (ElR X.K F' A') es vs->k es W'->Q vs H') : tUA X es σ H Q:=⟨_,h,F,A,x0,r,s,q⟩
theorem BA.of {es : List Expr} {k : KA} {t : TA} (h : PA X es t) (i : ∀ F A σ H (Q : List V->Hp->Prop),X.Am F A->RW X.K F A W H->SR X.K F A S σ->(∀ F' A' W' H' es vs,Ext F A F' A'->RW X.K F' A' W' H'->Paired (ElR X.K F' A') es vs->k es W'->Q vs H')->t σ H Q) : BA X S W es k :=
 fun pos pins s σ H Q I zR=>by obtain ⟨F,A,x0,r,sr,q⟩:=zR; exact h pos pins s σ H Q I (i F A σ H Q x0 r sr q)
theorem zk0 {k : KA} (h : k [] W) : BA X S W [] k:=.of zu9 fun F A σ H Q x0 r sr q=>q F A W H [] [] .refl r .nil h
theorem za3 {e : Expr} {es : List Expr} {k : KA} (h : BE X S W e fun x W1=>BA X S W1 es fun xs W2=>k (x :: xs) W2) (hs : fy4 (e :: es) X.env = (false,eval e X.env) :: fy4 es X.env:=by rfl) : BA X S W (e :: es) k :=
 .of (zl8 zi1 pa_U hs) fun F A σ H Q x0 r sr q=>h.use x0 r sr fun F1 A1 W1 H1 x vx e1 r1 z1 h1=>h1.use (x0.trans e1) r1 (sr.ext e1) fun F2 A2 W2 H2 xs vs e2 r2 z2 h2=>q F2 A2 W2 H2 _ _ (e1.trans e2) r2 (.cons (z1.ext e2) z2) h2
theorem za2 {e : Expr} {k : KA} (h : BE X S W e fun x W1=>k [x] W1) (hs : fy4 [e] X.env = [(false,eval e X.env)]:=by rfl) : BA X S W [e] k :=
 za3 (h.mono fun _ _ q=>zk0 q) hs
def zb4 : List PyData->List El:=List.map .d
theorem zk6 {K : ay5} {F : Hp} {A : List Addr} {ds : List PyData} {vs : List V} (h : Paired (ElR K F A) (zb4 ds) vs) : Paired (fun d v=>Rq K F v d) ds vs:=zB0 h
theorem zg8 {K : ay5} {F : Hp} {A : List Addr} {ds : List PyData} {vs : List V} (h : Paired (fun d v=>Rq K F v d) ds vs) : Paired (ElR K F A) (zb4 ds) vs:=za13 h
theorem zm0 {es : List Expr} {x1} {pos : Pos} (h : BA X S W es fun as W1=>∃ ds,as = zb4 ds /\ ds.length <= by3 /\ k (.d (.tuple ds)) W1) : BE X S W (.Tuple es x1 pos) k :=
 .of (zc03 pa_U) fun F A σ H Q x0 r sr q=>h.use x0 r sr fun F1 A1 W1 H1 as vs e1 r1 z1 zR=>by
  refine za0 fun gG=>?_;obtain ⟨ds,hd,hl,h1⟩:=zR;subst hd;refine gG ?_;clear gG;have z:=zk6 z1;exact ⟨by rw [<- zb2 z]; exact hl,fun p hp=>(q.ext e1).newT r1 hp z h1⟩
theorem zg9 {es : List Expr} {pos : Pos} (h : BA X S W es fun as W1=>∃ ds,as = zb4 ds /\ ds.length <= by3 /\ k (.d (.list ds)) W1) : BE X S W (.List es pos) k :=
 .of (zc04 pa_U) fun F A σ H Q x0 r sr q=>h.use x0 r sr fun F1 A1 W1 H1 as vs e1 r1 z1 zR=>by
  refine za0 fun gG=>?_;obtain ⟨ds,hd,hl,h1⟩:=zR;subst hd;refine gG ?_;clear gG;have z:=zk6 z1;exact ⟨by rw [<- zb2 z]; exact hl,fun p hp=>(q.ext e1).newL r1 hp z h1⟩
theorem zq8 {es : List Expr} {pos : Pos} (h : BA X S W es fun as W1=>as.length <= by3 /\ k (.o W1.length) (W1++[.lst as])) : BE X S W (.List es pos) k :=
 .of (zc04 pa_U) fun F A σ H Q x0 r sr q=>h.use x0 r sr fun F1 A1 W1 H1 as vs e1 r1 z1 ⟨hl,h1⟩ =>
  ⟨by rw [<- zb2 z1]; exact hl,fun p hp=>(q.ext e1).zX4 r1 hp (o:=.lst as) ⟨vs,rfl,z1⟩ h1⟩
def rUC (X : Bc) (f : Value) : List V->Hp->VK->Prop:=fun xs H Q=>∃ r,zj8 X f r /\ r xs H Q
theorem zc10 {f : Value} : zj8 X f (rUC X f):=fun pins s σ H xs us Q I rx zR=>by obtain ⟨r,h,q⟩:=zR; exact h pins s σ H xs us Q I rx q
def CB (X : Bc) (f : Value) (xs : List El) (W : Wl) (k : KB) : Prop:=∀ F A H Q vs,RW X.K F A W H->Paired (ElR X.K F A) xs vs->zs2 X.K F A k Q->rUC X f vs H Q
theorem CB.of {f : Value} {xs : List El} {r1 : List V->Hp->VK->Prop} (hc : zj8 X f r1) (i : ∀ F A H Q vs,RW X.K F A W H->Paired (ElR X.K F A) xs vs->zs2 X.K F A k Q->r1 vs H Q) : CB X f xs W k :=
 fun F A H Q vs r z q=>⟨r1,hc,i F A H Q vs r z q⟩
theorem zb9 {e : Expr} {es : List Expr} {x : Str} {id : String} {p pos : Pos} (hg : Gl X x) (hm : X.mg x = none) (hv : fy0 x = some (.builtin id)) (h : BA X S W (e :: es) fun as W1=>CB X (.builtin id) as W1 k) (hn : x ≠ "__name__" := by decide) (hdb : (x == ("__debug__" : Str)) = false:=by decide)
  (he : fy4 (e :: es) X.env = (false,eval e X.env) :: fy4 es X.env:=by rfl) (hpl : (backTo pos (fy4 es X.env)).any (·.1) = false:=by rfl) : BE X S W (.Call (.Name x p) (e :: es) [] pos) k :=
 .of (zp0 zc10 hg hm hv pa_U hn hdb he hpl) fun F A σ H Q x0 r sr q=>h.use x0 r sr fun F1 A1 W1 H1 as vs e1 r1 z1 h1=>h1 F1 A1 H1 Q vs r1 z1 (q.ext e1)
theorem zg3 {e : Expr} {es : List Expr} {x : Str} {T : String} {p pos : Pos} (hg : Gl X x) (hm : X.mg x = none) (hv : fy0 x = some (.type T)) (h : BA X S W (e :: es) fun as W1=>CB X (.type T) as W1 k) (hn : x ≠ "__name__" := by decide) (hdb : (x == ("__debug__" : Str)) = false:=by decide)
  (he : fy4 (e :: es) X.env = (false,eval e X.env) :: fy4 es X.env:=by rfl) (hpl : (backTo pos (fy4 es X.env)).any (·.1) = false:=by rfl) : BE X S W (.Call (.Name x p) (e :: es) [] pos) k :=
 .of (zF5 zc10 hg hm hv pa_U hn hdb he hpl) fun F A σ H Q x0 r sr q=>h.use x0 r sr fun F1 A1 W1 H1 as vs e1 r1 z1 h1=>h1 F1 A1 H1 Q vs r1 z1 (q.ext e1)
abbrev RB:=List El->Wl->KB->Prop
def spB (K : ay5) (R : RB) : Sp:=fun vs H Q _=>∃ F A W es k,RW K F A W H /\ Paired (ElR K F A) es vs /\ R es W k /\ zs2 K F A k Q
theorem za6 {R : RB} {j : Nat} {f : Addr} {fd : ey7} {ps : List Str} {x : Str} {p pos : Pos} {e : Expr} {es : List Expr} (F : zj0 X.prog X.w X.K X.mg X.base CX0 j f fd ps (spB X.K R)) (hr : zA3 j X.A) (hg : Gl X x) (hm : X.mg x = some (.ref f))
  (hk : dy0 X.K (.ref f) = true) (hb : Binds X.K fd ps []) (h : BA X S W (e :: es) fun as W1=>R as W1 k) (hdb : (x == ("__debug__" : Str)) = false:=by decide)
  (he : fy4 (e :: es) X.env = (false,eval e X.env) :: fy4 es X.env:=by rfl) (hpl : (backTo pos (fy4 es X.env)).any (·.1) = false:=by rfl) : BE X S W (.Call (.Name x p) (e :: es) [] pos) k :=
 .of (zc47 F hr hg hm hk hb .nil ze83 pa_U hdb he hpl) fun F A σ H Q x0 r sr q=>h.use x0 r sr fun F1 A1 W1 H1 as vs e1 r1 z1 h1=>by
  rw [ny4];exact ⟨F1,A1,W1,as,k,r1,z1,h1,q.ext e1⟩
def rUI (X : Bc) : R2:=fun x y H Q=>∃ r,IxR X r /\ r x y H Q
theorem ix_U : IxR X (rUI X):=fun v s pins sh σ H x y v' u Q I rx ry ⟨r,h,q⟩ hs=>h v s pins sh σ H x y v' u Q I rx ry q hs
def IB (X : Bc) (x y : El) (W : Wl) (k : KB) : Prop:=∀ F A H Q vx vy,RW X.K F A W H->ElR X.K F A x vx->ElR X.K F A y vy->zs2 X.K F A k Q->rUI X vx vy H Q
theorem IB.of {x y : El} {r2 : R2} (ho : IxR X r2) (i : ∀ F A H Q vx vy,RW X.K F A W H->ElR X.K F A x vx->ElR X.K F A y vy->zs2 X.K F A k Q->r2 vx vy H Q) : IB X x y W k :=
 fun F A H Q vx vy r zx zy q=>⟨r2,ho,i F A H Q vx vy r zx zy q⟩
theorem zd9 {a b : Expr} {pos : Pos} (hs : za02 b) (h : BE X S W a fun x W1=>BE X S W1 b fun y W2=>IB X x y W2 k) : BE X S W (.Subscript a b pos) k :=
 .of (ze79 ix_U zi1 zi1 hs) fun F A σ H Q x0 r sr q =>
  h.use x0 r sr fun F1 A1 W1 H1 x vx e1 r1 z1 h1=>h1.use (x0.trans e1) r1 (sr.ext e1) fun F2 A2 W2 H2 y vy e2 r2 z2 h2=>h2 F2 A2 H2 Q vx vy r2 (z1.ext e2) z2 (q.ext (e1.trans e2))
theorem za14 {α β : Type} {F : α->β->Prop} {l : List α} {m : List β} (p : Paired F l m) {i : Int} {a : α} (h : atI l i = some a) : ∃ b,atI m i = some b /\ F a b:=by
 unfold atI at h ⊢;rw [<- zb2 p];cases e : ixN l.length i with
 | none=>rw [e] at h; cases h
 | some j =>
  rw [e] at h;simp only [Option.bind] at h ⊢;exact zh6 p h
theorem zv7 {ds : List PyData} {i : Int} {d : PyData} (he : atI ds i = some d) (h : k (.d d) W) : IB X (.d (.list ds)) (.d (.int i)) W k:=.of za03 fun F A H Q vx vy r zx zy q=>by
 refine za0 fun gG=>?_;obtain ⟨a,vs,rfl,hs,z⟩:=Rq.zG3 zx;refine gG ?_;clear gG;obtain rfl:=Rq.ze3 zy;refine za0 fun gG=>?_;obtain ⟨v,h1,h2⟩:=za14 z he;refine gG ?_;clear gG;exact ⟨a,vs,i,v,rfl,rfl,(.inl (r.sub.rd hs)),h1,q.same r (.dd h2) h⟩
theorem zi2 {ds : List PyData} {i : Int} {d : PyData} (he : atI ds i = some d) (h : k (.d d) W) : IB X (.d (.tuple ds)) (.d (.int i)) W k:=.of zd63 fun F A H Q vx vy r zx zy q=>by
 refine za0 fun gG=>?_;obtain ⟨a,vs,rfl,hs,z⟩:=Rq.zg7 zx;refine gG ?_;clear gG;obtain rfl:=Rq.ze3 zy;refine za0 fun gG=>?_;obtain ⟨v,h1,h2⟩:=za14 z he;refine gG ?_;clear gG;exact ⟨a,vs,i,v,rfl,rfl,r.sub.zt3 hs,h1,q.same r (.dd h2) h⟩
theorem RW.at (r : RW X.K F A W H) {j : Nat} {v : V} (z : ElR X.K F A (.o j) v) {es : List El} (hj : W[j]? = some (.lst es)) : ∃ a vs,v = .ref a /\ A[j]? = some a /\ H a = some (.lst vs) /\ Paired (ElR X.K F A) es vs:=by
 refine za0 fun gG=>?_;obtain ⟨a,ha,rfl⟩:=z;obtain ⟨h,e,vs,rfl,p⟩:=r.obj j a _ ha hj;refine gG ?_;clear gG;exact ⟨a,vs,rfl,ha,e,p⟩
theorem zs5 {j : Nat} {es : List El} {i : Int} {e : El} (hj : W[j]? = some (.lst es)) (he : atI es i = some e) (h : k e W) : IB X (.o j) (.d (.int i)) W k:=.of za03 fun F A H Q vx vy r zx zy q=>by
 refine za0 fun gG=>?_;obtain ⟨a,vs,rfl,ha,hH,z⟩:=r.at zx hj;refine gG ?_;clear gG;obtain rfl:=Rq.ze3 zy;refine za0 fun gG=>?_;obtain ⟨v,h1,h2⟩:=za14 z he;refine gG ?_;clear gG;exact ⟨a,vs,i,v,rfl,rfl,SqL.of hH,h1,q.same r h2 h⟩
abbrev KO:=Option Int->Wl->Prop
def tDO (X : Bc) (S : Sl) (W : Wl) (k : KO) : TO:=fun σ H Q=>∃ F A,X.Am F A /\ RW X.K F A W H /\ SR X.K F A S σ /\ ∀ F' A' W' H' o,Ext F A F' A'->RW X.K F' A' W' H'->k o W'->Q o H'
def BO (X : Bc) (S : Sl) (W : Wl) (e : Option Expr) (k : KO) : Prop:=PO X e (tDO X S W k)
def tUO (X : Bc) (e : Option Expr) : TO:=fun σ H Q=>∃ t,PO X e t /\ t σ H Q
theorem po_U {e : Option Expr} : PO X e (tUO X e):=fun pins s σ H Q I zR=>by obtain ⟨t,h,q⟩:=zR; exact h pins s σ H Q I q
theorem BO.use {e : Option Expr} {k : KO} (h : BO X S W e k) {F : Hp} {A : List Addr} {σ : St} {H : Hp} {Q : Option Int->Hp->Prop} (x0 : X.Am F A) (r : RW X.K F A W H) (s : SR X.K F A S σ)
  (q : ∀ F' A' W' H' o,Ext F A F' A'->RW X.K F' A' W' H'->k o W'->Q o H') : tUO X e σ H Q:=⟨_,h,F,A,x0,r,s,q⟩
theorem ze4 {k : KO} (h : k none W) : BO X S W none k:=fun pins s σ H Q I zR=>by obtain ⟨F,A,x0,r,sr,q⟩:=zR; exact zc51 pins s σ H Q I (q F A W H none .refl r h)
theorem zd0 {e : Expr} {k : KO} (h : BE X S W e fun x W1=>∃ i,x = .d (.int i) /\ k (some i) W1) : BO X S W (some e) k:=fun pins s σ H Q I ⟨F,A,x0,r,sr,q⟩ =>
 zc52 zi1 pins s σ H Q I (h.use x0 r sr fun F1 A1 W1 H1 x vx e1 r1 z1 zR=>by
  refine za0 fun gG=>?_;obtain ⟨i,hi,h1⟩:=zR;subst hi;refine gG ?_;clear gG;obtain rfl:=Rq.ze3 z1
  exact ⟨i,rfl,q F1 A1 W1 H1 _ e1 r1 h1⟩)
def rUS (X : Bc) : V->Option Int->Option Int->Hp->VK->Prop:=fun x lo hi H Q=>∃ r,SlR X r /\ r x lo hi H Q
theorem sl_U : SlR X (rUS X):=fun pins s σ H x v vl vu lo hi sl Q I rx hs pl pu zR=>by obtain ⟨r,h,q⟩:=zR; exact h pins s σ H x v vl vu lo hi sl Q I rx hs pl pu q
def LB (X : Bc) (x : El) (lo hi : Option Int) (W : Wl) (k : KB) : Prop:=∀ F A H Q vx,RW X.K F A W H->ElR X.K F A x vx->zs2 X.K F A k Q->rUS X vx lo hi H Q
theorem LB.of {x : El} {lo hi : Option Int} {r1 : V->Option Int->Option Int->Hp->VK->Prop} (hc : SlR X r1) (i : ∀ F A H Q vx,RW X.K F A W H->ElR X.K F A x vx->zs2 X.K F A k Q->r1 vx lo hi H Q) : LB X x lo hi W k :=
 fun F A H Q vs r z q=>⟨r1,hc,i F A H Q vs r z q⟩
theorem zc8 {e : Expr} {lo hi : Option Expr} {p2 pos : Pos} (h : BE X S W e fun x W1=>BO X S W1 lo fun l W2=>BO X S W2 hi fun u W3=>LB X x l u W3 k) : BE X S W (.Subscript e (.Slice lo hi none p2) pos) k :=
 .of (zb22 sl_U zi1 po_U po_U) fun F A σ H Q x0 r sr q =>
  h.use x0 r sr fun F1 A1 W1 H1 x vx e1 r1 z1 h1=>h1.use (x0.trans e1) r1 (sr.ext e1) fun F2 A2 W2 H2 l e2 r2 h2=>h2.use (x0.trans (e1.trans e2)) r2 (sr.ext (e1.trans e2)) fun F3 A3 W3 H3 u e3 r3 h3 =>
   h3 F3 A3 H3 Q vx r3 (z1.ext (e2.trans e3)) (q.ext ((e1.trans e2).trans e3))
def zm1 {α : Type} (xs : List α) (lo hi : Option Int) : List α:=(xs.drop (HT.sIx xs.length 0 lo)).take (HT.sIx xs.length xs.length hi - HT.sIx xs.length 0 lo)
theorem zG6 {α : Type} {F : α->V->Prop} {l : List α} {m : List V} (p : Paired F l m) (lo hi : Option Int) : Paired F (zm1 l lo hi) (zK1 m lo hi):=by
 unfold zm1 zK1;rw [zb2 p];exact za11 _ (za12 _ p)
theorem zc62 : SlR X (fun x lo hi H Q=>∃ a xs,x = .ref a /\ SqT X.K H a xs /\ ((∀ p,H p = none->Q (.ref p) (upd H p (.tup (zK1 xs lo hi)))) /\ (zK1 xs lo hi = xs->Q (.ref a) H))):=by
 intro pins s σ H x v vl vu lo hi sl Q I rx hs pl pu h;refine za0 fun gG=>?_;obtain ⟨a,xs,rfl,hq,h1,h2⟩:=h;refine gG ?_;clear gG
 by_cases hw : HT.sIx xs.length 0 lo = 0 /\ HT.sIx xs.length xs.length hi = xs.length
 ·cases rx;refine za0 fun gG=>?_;obtain ⟨its,r,ht,hz⟩:=I.tuple hq;refine gG ?_;clear gG;have hlen : its.toArray.size = xs.length:=by rw [cy1]; exact r.length.symm
  refine ⟨"tuple",_,hy8.lookup,ht.typeIs,?_⟩;refine HT.zq7 ht hs pl pu (by rw [hlen]; exact hw) ?_;exact ⟨.ref a,H,I,rfl,h2 (zb33 hw)⟩
 ·exact zc05 pins s σ H (.ref a) v vl vu lo hi sl Q I rx hs pl pu ⟨a,xs,rfl,hq,hw,h1⟩
theorem zn5 {ds : List PyData} {lo hi : Option Int} (h : k (.d (.tuple (zm1 ds lo hi))) W) : LB X (.d (.tuple ds)) lo hi W k:=.of zc62 fun F A H Q vx r zx q=>by
 refine za0 fun gG=>?_;obtain ⟨a,vs,rfl,hs,z⟩:=Rq.zg7 zx;refine gG ?_;clear gG;refine ⟨a,vs,rfl,r.sub.zt3 hs,fun p hp=>q.newT r hp (zG6 z lo hi) h,fun e=>q.same r (.dd (Rq.tup hs (Rqs.of ?_))) h⟩;have:=zG6 z lo hi;rw [e] at this;exact this
theorem zG7 {ds : List PyData} {lo hi : Option Int} (h : k (.d (.list (zm1 ds lo hi))) W) : LB X (.d (.list ds)) lo hi W k:=.of zK2 fun F A H Q vx r zx q=>by
 refine za0 fun gG=>?_;obtain ⟨a,vs,rfl,hs,z⟩:=Rq.zG3 zx;refine gG ?_;clear gG;exact ⟨a,vs,rfl,(.inl (r.sub.rd hs)),fun p hp=>q.newL r hp (zG6 z lo hi) h⟩
theorem za15 {j : Nat} {ds : List PyData} {lo hi : Option Int} (hj : W[j]? = some (.lst (zb4 ds))) (h : k (.d (.list (zm1 ds lo hi))) W) : LB X (.o j) lo hi W k:=.of zK2 fun F A H Q vx r zx q=>by
 refine za0 fun gG=>?_;obtain ⟨a,vs,rfl,ha,hH,z⟩:=r.at zx hj;refine gG ?_;clear gG;exact ⟨a,vs,rfl,SqL.of hH,fun p hp=>q.newL r hp (zG6 (zk6 z) lo hi) h⟩
end
section
variable {X : Bc} {S : Sl} {W : Wl} {k : KB}
theorem zP1 {f : Value->Value->Sem Value} {C : Int->Int->Prop} {g : Int->Int->Int} (ho : OpR X f (rI C fun i j=>.int (g i j))) {i j : Int} (hc : C i j) (h : k (.d (.int (g i j))) W) : OB X f (.d (.int i)) (.d (.int j)) W k :=
 .of ho fun F A H Q vx vy r zx zy q=>by
  obtain rfl:=Rq.ze3 zx;obtain rfl:=Rq.ze3 zy;exact ⟨i,j,rfl,rfl,hc,q.same r (.dd (Rq.int _)) h⟩
theorem za16 {f : Value->Value->Sem Value} {g : Int->Int->Int} (ho : OpR X f (rI0 fun i j=>.int (g i j))) {i j : Int} (h : k (.d (.int (g i j))) W) : OB X f (.d (.int i)) (.d (.int j)) W k :=
 .of ho fun F A H Q vx vy r zx zy q=>by
  obtain rfl:=Rq.ze3 zx;obtain rfl:=Rq.ze3 zy;exact ⟨i,j,rfl,rfl,q.same r (.dd (Rq.int _)) h⟩
theorem zK6 {f : Value->Value->Sem Value} {g : Int->Int->Bool} (ho : OpR X f (rI0 fun i j=>.bl (g i j))) {i j : Int} (h : k (.d (.bool (g i j))) W) : OB X f (.d (.int i)) (.d (.int j)) W k :=
 .of ho fun F A H Q vx vy r zx zy q=>by
  obtain rfl:=Rq.ze3 zx;obtain rfl:=Rq.ze3 zy;exact ⟨i,j,rfl,rfl,q.same r (.dd (Rq.bl _)) h⟩
theorem zn6 {i j : Int} (h : k (.d (.int (i + j))) W) : OB X (oy0 .Add) (.d (.int i)) (.d (.int j)) W k:=za16 zd50 h
theorem zc11 {i j : Int} (h : k (.d (.int (i - j))) W) : OB X (oy0 .Sub) (.d (.int i)) (.d (.int j)) W k:=za16 zd51 h
theorem zc12 {i j : Int} (hc : CMul i j) (h : k (.d (.int (i * j))) W) : OB X (oy0 .Mult) (.d (.int i)) (.d (.int j)) W k:=zP1 zd52 hc h
theorem za17 {i j : Int} (hc : gy8 i <= 2 ^ 20 /\ gy8 j <= 2 ^ 20) (h : k (.d (.int (i * j))) W) : OB X (oy0 .Mult) (.d (.int i)) (.d (.int j)) W k:=zP1 zc60 hc h
theorem zd76 {i j : Int} (hc : 0 < j) (h : k (.d (.int (i % j))) W) : OB X (oy0 .Mod) (.d (.int i)) (.d (.int j)) W k:=zP1 zd53 hc h
theorem zc13 {i j : Int} (hc : CPow i j) (h : k (.d (.int (i ^ j.toNat))) W) : OB X (oy0 .Pow) (.d (.int i)) (.d (.int j)) W k:=zP1 zd54 hc h
theorem zc63 {i j : Int} (h : k (.d (.bool (decide (i < j)))) W) : OB X (gy5 .Lt) (.d (.int i)) (.d (.int j)) W k:=zK6 ze70 h
theorem zd77 {i j : Int} (h : k (.d (.bool (decide (i <= j)))) W) : OB X (gy5 .LtE) (.d (.int i)) (.d (.int j)) W k:=zK6 ze71 h
theorem zd78 {i j : Int} (h : k (.d (.bool (decide (j < i)))) W) : OB X (gy5 .Gt) (.d (.int i)) (.d (.int j)) W k:=zK6 ze72 h
theorem zc64 : OpR X (oy0 .Add) (fun x y H Q=>∃ a b xs ys,x = .ref a /\ y = .ref b /\ SqT X.K H a xs /\ SqT X.K H b ys /\ xs.length + ys.length <= by3 /\ (xs = []->Q (.ref b) H) /\ (ys = []->Q (.ref a) H) /\ ∀ p,H p = none->Q (.ref p) (upd H p (.tup (xs++ys)))):=by
 intro pins s σ H x y v u Q I rx ry h;refine za0 fun gG=>?_;obtain ⟨a,b,xs,ys,rfl,rfl,ha,hb,hz,q1,q2,q3⟩:=h;refine gG ?_;clear gG
 by_cases hx : xs = []
 ·cases rx;cases ry;refine za0 fun gG=>?_;obtain ⟨its,r1,p1,_⟩:=I.tuple ha;obtain ⟨its2,r2,p2,_⟩:=I.tuple hb;refine gG ?_;clear gG;exact HT.zb32 p1 p2 (r1.zA4.mpr hx) ⟨.ref b,H,I,rfl,q1 hx⟩
 ·exact zc53 pins s σ H (.ref a) (.ref b) v u Q I rx ry ⟨a,b,xs,ys,rfl,rfl,ha,hb,hx,hz,q2,fun _ p hp=>q3 p hp⟩
theorem zq9 {x y : List PyData} (hl : x.length + y.length <= by3) (h : k (.d (.tuple (x++y))) W) : OB X (oy0 .Add) (.d (.tuple x)) (.d (.tuple y)) W k:=.of zc64 fun F A H Q vx vy r zx zy q=>by
 refine za0 fun gG=>?_;obtain ⟨a,xs,rfl,hs,z⟩:=Rq.zg7 zx;obtain ⟨b,ys,rfl,hs',z'⟩:=Rq.zg7 zy;refine gG ?_;clear gG;refine ⟨a,b,xs,ys,rfl,rfl,r.sub.zt3 hs,r.sub.zt3 hs',by rw [<- zb2 z,<- zb2 z']; exact hl,fun e=>?_,fun e=>?_,fun p hp=>q.newT r hp (zy6 z z') h⟩
 ·subst e;have : x = []:=List.length_eq_zero_iff.mp (zb2 z);subst this;exact q.same r zy h
 ·subst e;have : y = []:=List.length_eq_zero_iff.mp (zb2 z');subst this;rw [ny4] at h;exact q.same r zx h
theorem zc65 : OpR X (oy0 .Add) (fun x y H Q=>∃ a b xs ys,x = .ref a /\ y = .ref b /\ Rd H a (.lst xs) /\ Rd H b (.lst ys) /\ xs.length + ys.length <= by3 /\ ∀ p,H p = none->Q (.ref p) (upd H p (.lst (xs++ys)))):=by
 intro pins s σ H x y v u Q I rx ry h;refine za0 fun gG=>?_;obtain ⟨l,b,xs,zs,rfl,rfl,hx,hz,hn,q⟩:=h;refine gG ?_;clear gG;cases rx;cases ry;refine za0 fun gG=>?_;obtain ⟨z,its,n,r,e⟩:=hx.ok I.hok;obtain ⟨z2,its2,n2,r2,e2⟩:=hz.ok I.hok;refine gG ?_;clear gG;refine PySem.P.add_list e e2 ?_ (by rw [cy1,cy1,<- r.length,<- r2.length]; omega);have ea : its.toArray++its2.toArray = (its++its2).toArray:=by simp
 rw [ea];exact ⟨.ref _,_,I.lnew (t':=s.toks) (r.append r2) (by rw [cy5]; omega),rfl,q _ I.fresh⟩
def zX5 (W : Wl) (x : El) (ds : List PyData) : Prop:=x = .d (.list ds) \/ ∃ j,x = .o j /\ W[j]? = some (.lst (zb4 ds))
theorem RW.lst {F : Hp} {A : List Addr} {H : Hp} (r : RW X.K F A W H) {x : El} {v : V} {ds : List PyData} (z : ElR X.K F A x v) (h : zX5 W x ds) : ∃ a vs,v = .ref a /\ Rd H a (.lst vs) /\ Paired (fun d v=>Rq X.K F v d) ds vs:=by
 rcases h with rfl | ⟨j,rfl,hj⟩
 ·refine za0 fun gG=>?_;obtain ⟨a,vs,rfl,hs,z⟩:=Rq.zG3 z;refine gG ?_;clear gG;exact ⟨a,vs,rfl,r.sub.rd hs,z⟩
 ·refine za0 fun gG=>?_;obtain ⟨a,vs,rfl,ha,hH,z⟩:=r.at z hj;refine gG ?_;clear gG;exact ⟨a,vs,rfl,.inl hH,zk6 z⟩
theorem zB1 {x y : El} {xs ys : List PyData} (hx : zX5 W x xs) (hy : zX5 W y ys) (hl : xs.length + ys.length <= by3) (h : k (.d (.list (xs++ys))) W) : OB X (oy0 .Add) x y W k:=.of zc65 fun F A H Q vx vy r zx zy q=>by
 refine za0 fun gG=>?_;obtain ⟨a,vs,rfl,hs,z⟩:=r.lst zx hx;obtain ⟨b,ws,rfl,hs',z'⟩:=r.lst zy hy;refine gG ?_;clear gG;exact ⟨a,b,vs,ws,rfl,rfl,hs,hs',by rw [<- zb2 z,<- zb2 z']; exact hl,fun p hp=>q.newL r hp (zy6 z z') h⟩
theorem zc14 (neg : Bool) (hu : X.A.units + 64 < cLine) : OpR X (gy5 (if neg then .NotEq else .Eq)) (fun x y H Q=>∃ d e,Rq X.K H x d /\ Rq X.K H y e /\ Dat d /\ Dat e /\ Q (.bl (if neg then !py8 d e else py8 d e)) H):=by
 intro pins s σ H x y v u Q I rx ry h;refine za0 fun gG=>?_;obtain ⟨d,e,rd,re,hd,he,q⟩:=h;obtain ⟨as,h1⟩:=Rq.reads I d hd.lay rd rx;obtain ⟨bs,h2⟩:=Rq.reads I e he.lay re ry;refine gG ?_;clear gG;cases neg with
 | false=>exact SeqAt.compareEq_reads h1 h2 hd.lay he.lay (by have:=hd.dep; omega) ⟨.bl _,H,I,rfl,q⟩
 | true=>exact SeqAt.compareNe_reads h1 h2 hd.lay he.lay (by have:=hd.dep; omega) ⟨.bl _,H,I,rfl,q⟩
def dat (W : Wl) (x : El) (d : PyData) : Prop:=x = .d d \/ ∃ ds,d = .list ds /\ zX5 W x ds
theorem RW.dat {F : Hp} {A : List Addr} {H : Hp} (r : RW X.K F A W H) {x : El} {v : V} {d : PyData} (z : ElR X.K F A x v) (h : dat W x d) : Rq X.K H v d:=by
 rcases h with rfl | ⟨ds,rfl,h⟩
 ·exact Rq.same r.sub _ z
 ·refine za0 fun gG=>?_;obtain ⟨a,vs,rfl,hs,z⟩:=r.lst z h;refine gG ?_;clear gG;exact .lst hs (Rqs.of (zg6 (fun _ _ t=>Rq.same r.sub _ t) z))
theorem zd79 {x y : El} {d e : PyData} (hu : X.A.units + 64 < cLine) (hx : dat W x d) (hy : dat W y e) (hd : Dat d) (he : Dat e) (h : k (.d (.bool (py8 d e))) W) : OB X (gy5 .Eq) x y W k :=
 .of (zc14 false hu) fun F A H Q vx vy r zx zy q=>⟨d,e,r.dat zx hx,r.dat zy hy,hd,he,q.same r (.dd (Rq.bl _)) h⟩
theorem zT7 {x y : El} {d e : PyData} (hu : X.A.units + 64 < cLine) (hx : dat W x d) (hy : dat W y e) (hd : Dat d) (he : Dat e) (h : k (.d (.bool (!py8 d e))) W) : OB X (gy5 .NotEq) x y W k :=
 .of (zc14 true hu) fun F A H Q vx vy r zx zy q=>⟨d,e,r.dat zx hx,r.dat zy hy,hd,he,q.same r (.dd (Rq.bl _)) h⟩
theorem zd80 {i j : Int} (h : k (.d (.bool (decide (i = j)))) W) : OB X (gy5 .Eq) (.d (.int i)) (.d (.int j)) W k:=.of zd56 fun F A H Q vx vy r zx zy q=>by
 obtain rfl:=Rq.ze3 zx;obtain rfl:=Rq.ze3 zy;exact ⟨rfl,q.same r (.dd (by have : decide (V.int i = V.int j) = decide (i = j):=(by simp); rw [this]; exact Rq.bl _)) h⟩
theorem zd81 {i j : Int} (h : k (.d (.bool (!decide (i = j)))) W) : OB X (gy5 .NotEq) (.d (.int i)) (.d (.int j)) W k:=.of zc42 fun F A H Q vx vy r zx zy q=>by
 obtain rfl:=Rq.ze3 zx;obtain rfl:=Rq.ze3 zy;exact ⟨rfl,q.same r (.dd (by have : decide (V.int i = V.int j) = decide (i = j):=(by simp); rw [this]; exact Rq.bl _)) h⟩
theorem zn7 {i j : Str} (h : k (.d (.bool (decide (i = j)))) W) : OB X (gy5 .Eq) (.d (.str i)) (.d (.str j)) W k:=.of zd56 fun F A H Q vx vy r zx zy q=>by
 obtain rfl:=Rq.zf7 zx;obtain rfl:=Rq.zf7 zy;exact ⟨rfl,q.same r (.dd (by have : decide (V.str i = V.str j) = decide (i = j):=(by simp); rw [this]; exact Rq.bl _)) h⟩
theorem za18 {i j : Str} (h : k (.d (.bool (!decide (i = j)))) W) : OB X (gy5 .NotEq) (.d (.str i)) (.d (.str j)) W k:=.of zc42 fun F A H Q vx vy r zx zy q=>by
 obtain rfl:=Rq.zf7 zx;obtain rfl:=Rq.zf7 zy;exact ⟨rfl,q.same r (.dd (by have : decide (V.str i = V.str j) = decide (i = j):=(by simp); rw [this]; exact Rq.bl _)) h⟩
theorem zd82 {i j : Bool} (h : k (.d (.bool (!decide (i = j)))) W) : OB X (gy5 .NotEq) (.d (.bool i)) (.d (.bool j)) W k:=.of zc42 fun F A H Q vx vy r zx zy q=>by
 obtain rfl:=Rq.zv3 zx;obtain rfl:=Rq.zv3 zy;exact ⟨rfl,q.same r (.dd (by have : decide (V.bl i = V.bl j) = decide (i = j):=(by simp); rw [this]; exact Rq.bl _)) h⟩
def isNone : PyData->Bool
 | .none=>true
 | _=>false
theorem zd83 {x : PyData} (h : k (.d (.bool (isNone x))) W) : OB X (gy5 .Is) (.d x) (.d .none) W k:=.of zd57 fun F A H Q vx vy r zx zy q=>by
 obtain rfl:=Rq.zc08 zy;refine ⟨rfl,q.same r (.dd ?_) h⟩
 have : decide (vx = V.non) = isNone x:=by
  have zx : Rq X.K F vx x:=zx;cases zx <;> simp [isNone]
 rw [this];exact Rq.bl _
theorem za19 {x : PyData} (h : k (.d (.bool (!isNone x))) W) : OB X (gy5 .IsNot) (.d x) (.d .none) W k:=.of zc43 fun F A H Q vx vy r zx zy q=>by
 obtain rfl:=Rq.zc08 zy;refine ⟨rfl,q.same r (.dd ?_) h⟩
 have : decide (vx = V.non) = isNone x:=by
  have zx : Rq X.K F vx x:=zx;cases zx <;> simp [isNone]
 rw [this];exact Rq.bl _
theorem zd84 {i j : Str} (h : k (.d (.bool (!(wy8 j i 0 j.length 1).isEmpty))) W) : OB X (gy5 .In) (.d (.str i)) (.d (.str j)) W k:=.of zZ4 fun F A H Q vx vy r zx zy q=>by
 obtain rfl:=Rq.zf7 zx;obtain rfl:=Rq.zf7 zy;exact ⟨i,j,rfl,rfl,q.same r (.dd (Rq.bl _)) h⟩
theorem za20 {xs : List Str} {x : Str} : inV (.str x) (xs.map V.str) = decide (x∈xs):=by
 unfold inV;rw [List.any_map]
 induction xs with
 | nil=>simp
 | cons a r ih =>
  rw [sy3,ih]
  have : (eqV (V.str a) (V.str x)) = decide (x = a):=by
   by_cases e : a = x
   ·subst e; simp [eqV]
   ·have e' : ¬ x = a:=fun z=>e z.symm;simp [eqV,e,e']
  simp [this]
theorem zv8 {K : ay5} {F : Hp} : ∀ {xs : List Str} {vs : List V},Paired (fun d v=>Rq K F v d) (xs.map hy3) vs->vs = xs.map V.str
 | [],_,.nil=>rfl
 | x :: xs,_,.cons r t=>by rw [zv8 t,Rq.zf7 r]; rfl
theorem za21 {K : ay5} {F : Hp} : ∀ {xs : List Int} {vs : List V},Paired (fun d v=>Rq K F v d) (xs.map PyData.int) vs->vs = xs.map V.int
 | [],_,.nil=>rfl
 | x :: xs,_,.cons r t=>by rw [za21 t,Rq.ze3 r]; rfl
theorem zc15 {K : ay5} {F : Hp} : ∀ {xs : List Bool} {vs : List V},Paired (fun d v=>Rq K F v d) (xs.map PyData.bool) vs->vs = xs.map V.bl
 | [],_,.nil=>rfl
 | x :: xs,_,.cons r t=>by rw [zc15 t,Rq.zv3 r]; rfl
theorem zG8 {xs : List Str} : (xs.map V.str).all zA6 = true:=by rw [List.all_map]; exact List.all_eq_true.mpr fun _ _=>rfl
theorem zc66 {x : Str} {y : El} {xs : List Str} (hy : zX5 W y (xs.map .str) \/ y = .d (.tuple (xs.map .str))) (h : k (.d (.bool (!decide (x∈xs)))) W) : OB X (gy5 .NotIn) (.d (.str x)) y W k:=.of zF7 fun F A H Q vx vy r zx zy q=>by
 obtain rfl:=Rq.zf7 zx;rcases hy with hy | rfl
 ·refine za0 fun gG=>?_;obtain ⟨a,vs,rfl,hs,z⟩:=r.lst zy hy;refine gG ?_;clear gG;obtain rfl:=zv8 z;refine ⟨a,_,rfl,.inl (.inl hs),rfl,zG8,?_⟩;rw [if_pos rfl,za20];exact q.same r (.dd (Rq.bl _)) h
 ·refine za0 fun gG=>?_;obtain ⟨a,vs,rfl,hs,z⟩:=Rq.zg7 zy;refine gG ?_;clear gG;obtain rfl:=zv8 z;refine ⟨a,_,rfl,.inr (r.sub.zt3 hs),rfl,zG8,?_⟩;rw [if_pos rfl,za20];exact q.same r (.dd (Rq.bl _)) h
theorem zi3 {α β : Type} {F : α->β->Prop} {a : α} {m : List β} (h : Paired F [a] m) : ∃ b,m = [b] /\ F a b:=by
 cases h with
 | cons r t=>cases t; exact ⟨_,rfl,r⟩
theorem za22 {α β : Type} {F : α->β->Prop} {a b : α} {m : List β} (h : Paired F [a,b] m) : ∃ c d,m = [c,d] /\ F a c /\ F b d:=by
 cases h with
 | cons r t=>obtain ⟨d,rfl,q⟩:=zi3 t; exact ⟨_,_,rfl,r,q⟩
theorem zc67 {x : Str} (hl : x.length <= by3) (h : k (.d (.int x.length)) W) : CB X (.builtin "len") [.d (.str x)] W k:=.of zF8 fun F A H Q vs r zs q=>by
 refine za0 fun gG=>?_;obtain ⟨v,rfl,z⟩:=zi3 zs;refine gG ?_;clear gG;obtain rfl:=Rq.zf7 z;exact ⟨x,rfl,hl,q.same r (.dd (Rq.int _)) h⟩
theorem zh4 {ds : List PyData} (h : k (.d (.int ds.length)) W) : CB X (.builtin "len") [.d (.tuple ds)] W k:=.of zs0 fun F A H Q vs r zs q=>by
 refine za0 fun gG=>?_;obtain ⟨v,rfl,z⟩:=zi3 zs;obtain ⟨a,vs,rfl,hs,z⟩:=Rq.zg7 z;refine gG ?_;clear gG;exact ⟨a,vs,rfl,.inr (r.sub.zt3 hs),by rw [<- zb2 z]; exact q.same r (.dd (Rq.int _)) h⟩
theorem zv9 {ds : List PyData} {x : El} (hx : zX5 W x ds) (h : k (.d (.int ds.length)) W) : CB X (.builtin "len") [x] W k:=.of zs0 fun F A H Q vs r zs q=>by
 refine za0 fun gG=>?_;obtain ⟨v,rfl,z⟩:=zi3 zs;obtain ⟨a,vs,rfl,hs,z⟩:=r.lst z hx;refine gG ?_;clear gG;exact ⟨a,vs,rfl,.inl (.inl hs),by rw [<- zb2 z]; exact q.same r (.dd (Rq.int _)) h⟩
theorem za23 {i j : Int} (hc : CDiv i j) (h : k (.d (.tuple [.int (i / j),.int (i % j)])) W) : CB X (.builtin "divmod") [.d (.int i),.d (.int j)] W k:=.of zK0 fun F A H Q vs r zs q=>by
 refine za0 fun gG=>?_;obtain ⟨u,v,rfl,z1,z2⟩:=za22 zs;refine gG ?_;clear gG;obtain rfl:=Rq.ze3 z1;obtain rfl:=Rq.ze3 z2;exact ⟨i,j,rfl,hc,fun p hp=>q.newT r hp (.cons (Rq.int _) (.cons (Rq.int _) .nil)) h⟩
theorem zc68 {b : Bool} (h : k (.d (.int (if b then 1 else 0))) W) : CB X (.type "int") [.d (.bool b)] W k:=.of zZ5 fun F A H Q vs r zs q=>by
 refine za0 fun gG=>?_;obtain ⟨v,rfl,z⟩:=zi3 zs;refine gG ?_;clear gG;obtain rfl:=Rq.zv3 z;exact .inr ⟨b,rfl,q.same r (.dd (Rq.int _)) h⟩
theorem za24 {x : El} {bs : List Bool} (hc : X.calm = true) (hx : zX5 W x (bs.map .bool)) (h : k (.d (.bool (bs.all id))) W) : CB X (.builtin "all") [x] W k:=.of (zb29 hc) fun F A H Q vs r zs q=>by
 refine za0 fun gG=>?_;obtain ⟨v,rfl,z⟩:=zi3 zs;obtain ⟨a,vs,rfl,hs,z⟩:=r.lst z hx;refine gG ?_;clear gG;obtain rfl:=zc15 z;exact ⟨a,bs,rfl,.inl hs,q.same r (.dd (Rq.bl _)) h⟩
theorem zr0 {x : El} {ds : List PyData} (hx : zX5 W x ds) (h : k (.d (.tuple ds)) W) : CB X (.type "tuple") [x] W k:=.of zA8 fun F A H Q vs r zs q=>by
 refine za0 fun gG=>?_;obtain ⟨v,rfl,z⟩:=zi3 zs;obtain ⟨a,vs,rfl,hs,z⟩:=r.lst z hx;refine gG ?_;clear gG;exact ⟨a,vs,rfl,.inl ⟨.inl hs,fun l hl=>q.newT r hl z h⟩⟩
theorem zK7 {ds : List PyData} (h : k (.o W.length) (W++[.lst (zb4 ds)])) : CB X (.type "list") [.d (.tuple ds)] W k:=.of zF9 fun F A H Q vs r zs q=>by
 refine za0 fun gG=>?_;obtain ⟨v,rfl,z⟩:=zi3 zs;obtain ⟨a,vs,rfl,hs,z⟩:=Rq.zg7 z;refine gG ?_;clear gG;exact ⟨a,vs,rfl,.inr (r.sub.zt3 hs),fun l hl=>q.zX4 r hl (o:=.lst (zb4 ds)) ⟨_,rfl,zg8 z⟩ h⟩
def tyD : PyData->String
 | .none => "NoneType" | .bool _ => "bool" | .int _ => "int" | .str _ => "str" | .list _ => "list" | .tuple _ => "tuple" | .dict _ => "dict"
theorem zb37 : zj8 X (.builtin "isinstance") (fun xs H Q=>∃ x d T b,xs = [x,.ty T] /\ Rq X.K H x d /\ PySem.W.kitOne X.K (.type (tyD d)) (.type T) = some b /\ Q (.bl b) H):=by
 intro pins s σ H xs us Q I r h;refine za0 fun gG=>?_;obtain ⟨x,d,T,b,rfl,rd,e,q⟩:=h;obtain ⟨u,v,rfl,ru,rv⟩:=r.two;refine gG ?_;clear gG;cases (show v = py6 T from rv);have fin : ∀ tk,EP X pins σ Q (.bool b) { s with toks:=tk }:=fun tk=>⟨.bl b,H,I.tok tk,rfl,q⟩
 cases rd with
 | non=>exact zi0 I ru .non e fin
 | bl y=>exact zi0 I ru (.bl y) e fin
 | int i=>exact zi0 I ru (.int i) e fin
 | str y=>exact zi0 I ru (.str y) e fin
 | lst h _ =>
  rcases h with h | ⟨o,h⟩
  ·exact zi0 I ru (.lst h) e fin
  ·exact zi0 I ru (.frz h) e fin
 | @tup a vs ds h _ =>
  cases (show u = cy9 a from ru);refine za0 fun gG=>?_;obtain ⟨its,_,⟨o,h1,h2,_⟩,_⟩:=I.tuple h;refine gG ?_;clear gG;exact jy3 PySem.W.kitx_tuple I.kIn ⟨o,h1,h2⟩ e (fun z=>nomatch z) fin
 | dct h=>exact zi0 I ru (.dK h) e fin
theorem kitD (K : ay5) (d : PyData) (T : String) (h : T = "int" \/ T = "bool" \/ T = "str" \/ T = "tuple" \/ T = "list" \/ T = "dict") : PySem.W.kitOne K (.type (tyD d)) (.type T) = some (tyD d == T || (tyD d == "bool" && T == "int")):=by
 cases d <;> rcases h with rfl | rfl | rfl | rfl | rfl | rfl <;> rfl
def isD (d : PyData) (T : String) : Bool:=tyD d == T || (tyD d == "bool" && T == "int")
theorem zk1 {e : Expr} {T : Str} {Ts : String} {p p' pos : Pos} (hg : Gl X "isinstance") (hm : X.mg "isinstance" = none) (hv : fy0 "isinstance" = some (.builtin "isinstance")) (hgT : Gl X T) (hmT : X.mg T = none) (hvT : fy0 T = some (.type Ts))
  (hT : Ts = "int" \/ Ts = "bool" \/ Ts = "str" \/ Ts = "tuple" \/ Ts = "list" \/ Ts = "dict") (h : BE X S W e fun x W1=>∃ d,dat W1 x d /\ k (.d (.bool (isD d Ts))) W1)
  (hn : T ≠ "__name__" := by decide) (hd : (T == ("__debug__" : Str)) = false:=by decide)
  (hs : fy4 [e,.Name T p'] X.env = (false,eval e X.env) :: fy4 [.Name T p'] X.env:=by rfl) (hs2 : fy4 [.Name T p'] X.env = [(false,eval (.Name T p') X.env)]:=by rfl) (hpl : (backTo pos (fy4 [.Name T p'] X.env)).any (·.1) = false:=by rfl) :
  BE X S W (.Call (.Name "isinstance" p) [e,.Name T p'] [] pos) k :=
 .of (zp0 zb37 hg hm hv (zl8 zi1 (zl8 (zc37 (v:=.ty Ts) hgT hmT hvT rfl hn hd) zu9 hs2) hs) (by decide) (by decide) hs hpl) fun F A σ H Q x0 r sr q=>h.use x0 r sr fun F1 A1 W1 H1 x vx e1 r1 z1 zR=>by
  refine za0 fun gG=>?_;obtain ⟨d,hd,h1⟩:=zR;refine gG ?_;clear gG;exact ⟨vx,d,Ts,_,rfl,r1.dat z1 hd,kitD X.K d Ts hT,(q.ext e1).same r1 (.dd (Rq.bl _)) h1⟩
def rUM (X : Bc) (id : String) : V->List V->Hp->VK->Prop:=fun x xs H Q=>∃ r,MtR X id r /\ r x xs H Q
theorem mt_U {id : String} : MtR X id (rUM X id):=fun pins s σ H x xs v us Q I rx rs zR=>by obtain ⟨r,h,q⟩:=zR; exact h pins s σ H x xs v us Q I rx rs q
def MB (X : Bc) (T id : String) (x : El) (xs : List El) (W : Wl) (k : KB) : Prop:=∀ F A H Q v vs,RW X.K F A W H->ElR X.K F A x v->Paired (ElR X.K F A) xs vs->zs2 X.K F A k Q->rUM X id v vs H Q
theorem MB.of {T id : String} {x : El} {xs : List El} {r1 : V->List V->Hp->VK->Prop} (hc : MtR X id r1) (i : ∀ F A H Q v vs,RW X.K F A W H->ElR X.K F A x v->Paired (ElR X.K F A) xs vs->zs2 X.K F A k Q->r1 v vs H Q) : MB X T id x xs W k :=
 fun F A H Q v vs r zx z q=>⟨r1,hc,i F A H Q v vs r zx z q⟩
def isTy (W : Wl) : El->String->Prop
 | .d (.str _),T=>T = "str"
 | .d (.list _),T=>T = "list"
 | .o j,T=>(T = "list" /\ ∃ es,W[j]? = some (.lst es)) \/ (T = "dict" /\ ((∃ es,W[j]? = some (.dK es)) \/ ∃ es,W[j]? = some (.dT es)))
 | _,_=>False
theorem RW.ty {F : Hp} {A : List Addr} {H : Hp} (r : RW X.K F A W H) {x : El} {v : V} {T : String} (z : ElR X.K F A x v) (h : isTy W x T) : tyV X.K T v H:=by
 cases x with
 | o j =>
  refine za0 fun gG=>?_;obtain ⟨a,ha,rfl⟩:=z;refine gG ?_;clear gG;rcases h with ⟨rfl,es,hj⟩ | ⟨rfl,⟨es,hj⟩ | ⟨es,hj⟩⟩
  ·refine za0 fun gG=>?_;obtain ⟨h,e,vs,rfl,p⟩:=r.obj j a _ ha hj;refine gG ?_;clear gG;exact .inl ⟨rfl,vs,SqL.of e⟩
  ·refine za0 fun gG=>?_;obtain ⟨h,e,vs,rfl,p⟩:=r.obj j a _ ha hj;refine gG ?_;clear gG;exact .inr (.inr (.inl ⟨rfl,.inl ⟨vs,e⟩⟩))
  ·refine za0 fun gG=>?_;obtain ⟨h,e,vs,rfl,p⟩:=r.obj j a _ ha hj;refine gG ?_;clear gG;exact .inr (.inr (.inl ⟨rfl,.inr ⟨vs,e⟩⟩))
 | s ns=>exact h.elim
 | x C=>exact h.elim
 | p ks=>exact h.elim
 | t xs=>exact h.elim
 | d x =>
  cases x with
  | str y=>obtain rfl:=Rq.zf7 z; exact h
  | list ds =>
   refine za0 fun gG=>?_;obtain ⟨a,vs,rfl,hs,_⟩:=Rq.zG3 z;refine gG ?_;clear gG;exact .inl ⟨h,vs,.inl (r.sub.rd hs)⟩
  | _=>exact h.elim
theorem zn3 {o e : Expr} {es : List Expr} {name : Str} {T id : String} {apos cpos : Pos} (pa : PlainAttrs T) (slot : Slot T name id) (hty : typeOf (.builtin id) = pure (.type "method_descriptor"))
  (h : BE X S W o fun x W1=>isTy W1 x T /\ BA X S W1 (e :: es) fun xs W2=>MB X T id x xs W2 k)
  (hbase : oy4 o name X.env (eval o X.env) = eval o X.env:=by rfl)
  (hfew : ((backTo cpos (fy4 (e :: es) X.env)).all (fun x=>!x.1) && (backToKw cpos (keywordEach [] X.env)).all (fun x=>x.1.isSome)
   && decide ((e :: es).length + ([] : List Keyword).length + (if ([] : List Keyword).isEmpty then 0 else 1) < 30)) = true:=by rfl)
  (hline : (apos.endLine == cpos.line) = true:=by rfl) (hs : fy4 (e :: es) X.env = (false,eval e X.env) :: fy4 es X.env:=by rfl) (hplain : (backTo cpos (fy4 es X.env)).any (·.1) = false:=by rfl) :
  BE X S W (.Call (.Attribute o name apos) (e :: es) [] cpos) k :=
 .of (ze81 pa slot hty mt_U zi1 pa_U hbase hfew hline hs hplain) fun F A σ H Q x0 r sr q=>h.use x0 r sr fun F1 A1 W1 H1 x vx e1 r1 z1 ⟨ht,h1⟩ =>
  ⟨r1.ty z1 ht,h1.use (x0.trans e1) r1 (sr.ext e1) fun F2 A2 W2 H2 xs vs e2 r2 z2 h2=>h2 F2 A2 H2 Q vx vs r2 (z1.ext e2) z2 (q.ext (e1.trans e2))⟩
theorem zh0 {j : Nat} {es : List El} {y : El} (hj : W[j]? = some (.lst es)) (hl : es.length < by3) (h : k (.d .none) (W.set j (.lst (es++[y])))) : MB X "list" "list.append" (.o j) [y] W k:=.of za04 fun F A H Q v vs r zx z q=>by
 refine za0 fun gG=>?_;obtain ⟨a,ws,rfl,ha,hH,p⟩:=r.at zx hj;obtain ⟨u,rfl,zu⟩:=zi3 z;refine gG ?_;clear gG;exact ⟨a,ws,u,rfl,rfl,hH,by rw [<- zb2 p]; exact hl,q.put r ha (o:=.lst (es++[y])) ⟨_,rfl,zy6 p (.cons zu .nil)⟩ (.dd Rq.non) h⟩
theorem zK8 {j : Nat} {es : List El} {y : El} (hj : W[j]? = some (.lst (y :: es))) (h : k y (W.set j (.lst es))) : MB X "list" "list.pop" (.o j) [.d (.int 0)] W k:=.of zb23 fun F A H Q v vs r zx z q=>by
 refine za0 fun gG=>?_;obtain ⟨a,ws,rfl,ha,hH,p⟩:=r.at zx hj;obtain ⟨u,rfl,zu⟩:=zi3 z;refine gG ?_;clear gG;obtain rfl:=Rq.ze3 zu;cases p with
 | @cons _ b _ m r1 t =>
  refine ⟨a,b :: m,0,0,b,rfl,rfl,hH,by decide,by decide,by simp [seqIndex?],rfl,?_⟩;exact q.put r ha (o:=.lst es) ⟨_,rfl,t⟩ r1 h
theorem zB2 {K : ay5} {F : Hp} : ∀ {xs : List Str},Paired (fun d v=>Rq K F v d) (xs.map hy3) (xs.map V.str)
 | []=>.nil
 | x :: xs=>.cons (Rq.str x) zB2
end
structure DB where
 nx : Sl->Wl->Prop
 rt : KB
 bk : Sl->Wl->Prop:=fun _ _=>False
 ct : Sl->Wl->Prop:=fun _ _=>False
structure Ex1 (n : Nat) (F : Hp) (A : List Addr) (F' : Hp) (A' : List Addr) : Prop where
 same : zn2 F F'
 pre : A.take n <+: A'
 len : n <= A'.length
theorem Ex1.refl {n : Nat} {F : Hp} {A : List Addr} (h : n <= A.length) : Ex1 n F A F A:=⟨.refl _,sy7 _ _,h⟩
theorem zm8 {n : Nat} {A A' : List Addr} (h : A.take n <+: A') (hn : n <= A.length) : A'.take n = A.take n:=by
 refine za0 fun gG=>?_;obtain ⟨r,rfl⟩:=h;refine gG ?_;clear gG;rw [List.take_append_of_le_length (by rw [dy1]; omega),List.take_take,Nat.min_self]
theorem Ex1.trans {n : Nat} {F F1 F2 : Hp} {A A1 A2 : List Addr} (hn : n <= A.length) (a : Ex1 n F A F1 A1) (b : Ex1 n F1 A1 F2 A2) : Ex1 n F A F2 A2 :=
 ⟨a.same.trans b.same,by rw [<- zm8 a.pre hn]; exact b.pre,b.len⟩
theorem Ext.ex1 {n : Nat} {F F1 : Hp} {A A1 : List Addr} (hn : n <= A.length) (a : Ext F A F1 A1) : Ex1 n F A F1 A1:=⟨a.same,(sy7 _ _).trans a.pre,ey1 hn a.pre.length_le⟩
structure zG9 (K : ay5) (n : Nat) (F : Hp) (A : List Addr) (D : DB) (E : Ends) : Prop where
 nx : ∀ F' A' W' H' S' σ',Ex1 n F A F' A'->RW K F' A' W' H'->SR K F' A' S' σ'->D.nx S' W'->E.nx σ' H'
 bk : ∀ F' A' W' H' S' σ',Ex1 n F A F' A'->RW K F' A' W' H'->SR K F' A' S' σ'->D.bk S' W'->E.bk σ' H'
 ct : ∀ F' A' W' H' S' σ',Ex1 n F A F' A'->RW K F' A' W' H'->SR K F' A' S' σ'->D.ct S' W'->E.ct σ' H'
 rt : ∀ F' A' W' H' e v,Ex1 n F A F' A'->RW K F' A' W' H'->ElR K F' A' e v->D.rt e W'->E.rt v H'
theorem zG9.ext {K : ay5} {n : Nat} {F F1 : Hp} {A A1 : List Addr} {D : DB} {E : Ends} (hn : n <= A.length) (h : zG9 K n F A D E) (x : Ex1 n F A F1 A1) : zG9 K n F1 A1 D E :=
 ⟨fun F' A' W' H' S' σ' y=>h.nx F' A' W' H' S' σ' (x.trans hn y),fun F' A' W' H' S' σ' y=>h.bk F' A' W' H' S' σ' (x.trans hn y),fun F' A' W' H' S' σ' y=>h.ct F' A' W' H' S' σ' (x.trans hn y),fun F' A' W' H' e v y=>h.rt F' A' W' H' e v (x.trans hn y)⟩
structure Bc.Ams (X : Bc) (n : Nat) (F : Hp) (A : List Addr) : Prop where
 am : X.Am F A
 le : X.A0.length <= n
theorem Bc.Ams.ext {X : Bc} {n : Nat} {F F' : Hp} {A A' : List Addr} (x : X.Ams n F A) (e : Ext F A F' A') : X.Ams n F' A':=⟨x.am.trans e,x.le⟩
theorem Bc.Ams.ex1 {X : Bc} {n : Nat} {F F' : Hp} {A A' : List Addr} (x : X.Ams n F A) (hn : n <= A.length) (e : Ex1 n F A F' A') : X.Ams n F' A':=⟨⟨x.am.same.trans e.same,by
 obtain ⟨r,hr⟩:=x.am.pre;have h1 : X.A0 = A.take X.A0.length:=by rw [<- hr,vy8]
 have h2 : A.take X.A0.length = (A.take n).take X.A0.length:=by rw [List.take_take,py1 x.le]
 rw [h1,h2]
 exact (sy7 _ _).trans e.pre⟩,x.le⟩
theorem Bc.Ams.up {X : Bc} {n m : Nat} {F : Hp} {A : List Addr} (x : X.Ams n F A) (h : n <= m) : X.Ams m F A:=⟨x.am,ey1 x.le h⟩
def tDS (X : Bc) (n : Nat) (S : Sl) (W : Wl) (D : DB) : TS:=fun E σ H=>∃ F A,n <= A.length /\ X.Ams n F A /\ RW X.K F A W H /\ SR X.K F A S σ /\ zG9 X.K n F A D E
def BS (X : Bc) (n : Nat) (S : Sl) (W : Wl) (st : Stmt) (D : DB) : Prop:=PS X st (tDS X n S W D)
def BSs (X : Bc) (n : Nat) (S : Sl) (W : Wl) (st : List Stmt) (D : DB) : Prop:=PSs X st (tDS X n S W D)
def tUSt (X : Bc) (st : Stmt) : TS:=fun E σ H=>∃ t,PS X st t /\ t E σ H
def tUSs (X : Bc) (st : List Stmt) : TS:=fun E σ H=>∃ t,PSs X st t /\ t E σ H
section
variable {X : Bc} {n : Nat} {S : Sl} {W : Wl} {D : DB}
theorem ps_U {st : Stmt} : PS X st (tUSt X st):=fun pins s σ H E I zR=>by obtain ⟨t,h,q⟩:=zR; exact h pins s σ H E I q
theorem zT8 {st : List Stmt} : PSs X st (tUSs X st):=fun pins s σ H E I zR=>by obtain ⟨t,h,q⟩:=zR; exact h pins s σ H E I q
theorem BS.of {st : Stmt} {t : TS} (h : PS X st t) (i : ∀ F A σ H E,n <= A.length->X.Ams n F A->RW X.K F A W H->SR X.K F A S σ->zG9 X.K n F A D E->t E σ H) : BS X n S W st D :=
 fun pins s σ H E I zR=>by obtain ⟨F,A,hn,x0,r,sr,q⟩:=zR; exact h pins s σ H E I (i F A σ H E hn x0 r sr q)
theorem BSs.of {st : List Stmt} {t : TS} (h : PSs X st t) (i : ∀ F A σ H E,n <= A.length->X.Ams n F A->RW X.K F A W H->SR X.K F A S σ->zG9 X.K n F A D E->t E σ H) : BSs X n S W st D :=
 fun pins s σ H E I zR=>by obtain ⟨F,A,hn,x0,r,sr,q⟩:=zR; exact h pins s σ H E I (i F A σ H E hn x0 r sr q)
theorem BS.use {st : Stmt} (h : BS X n S W st D) {F : Hp} {A : List Addr} {σ : St} {H : Hp} {E : Ends} (hn : n <= A.length) (x0 : X.Ams n F A) (r : RW X.K F A W H) (s : SR X.K F A S σ) (q : zG9 X.K n F A D E) : tUSt X st E σ H:=⟨_,h,F,A,hn,x0,r,s,q⟩
theorem BSs.use {st : List Stmt} (h : BSs X n S W st D) {F : Hp} {A : List Addr} {σ : St} {H : Hp} {E : Ends} (hn : n <= A.length) (x0 : X.Ams n F A) (r : RW X.K F A W H) (s : SR X.K F A S σ) (q : zG9 X.K n F A D E) : tUSs X st E σ H:=⟨_,h,F,A,hn,x0,r,s,q⟩
theorem zh1 (h : D.nx S W) : BSs X n S W [] D:=.of zc39 fun F A σ H E hn x0 r sr q=>q.nx F A W H S σ (.refl hn) r sr h
abbrev seqD (X : Bc) (n : Nat) (rest : List Stmt) (D : DB) : DB:={ D with nx:=fun S' W'=>BSs X n S' W' rest D }
abbrev zc69 (D : DB) (Q : Sl->Wl->Prop) : DB:={ D with nx:=Q,ct:=Q,bk:=D.nx }
theorem za4 {st : Stmt} {rest : List Stmt} (h : BS X n S W st (seqD X n rest D)) : BSs X n S W (st :: rest) D :=
 .of (zb16 ps_U zT8) fun F A σ H E hn x0 r sr q=>h.use hn x0 r sr ⟨fun F' A' W' H' S' σ' x r' sr' h'=>h'.use x.len (x0.ex1 hn x) r' sr' (q.ext hn x),q.bk,q.ct,q.rt⟩
theorem zb0 {st : Stmt} (h : BS X n S W st D) : BSs X n S W [st] D:=zc40 h
theorem ze9 {e : Expr} {pos : Pos} (h : BE X S W e fun _ W1=>D.nx S W1) (hs : swapsWith e none pos.line X.env = pure false:=by rfl) : BS X n S W (.Expr e pos) D :=
 .of (zc41 zi1 hs) fun F A σ H E hn x0 r sr q=>h.use x0.am r sr fun F1 A1 W1 H1 x vx e1 r1 z1 h1=>q.nx F1 A1 W1 H1 S σ (e1.ex1 hn) r1 (sr.ext e1) h1
theorem zd3 {e : Expr} {pos : Pos} (h : BE X S W e D.rt) : BS X n S W (.Return (some e) pos) D :=
 .of (zY4 zi1) fun F A σ H E hn x0 r sr q=>h.use x0.am r sr fun F1 A1 W1 H1 x vx e1 r1 z1 h1=>q.rt F1 A1 W1 H1 x vx (e1.ex1 hn) r1 z1 h1
theorem zi4 {c : Expr} {a b : List Stmt} {pos : Pos} (h : BT X S W c fun t W1=>if t = true then BSs X n S W1 a D else BSs X n S W1 b D) : BS X n S W (.If c a b pos) D :=
 .of (ze62 pt_U zT8 zT8) fun F A σ H E hn x0 r sr q=>h.use x0.am r sr fun F1 A1 W1 H1 t e1 r1 h1=>by
  have hn1 : n <= A1.length:=(e1.ex1 hn).len;cases t with
  | true =>
   rw [if_pos rfl] at h1 ⊢;exact h1.use hn1 (x0.ext e1) r1 (sr.ext e1) (q.ext hn (e1.ex1 hn))
  | false =>
   rw [if_neg (by decide)] at h1 ⊢;exact h1.use hn1 (x0.ext e1) r1 (sr.ext e1) (q.ext hn (e1.ex1 hn))
theorem zc0 {i : Nat} {x : Str} {e : Expr} {pos pos' : Pos} (hN : X.N.Nodup) (hi : X.N[i]? = some x) (hx : Loc X.env.scope x) (h : BE X S W e fun y W1=>D.nx (S.set i (some y)) W1) (hs : swapsWith e (some (.Name x pos')) pos.line X.env = pure false:=by rfl) (hf : X.fn x = true \/ X.env.scope.names.lookup x = some .local:=by first | exact .inl rfl | exact .inr rfl | assumption) :
  BS X n S W (.Assign [.Name x pos'] e pos) D :=
 .of (zd48 hN hi hx zi1 hs hf) fun F A σ H E hn x0 r sr q=>h.use x0.am r sr fun F1 A1 W1 H1 y vy e1 r1 z1 h1=>q.nx F1 A1 W1 H1 _ _ (e1.ex1 hn) r1 ((sr.ext e1).set z1 i) h1
def tUG (X : Bc) (tg : Expr) : TG:=fun v σ H Q=>∃ t,PG X tg t /\ t v σ H Q
theorem pg_U {tg : Expr} : PG X tg (tUG X tg):=fun pins s σ H v u Q I r zR=>by obtain ⟨t,h,q⟩:=zR; exact h pins s σ H v u Q I r q
def BG (X : Bc) (S : Sl) (W : Wl) (tg : Expr) (e : El) (k : Sl->Wl->Prop) : Prop:=∀ F A σ H v (Q : St->Hp->Prop),X.Am F A->RW X.K F A W H->SR X.K F A S σ->ElR X.K F A e v ->
 (∀ F' A' W' H' S' σ',Ext F A F' A'->RW X.K F' A' W' H'->SR X.K F' A' S' σ'->k S' W'->Q σ' H')->tUG X tg v σ H Q
theorem zm2 {i : Nat} {x : Str} {pos : Pos} {e : El} {k : Sl->Wl->Prop} (hN : X.N.Nodup) (hi : X.N[i]? = some x) (hx : Loc X.env.scope x) (h : k (S.set i (some e)) W) (hf : X.fn x = true \/ X.env.scope.names.lookup x = some .local:=by first | exact .inl rfl | exact .inr rfl | assumption) : BG X S W (.Name x pos) e k :=
 fun F A σ H v Q x0 r sr z q=>⟨_,zu7 hN hi hx hf,q F A W H _ _ .refl r (sr.set z i) h⟩
inductive Nms (X : Bc) : List Expr->List Nat->Prop
 | nil : Nms X [] []
 | cons {i : Nat} {x : Str} {pos : Pos} {es : List Expr} {is : List Nat} (hN : X.N.Nodup) (hi : X.N[i]? = some x) (hx : Loc X.env.scope x) (t : Nms X es is)
   (hf : X.fn x = true \/ X.env.scope.names.lookup x = some .local:=by first | exact .inl rfl | exact .inr rfl | assumption)
   (hs : (my1 (.Name x pos :: es) X.env).map (·.2) = assign (.Name x pos) X.env :: (my1 es X.env).map (·.2):=by rfl) : Nms X (.Name x pos :: es) (i :: is)
def gNms : List Nat->TGs
 | []=>gNil
 | i :: is=>zS9 (zn9 i) (gNms is)
theorem Nms.pgs {es : List Expr} {is : List Nat} (h : Nms X es is) : PGs X es (gNms is):=by
 induction h with
 | nil=>exact zY5
 | cons hN hi hx t hf hs ih=>exact zO7 (zu7 hN hi hx hf) ih hs
def zs6 (S : Sl) : List Nat->List El->Sl
 | i :: is,e :: es=>zs6 (S.set i (some e)) is es
 | _,_=>S
def setAllσ (σ : St) : List Nat->List V->St
 | i :: is,e :: es=>setAllσ (σ.set i (some e)) is es
 | _,_=>σ
theorem zB3 : ∀ {is : List Nat} {vs : List V} {σ : St} {H : Hp} {Q : St->Hp->Prop},is.length = vs.length->Q (setAllσ σ is vs) H->gNms is vs σ H Q
 | [],[],σ,H,Q,_,q=>⟨rfl,q⟩
 | [],_ :: _,_,_,_,h,_=>by simp at h
 | _ :: _,[],_,_,_,h,_=>by simp at h
 | i :: is,v :: vs,σ,H,Q,h,q=>⟨v,vs,rfl,zB3 (is:=is) (by simpa using h) q⟩
theorem SR.zs6 {K : ay5} {F : Hp} {A : List Addr} : ∀ {is : List Nat} {es : List El} {vs : List V} {S : Sl} {σ : St},SR K F A S σ->Paired (ElR K F A) es vs->SR K F A (zs6 S is es) (setAllσ σ is vs)
 | [],_,_,_,_,r,_=>r
 | _ :: _,_,_,_,_,r,.nil=>r
 | i :: is,_,_,S,σ,r,.cons z t=>SR.zs6 (is:=is) (r.set z i) t
theorem zH0 {es : List Expr} {is : List Nat} {c : Nat} {pos : Pos} {ds : List PyData} {k : Sl->Wl->Prop} (hc : X.calm = true) (hm : Nms X es is) (hl : is.length = ds.length) (h : k (zs6 S is (zb4 ds)) W)
  (hn : (my1 es X.env).length = is.length:=by rfl) (hst : (my1 es X.env).findIdx? (·.1) = none:=by rfl) : BG X S W (.Tuple es c pos) (.d (.tuple ds)) k :=
 fun F A σ H v Q x0 r sr z q=>by
  refine za0 fun gG=>?_;obtain ⟨a,vs,rfl,hs,p⟩:=Rq.zg7 z;refine gG ?_;clear gG;exact ⟨_,zY6 hc hm.pgs hn hst,a,vs,rfl,r.sub.zt3 hs,by rw [<- zb2 p,hl],zB3 (by rw [hl,zb2 p]) (q F A W H _ _ .refl r (sr.zs6 (zg8 p)) h)⟩
theorem zp2 {tg e : Expr} {pos : Pos} (h : BE X S W e fun y W1=>BG X S W1 tg y D.nx) (hs : swapsWithSole [tg] e pos.line X.env = pure false:=by rfl) (hw : swappedStores [tg] e X.env = pure none:=by rfl)
  (h1 : (my1 [tg] X.env).map (·.2) = [assign tg X.env]:=by rfl) : BS X n S W (.Assign [tg] e pos) D :=
 .of (zd47 zi1 pg_U hs hw h1) fun F A σ H E hn x0 r sr q=>h.use x0.am r sr fun F1 A1 W1 H1 y vy e1 r1 z1 h1=>h1 F1 A1 σ H1 vy _ (x0.am.trans e1) r1 (sr.ext e1) z1 fun F2 A2 W2 H2 S2 σ2 e2 r2 sr2 h2=>q.nx F2 A2 W2 H2 S2 σ2 ((e1.trans e2).ex1 hn) r2 sr2 h2
def zd85 (X : Bc) : TSet:=fun o i v H Q=>∃ t,PSet X t /\ t o i v H Q
theorem zd86 : PSet X (zd85 X):=fun pins s σ H o i v ov iv u Q I r1 r2 r3 zR=>by obtain ⟨t,h,q⟩:=zR; exact h pins s σ H o i v ov iv u Q I r1 r2 r3 q
def SB (X : Bc) (o i v : El) (W : Wl) (k : Wl->Prop) : Prop:=∀ F A H vo vi vv (Q : Hp->Prop),RW X.K F A W H->ElR X.K F A o vo->ElR X.K F A i vi->ElR X.K F A v vv->(∀ F' A' W' H',Ext F A F' A'->RW X.K F' A' W' H'->k W'->Q H')->zd85 X vo vi vv H Q
theorem zy7 {o i : Expr} {pos : Pos} {e : El} {k : Sl->Wl->Prop} (h : BE X S W o fun x W1=>BE X S W1 i fun y W2=>SB X x y e W2 fun W3=>k S W3)
  (ha : ∀ v,assign (.Subscript o i pos) X.env v = (do
   let ov <- holding [v] (eval o X.env)
   let iv <- holding [v,ov] (eval i X.env)
   standAt pos
   holding [v,ov,iv] (setItem ov iv v)
   release [v,ov,iv] []):=by intro _; rfl) : BG X S W (.Subscript o i pos) e k :=
 fun F A σ H v Q x0 r sr z q=>⟨_,zd46 zi1 zi1 zd86 ha,h.use x0 r sr fun F1 A1 W1 H1 x vx e1 r1 z1 h1=>h1.use (x0.trans e1) r1 (sr.ext e1) fun F2 A2 W2 H2 y vy e2 r2 z2 h2 =>
  h2 F2 A2 H2 vx vy v _ r2 (z1.ext e2) z2 (z.ext (e1.trans e2)) fun F3 A3 W3 H3 e3 r3 h3=>q F3 A3 W3 H3 S σ ((e1.trans e2).trans e3) r3 (sr.ext ((e1.trans e2).trans e3)) h3⟩
theorem zd87 {j : Nat} {es : List El} {i : Int} {m : Nat} {v : El} {k : Wl->Prop} (hj : W[j]? = some (.lst es)) (hi : ixN es.length i = some m) (h : k (W.set j (.lst (es.set m v)))) : SB X (.o j) (.d (.int i)) v W k :=
 fun F A H vo vi vv Q r zo zi zv q=>by
  refine za0 fun gG=>?_;obtain ⟨a,ws,rfl,ha,hH,p⟩:=r.at zo hj;refine gG ?_;clear gG;obtain rfl:=Rq.ze3 zi;exact ⟨_,set_list,a,ws,i,m,rfl,rfl,hH,by rw [<- zb2 p]; exact hi,q F A _ _ .refl (r.put ha (o:=.lst (es.set m v)) ⟨_,rfl,zc07 zv m p⟩) h⟩
def El.below (m : Nat) : El->Prop
 | .d _=>True
 | .s _=>True
 | .x _=>True
 | .p _=>True
 | .t xs=>∀ k,.inr k∈xs->k < m
 | .o k=>k < m
def OD.below (m : Nat) : OD->Prop
 | .lst es=>∀ e∈es,e.below m
 | .dK kvs=>∀ p∈kvs,p.2.below m
 | .dT kvs=>∀ p∈kvs,p.2.below m
 | .fT _ kvs=>∀ p∈kvs,p.2.below m
 | .fK _ kvs=>∀ p∈kvs,p.2.below m
theorem zs7 {α β : Type} {F G : α->β->Prop} {l : List α} {m : List β} (p : Paired F l m) : (∀ a∈l,∀ b,F a b->G a b)->Paired G l m:=by
 induction p with
 | nil=>intro _; exact .nil
 | cons r t ih=>intro h; exact .cons (h _ ay9 _ r) (ih fun a ha=>h a (by0 _ ha))
theorem ElR.drop {K : ay5} {F : Hp} {A : List Addr} {m : Nat} : ∀ {e : El} {v : V},e.below m->ElR K F A e v->ElR K F (A.take m) e v
 | .d _,_,_,z=>z
 | .s _,_,_,z=>z
 | .x _,_,_,z=>z
 | .p _,_,_,z=>z
 | .t xs,_,h,⟨a,vs,e,r,p⟩=>⟨a,vs,e,r,zs7 p fun x hx v z=>match x,h,hx,z with
  | .inl _,_,_,z=>z
  | .inr k,h,hx,⟨b,q,w⟩=>⟨b,by rw [gy2 (h k hx)]; exact q,w⟩⟩
 | .o k,_,h,⟨a,e,r⟩=>⟨a,by rw [gy2 h]; exact e,r⟩
theorem OdR.drop {K : ay5} {F : Hp} {A : List Addr} {m : Nat} : ∀ {o : OD} {h : HO},o.below m->OdR K F A o h->OdR K F (A.take m) o h
 | .lst es,_,hb,⟨vs,e,p⟩=>⟨vs,e,zs7 p fun a ha b z=>z.drop (hb a ha)⟩
 | .dK es,_,hb,⟨vs,e,p⟩=>⟨vs,e,zs7 p fun a ha b z=>⟨z.1,z.2.drop (hb a ha)⟩⟩
 | .dT es,_,hb,⟨vs,e,p⟩=>⟨vs,e,zs7 p fun a ha b z=>⟨z.1,z.2.drop (hb a ha)⟩⟩
 | .fT _ es,_,hb,⟨vs,e,p⟩=>⟨vs,e,zs7 p fun a ha b z=>⟨z.1,z.2.drop (hb a ha)⟩⟩
 | .fK _ es,_,hb,⟨vs,e,p⟩=>⟨vs,e,zs7 p fun a ha b z=>⟨z.1,z.2.drop (hb a ha)⟩⟩
theorem RW.drop {K : ay5} {F : Hp} {A : List Addr} {W : Wl} {H : Hp} (r : RW K F A W H) {m : Nat} (h : ∀ o∈W.take m,o.below m) : RW K F (A.take m) (W.take m) H:=by
 refine ⟨r.sub,by simp [r.len],r.nd.sublist (List.take_sublist _ _),fun a ha=>r.out a (hy4 ha),fun k a o hk ho=>?_⟩
 have hm : k < m:=by
  have:=(ay4.mp hk).1;simp at this;omega
 have ho':=ho;rw [gy2 hm] at hk ho;refine za0 fun gG=>?_;obtain ⟨u,e,q⟩:=r.obj k a o hk ho;refine gG ?_;clear gG;exact ⟨u,e,q.drop (h o (cy8 ho'))⟩
theorem RW.freeze {K : ay5} {F : Hp} {A : List Addr} {W : Wl} {H : Hp} (r : RW K F A W H) {m : Nat} {ds : List PyData} (hm : W[m]? = some (.lst (zb4 ds))) (h : ∀ o∈W.take m,o.below m) :
  ∃ F' a,A[m]? = some a /\ zn2 F F' /\ RW K F' (A.take m) (W.take m) H /\ Rq K F' (.ref a) (.list ds):=by
 have hl : m < A.length:=by rw [r.len]; exact (ay4.mp hm).1
 have ha : A[m]? = some A[m]:=by simp [hl]
 refine za0 fun gG=>?_;obtain ⟨u,e,vs,rfl,p⟩:=r.obj m A[m] _ ha hm;refine gG ?_;clear gG;have hF : F A[m] = none:=r.out _ (py9 hl);have sF : zn2 F (upd F A[m] (.lst vs)):=zj9 hF
 have hnot : A[m] ∉ A.take m:=fun z=>by
  refine za0 fun gG=>?_;obtain ⟨k,hk⟩:=gy7.mp z
  have hkm : k < m:=by
   have:=(ay4.mp hk).1;simp at this;omega
  rw [gy2 hkm] at hk;obtain ⟨l1,e1⟩:=ay4.mp hk;refine gG ?_;clear gG;have:=(iy4 r.nd).mp e1;omega
 have r':=r.drop h;have x : Ext F (A.take m) (upd F A[m] (.lst vs)) (A.take m):=⟨sF,sy6 _⟩
 refine ⟨upd F A[m] (.lst vs),A[m],ha,sF,⟨fun b o q=>?_,r'.len,r'.nd,fun a hz=>?_,fun k a o hk ho=>?_⟩,.lst (.inl zb5) (Rqs.of (zg6 (fun _ _ t=>Rq.same sF _ t) (zk6 p)))⟩
 ·by_cases hb : b = A[m]
  ·subst hb; rw [zb5] at q; cases q; exact e
  ·rw [za8 hb] at q; exact r.sub _ _ q
 ·rw [za8 (fun z=>hnot (by rw [<- z]; exact hz))]; exact r'.out a hz
 ·refine za0 fun gG=>?_;obtain ⟨u,e,q⟩:=r'.obj k a o hk ho;refine gG ?_;clear gG;exact ⟨u,e,q.ext x⟩
theorem Ex1.drop {n m : Nat} {F : Hp} {A : List Addr} (hn : n <= A.length) (hm : n <= m) : Ex1 n F A F (A.take m):=⟨.refl _,by
 rw [show A.take n = (A.take m).take n by rw [List.take_take,py1 hm]]
 exact sy7 _ _,by rw [dy1]; omega⟩
theorem zK9 {e : Expr} {pos : Pos} (m : Nat) (hm : n <= m) (h : BE X S W e fun y W1=>y.below m /\ (∀ o∈W1.take m,o.below m) /\ D.rt y (W1.take m)) : BS X n S W (.Return (some e) pos) D :=
 .of (zY4 zi1) fun F A σ H E hn x0 r sr q=>h.use x0.am r sr fun F1 A1 W1 H1 x vx e1 r1 z1 zR=>by
  refine za0 fun gG=>?_;obtain ⟨h1,h2,h3⟩:=zR;refine gG ?_;clear gG;have hn1:=(e1.ex1 hn).len;exact q.rt F1 _ _ H1 x vx ((e1.ex1 hn).trans hn (.drop hn1 hm)) (r1.drop h2) (z1.drop h1) h3
theorem zT9 {e : Expr} {pos : Pos} (h : BE X S W e fun y W1=>∃ m ds,y = .o m /\ n <= m /\ W1[m]? = some (.lst (zb4 ds)) /\ (∀ o∈W1.take m,o.below m) /\ D.rt (.d (.list ds)) (W1.take m)) : BS X n S W (.Return (some e) pos) D :=
 .of (zY4 zi1) fun F A σ H E hn x0 r sr q=>h.use x0.am r sr fun F1 A1 W1 H1 x vx e1 r1 z1 zR=>by
  refine za0 fun gG=>?_;obtain ⟨m,ds,he,h1,h2,h3,h4⟩:=zR;subst he;obtain ⟨F',a,ha,sF,r',rq⟩:=r1.freeze h2 h3;obtain ⟨b,hb,rfl⟩:=z1;refine gG ?_;clear gG;rw [ha] at hb;cases hb;have hn1:=(e1.ex1 hn).len;have y:=(Ex1.drop (F:=F1) hn1 h1)
  exact q.rt F' _ _ H1 _ _ ((e1.ex1 hn).trans hn ⟨sF,y.pre,y.len⟩) r' (.dd rq) h4
end
theorem Ex1.le {m n : Nat} {F F' : Hp} {A A' : List Addr} (hm : m <= n) (x : Ex1 n F A F' A') : Ex1 m F A F' A':=⟨x.same,by
 have : A.take m = (A.take n).take m:=by rw [List.take_take,py1 hm]
 rw [this]
 exact (sy7 _ _).trans x.pre,ey1 hm x.len⟩
structure Walks (K : ay5) (m : Nat) (F1 : Hp) (A1 : List Addr) (G : Wl->Prop) (J : It) (ds : List PyData) : Prop where
 go : ∀ i F' A' W' H',i < ds.length->Ex1 m F1 A1 F' A'->RW K F' A' W' H'->G W'->J.go i H'
 yld : ∀ i F' A' W' H' x H'',i < ds.length->Ex1 m F1 A1 F' A'->RW K F' A' W' H'->G W'->J.yld i H' x H''->H'' = H' /\ ∃ d,ds[i]? = some d /\ Rq K F' x d
 stop : ∀ F' A' W' H',Ex1 m F1 A1 F' A'->RW K F' A' W' H'->G W'->J.stop ds.length H'
def tUI (X : Bc) (tg iter : Expr) : TI:=fun σ H R=>∃ t,PI X tg iter t /\ t σ H R
theorem pi_U {X : Bc} {tg iter : Expr} : PI X tg iter (tUI X tg iter):=fun pins s σ H R I zR=>by obtain ⟨t,h,q⟩:=zR; exact h pins s σ H R I q
def BI (X : Bc) (S : Sl) (W : Wl) (tg iter : Expr) (k : Nat->(Wl->Prop)->List PyData->Wl->Prop) : Prop:=∀ F A σ H (R : It->Hp->Prop),X.Am F A->RW X.K F A W H->SR X.K F A S σ ->
 (∀ m G F1 A1 W1 H1 ds J,Ext F A F1 A1->RW X.K F1 A1 W1 H1->m <= A1.length->Walks X.K m F1 A1 G J ds->k m G ds W1->R J H1)->tUI X tg iter σ H R
abbrev GT : Wl->Prop:=fun _=>True
section
variable {X : Bc} {n : Nat} {S : Sl} {W : Wl} {D : DB} {tg : Expr} {ki : Nat->(Wl->Prop)->List PyData->Wl->Prop}
theorem zw0 {iter : Expr} (h : BE X S W iter fun y W1=>∃ ds,y = .d (.list ds) /\ ki 0 GT ds W1) : BI X S W tg iter ki:=fun F A σ H R x0 r sr q =>
 ⟨_,zY9 zi1,h.use x0 r sr fun F1 A1 W1 H1 y vy e1 r1 z1 zR=>by
  refine za0 fun gG=>?_;obtain ⟨ds,hy,h1⟩:=zR;subst hy;obtain ⟨a,vs,rfl,hv,z⟩:=Rq.zG3 z1;refine gG ?_;clear gG;have hl : ∀ {F' A' W' H'},Ex1 0 F1 A1 F' A'->RW X.K F' A' W' H'->SqL X.K H' a vs:=fun x r'=>.inl (r'.sub.rd (x.same.rd hv));refine ⟨a,rfl,⟨vs,.inl (r1.sub.rd hv)⟩,q 0 GT F1 A1 W1 H1 ds _ e1 r1 (dy9 _) ⟨fun i F' A' W' H' hi x r' _=>?_,fun i F' A' W' H' y H'' hi x r' _ hy=>?_,fun F' A' W' H' x r' _=>?_⟩ h1⟩
  ·have hi' : i < vs.length:=by rw [<- zb2 z]; exact hi
   exact ⟨vs,vs[i],hl x r',by simp [hi']⟩
  ·refine za0 fun gG=>?_;obtain ⟨e,hy⟩:=hy;obtain ⟨d,h1,h2⟩:=ze8 z (hy vs (hl x r'));refine gG ?_;clear gG;exact ⟨e,d,h1,Rq.same x.same _ h2⟩
  ·exact ⟨vs,hl x r',by rw [<- zb2 z]; exact ay6 _⟩⟩
theorem za25 {iter : Expr} (h : BE X S W iter fun y W1=>∃ j ds,y = .o j /\ W1[j]? = some (.lst (zb4 ds)) /\ ki (j + 1) (fun W'=>W'[j]? = some (.lst (zb4 ds))) ds W1) : BI X S W tg iter ki:=fun F A σ H R x0 r sr q =>
 ⟨_,zY9 zi1,h.use x0 r sr fun F1 A1 W1 H1 y vy e1 r1 z1 zR=>by
  refine za0 fun gG=>?_;obtain ⟨j,ds,hy,hj,h1⟩:=zR;subst hy;obtain ⟨a,ha,rfl⟩:=z1;have hja : j < A1.length:=(ay4.mp ha).1
  have ha' : ∀ {F' A'},Ex1 (j + 1) F1 A1 F' A'->A'[j]? = some a:=fun {F' A'} x=>by
   have e:=zm8 x.pre (by omega);have:=congrArg (fun l=>l[j]?) e;simp only [gy2 (ky6 j)] at this;rw [this]; exact ha
  have key : ∀ {F' A' W' H'},Ex1 (j + 1) F1 A1 F' A'->RW X.K F' A' W' H'->W'[j]? = some (.lst (zb4 ds))->∃ vs,H' a = some (.lst vs) /\ Paired (fun d v=>Rq X.K F' v d) ds vs:=fun x r' hG=>by
   obtain ⟨u,e,vs,rfl,p⟩:=r'.obj j a _ (ha' x) hG;exact ⟨vs,e,zk6 p⟩
  obtain ⟨v0,e0,p0⟩:=key (.refl (by omega)) r1 hj;refine gG ?_;clear gG;refine ⟨a,rfl,⟨v0,SqL.of e0⟩,q (j + 1) _ F1 A1 W1 H1 ds _ e1 r1 hja ⟨fun i F' A' W' H' hi x r' hG=>?_,fun i F' A' W' H' y H'' hi x r' hG hy=>?_,fun F' A' W' H' x r' hG=>?_⟩ h1⟩
  ·refine za0 fun gG=>?_;obtain ⟨vs,e,p⟩:=key x r' hG;refine gG ?_;clear gG;have hi' : i < vs.length:=by rw [<- zb2 p]; exact hi
   exact ⟨vs,vs[i],SqL.of e,by simp [hi']⟩
  ·refine za0 fun gG=>?_;obtain ⟨vs,e,p⟩:=key x r' hG;obtain ⟨e',hy⟩:=hy;obtain ⟨d,h1,h2⟩:=ze8 p (hy vs (SqL.of e));refine gG ?_;clear gG;exact ⟨e',d,h1,h2⟩
  ·refine za0 fun gG=>?_;obtain ⟨vs,e,p⟩:=key x r' hG;refine gG ?_;clear gG
   exact ⟨vs,SqL.of e,by rw [<- zb2 p]; exact ay6 _⟩⟩
theorem zs8 {iter : Expr} (h : BE X S W iter fun y W1=>∃ ds,y = .d (.tuple ds) /\ ki 0 GT ds W1) : BI X S W tg iter ki:=fun F A σ H R x0 r sr q =>
 ⟨_,zc00 zi1,h.use x0 r sr fun F1 A1 W1 H1 y vy e1 r1 z1 zR=>by
  refine za0 fun gG=>?_;obtain ⟨ds,hy,h1⟩:=zR;subst hy;obtain ⟨a,vs,rfl,hv,z⟩:=Rq.zg7 z1;refine gG ?_;clear gG;have hl : ∀ {F' A' W' H'},Ex1 0 F1 A1 F' A'->RW X.K F' A' W' H'->SqT X.K H' a vs:=fun x r'=>r'.sub.zt3 (x.same.zt3 hv);refine ⟨a,rfl,⟨vs,r1.sub.zt3 hv⟩,q 0 GT F1 A1 W1 H1 ds _ e1 r1 (dy9 _) ⟨fun i F' A' W' H' hi x r' _=>?_,fun i F' A' W' H' y H'' hi x r' _ hy=>?_,fun F' A' W' H' x r' _=>?_⟩ h1⟩
  ·have hi' : i < vs.length:=by rw [<- zb2 z]; exact hi
   exact ⟨vs,vs[i],hl x r',by simp [hi']⟩
  ·refine za0 fun gG=>?_;obtain ⟨e,hy⟩:=hy;obtain ⟨d,h1,h2⟩:=ze8 z (hy vs (hl x r'));refine gG ?_;clear gG;exact ⟨e,d,h1,Rq.same x.same _ h2⟩
  ·exact ⟨vs,hl x r',by rw [<- zb2 z]; exact ay6 _⟩⟩
def zm3 (lo : Int) (n : Nat) : List PyData:=(jy9 n).map fun (i : Nat)=>.int (lo + (i : Int))
theorem zU0 {lo : Int} {n i : Nat} (h : i < n) : (zm3 lo n)[i]? = some (.int (lo + i)):=by unfold zm3; simp [h]
theorem zL0 {K : ay5} {F1 : Hp} {A1 : List Addr} {lo : Int} {n : Nat} : Walks K 0 F1 A1 GT (Itr lo n) (zm3 lo n):=by
 have hl : (zm3 lo n).length = n:=by unfold zm3; simp
 refine ⟨fun i F' A' W' H' hi _ _ _=>by rw [hl] at hi; exact hi,fun i F' A' W' H' y H'' hi x r' _ hy=>?_,fun F' A' W' H' x r' _=>by rw [hl]; exact ay6 _⟩;rw [hl] at hi;refine za0 fun gG=>?_;obtain ⟨e,rfl⟩:=hy;refine gG ?_;clear gG;exact ⟨e,_,zU0 hi,.int _⟩
theorem zp3 {a : Expr} {p pos : Pos} (hg : Gl X "range") (hm : X.mg "range" = none) (h : BE X S W a fun y W1=>∃ j : Int,y = .d (.int j) /\ -(2 ^ 62) <= j /\ j < 2 ^ 62 /\ ki 0 GT (zm3 0 j.toNat) W1) (hs : fy4 [a] X.env = [(false,eval a X.env)]:=by rfl) : BI X S W tg (.Call (.Name "range" p) [a] [] pos) ki:=fun F A σ H R x0 r sr q =>
 ⟨_,zZ0 hg hm (zl8 zi1 zu9 hs) hs,h.use x0 r sr fun F1 A1 W1 H1 y vy e1 r1 z1 zR=>by
  refine za0 fun gG=>?_;obtain ⟨j,hy,h2,h3,h4⟩:=zR;subst hy;refine gG ?_;clear gG;obtain rfl:=Rq.ze3 z1
  exact ⟨j,rfl,h2,h3,q 0 GT F1 A1 W1 H1 _ _ e1 r1 (dy9 _) zL0 h4⟩⟩
def zy8 (x : Str) : List PyData:=x.cps.toList.map fun c=>.str ⟨#[c]⟩
theorem zd88 {iter : Expr} (h : BE X S W iter fun y W1=>∃ x,y = .d (.str x) /\ ki 0 GT (zy8 x) W1) : BI X S W tg iter ki:=fun F A σ H R x0 r sr q =>
 ⟨_,zd70 zi1,h.use x0 r sr fun F1 A1 W1 H1 y vy e1 r1 z1 zR=>by
  refine za0 fun gG=>?_;obtain ⟨x,hy,h1⟩:=zR;subst hy;refine gG ?_;clear gG;obtain rfl:=Rq.zf7 z1;have hl : (zy8 x).length = x.cps.size:=by unfold zy8; simp
  refine ⟨x,rfl,q 0 GT F1 A1 W1 H1 _ _ e1 r1 (dy9 _) ⟨fun i F' A' W' H' hi _ _ _=>by rw [hl] at hi; exact hi,fun i F' A' W' H' y H'' hi _ r' _ hy=>?_,fun F' A' W' H' _ r' _=>by rw [hl]; exact ay6 _⟩ h1⟩;refine za0 fun gG=>?_;obtain ⟨e,c,hc,rfl⟩:=hy;refine gG ?_;clear gG;refine ⟨e,_,?_,.str _⟩;unfold zy8;rw [by1,ly0,hc]
  rfl⟩
theorem zs9 {iter : Expr} {body : List Stmt} {pos : Pos} (hp : PassesOwn (model X.prog X.w) X.A X.env X.xe) (hc : X.calm = true)
  (h : BI X S W tg iter fun m G ds W1=>∃ (mb : Nat) (P : Nat->Sl->Wl->Prop),n <= mb /\ m <= mb /\ mb <= W1.length /\ P 0 S W1 /\ (∀ i S' W',i <= ds.length->P i S' W'->G W') /\
   (∀ i d S' W',ds[i]? = some d->P i S' W'->BG X S' W' tg (.d d) fun S2 W2=>BSs X mb S2 W2 body (zc69 D (P (i + 1)))) /\ ∀ S' W',P ds.length S' W'->D.nx S' W')
  (hs : ∀ x,ey4 iter X.env x = pure x:=by intro _; rfl) : BS X n S W (.For tg iter body [] pos) D :=
 .of (zc01 hp hc pi_U pg_U zT8 hs) fun F A σ H E hn x0 r sr q=>h F A σ H _ x0.am r sr fun m G F1 A1 W1 H1 ds J e1 r1 hm1 wk zR=>by
  refine za0 fun gG=>?_;obtain ⟨mb,P,hnm,hmm,hmb,p0,hG,hs,hd⟩:=zR;refine gG ?_;clear gG;have hmA : mb <= A1.length:=by rw [r1.len]; exact hmb
  refine ⟨fun i μ σ' H'=>μ = ds.length - i /\ i <= ds.length /\ ∃ F' A' S' W',Ex1 mb F1 A1 F' A' /\ RW X.K F' A' W' H' /\ SR X.K F' A' S' σ' /\ P i S' W',⟨ds.length,by simp,dy9 _,F1,A1,S,W1,.refl hmA,r1,sr.ext e1,p0⟩,?_⟩;intro i μ σ' H' gX;refine za0 fun gG=>?_;obtain ⟨rfl,hi,F',A',S',W',x,r',sr',p⟩:=gX;refine gG ?_;clear gG;have g:=hG i S' W' hi p
  by_cases hlt : i < ds.length
  ·refine .inr ⟨wk.go i F' A' W' H' hlt (x.le hmm) r' g,fun σ2 H2=>∃ F2 A2 S2 W2,Ex1 mb F1 A1 F2 A2 /\ RW X.K F2 A2 W2 H2 /\ SR X.K F2 A2 S2 σ2 /\ P (i + 1) S2 W2,fun σ2 H2 p2=>⟨ds.length - (i + 1),by omega,rfl,hlt,p2⟩,fun v H'' hy=>?_⟩;refine za0 fun gG=>?_;obtain ⟨rfl,d,hd',zd⟩:=wk.yld i F' A' W' H' v H'' hlt (x.le hmm) r' g hy;refine gG ?_;clear gG;refine hs i d S' W' hd' p F' A' σ' H'' v _ ((x0.ext e1).up hnm |>.ex1 hmA x).am r' sr' zd fun F2 A2 W2 H2 S2 σ2 x2 r2 sr2 h2=>?_;have x12 : Ex1 mb F1 A1 F2 A2:=x.trans hmA (x2.ex1 x.len);have q2:=q.ext hn ((e1.ex1 hn).trans hn (x12.le hnm));have hn2 : n <= A2.length:=ey1 hnm x12.len;exact h2.use x12.len (((x0.ext e1).up hnm).ex1 hmA x12) r2 sr2 ⟨fun F3 A3 W3 H3 S3 σ3 x3 r3 sr3 h3=>⟨F3,A3,S3,W3,x12.trans hmA x3,r3,sr3,h3⟩,fun F3 A3 W3 H3 S3 σ3 x3=>q2.nx F3 A3 W3 H3 S3 σ3 (x3.le hnm),fun F3 A3 W3 H3 S3 σ3 x3 r3 sr3 h3=>⟨F3,A3,S3,W3,x12.trans hmA x3,r3,sr3,h3⟩,fun F3 A3 W3 H3 e v x3=>q2.rt F3 A3 W3 H3 e v (x3.le hnm)⟩
  ·have hie : i = ds.length:=by omega
   subst hie;exact .inl ⟨wk.stop F' A' W' H' (x.le hmm) r' g,(q.ext hn (e1.ex1 hn)).nx F' A' W' H' S' σ' (x.le hnm) r' sr' (hd S' W' p)⟩
theorem zb38 {c : Expr} {body : List Stmt} {pos : Pos} (P : Sl->Wl->Prop) (μ : Sl->Wl->Nat) (hp : PassesOwn (model X.prog X.w) X.A X.env X.xe) (h0 : P S W)
  (hs : ∀ S' W',P S' W'->BT X S' W' c fun b W1=>if b = true then BSs X n S' W1 body (zc69 D fun S2 W2=>P S2 W2 /\ μ S2 W2 < μ S' W') else D.nx S' W1) :
  BS X n S W (.While c body [] pos) D :=
 .of (zb17 hp pt_U zT8) fun F A σ H E hn x0 r sr q=>by
  refine ⟨fun m σ' H'=>∃ F' A' S' W',Ex1 n F A F' A' /\ RW X.K F' A' W' H' /\ SR X.K F' A' S' σ' /\ P S' W' /\ m = μ S' W',⟨_,F,A,S,W,.refl hn,r,sr,h0,rfl⟩,?_⟩;intro m σ' H' gX;refine za0 fun gG=>?_;obtain ⟨F',A',S',W',x,r',sr',p,rfl⟩:=gX;refine gG ?_;clear gG;refine (hs S' W' p).use (x0.ex1 hn x).am r' sr' fun F1 A1 W1 H1 b e1 r1 h1=>?_;have x1 : Ex1 n F A F1 A1:=x.trans hn (e1.ex1 x.len);cases b with
  | true =>
   rw [if_pos rfl] at h1 ⊢;refine ⟨fun σ2 H2=>∃ F2 A2 S2 W2,Ex1 n F A F2 A2 /\ RW X.K F2 A2 W2 H2 /\ SR X.K F2 A2 S2 σ2 /\ P S2 W2 /\ μ S2 W2 < μ S' W',fun σ2 H2 zR=>by obtain ⟨F2,A2,S2,W2,y,r2,sr2,p2,l⟩:=zR; exact ⟨_,l,F2,A2,S2,W2,y,r2,sr2,p2,rfl⟩,?_⟩;have q1:=q.ext hn x1;exact h1.use x1.len (x0.ex1 hn x1) r1 (sr'.ext e1) ⟨fun F3 A3 W3 H3 S3 σ3 x3 r3 sr3 h3=>⟨F3,A3,S3,W3,x1.trans hn x3,r3,sr3,h3.1,h3.2⟩,q1.nx,fun F3 A3 W3 H3 S3 σ3 x3 r3 sr3 h3=>⟨F3,A3,S3,W3,x1.trans hn x3,r3,sr3,h3.1,h3.2⟩,q1.rt⟩
  | false =>
   rw [if_neg (by decide)] at h1 ⊢;exact (q.ext hn x1).nx F1 A1 W1 H1 S' σ' (.refl x1.len) r1 (sr'.ext e1) h1
end
section
variable {X : Bc} {n : Nat} {S : Sl} {W : Wl} {D : DB} {k : KB} {tg iter elt : Expr} {ifs : List Expr} {O Fv : List Str} {cap : List Nat} {scope : Scope} {pos : Pos}
abbrev cxB (X : Bc) (N : List Str) (scope : Scope) (cl : List (Str × Addr)) (C : Addr) (ex : List Addr) (s : Shared) (H : Hp) : Bc:={ X with toCx:=zc2 X.toCx N scope cl C ex s H }
def tUGc (X : Bc) (N : List Str) (scope : Scope) (m : Nat) (tg : Expr) : TG:=fun v σ H Q=>∃ t,(∀ cl C ex s H,PG (zc2 X N scope cl C ex s H) tg t) /\ Own m t /\ t v σ H Q
def tUTc (X : Bc) (N : List Str) (scope : Scope) (ifs : List Expr) : TT:=fun σ H Q=>∃ t,(∀ cl C ex s H,PTs (zc2 X N scope cl C ex s H) ifs t) /\ t σ H Q
def zL1 (X : Bc) (N : List Str) (scope : Scope) (e : Expr) : TE:=fun σ H Q=>∃ t,(∀ cl C ex s H,PE (zc2 X N scope cl C ex s H) e t) /\ t σ H Q
theorem za27 {N : List Str} {m : Nat} : Own m (tUGc X N scope m tg):=fun x σ H Q zR=>by obtain ⟨t,h,o,q⟩:=zR; exact ⟨t,h,o,o x σ H Q q⟩
def BEc (X : Bc) (N : List Str) (scope : Scope) (S : Sl) (W : Wl) (e : Expr) (k : KB) : Prop:=∀ cl C ex s H,BE (cxB X N scope cl C ex s H) S W e k
def BTc (X : Bc) (N : List Str) (scope : Scope) (S : Sl) (W : Wl) (ifs : List Expr) (k : TB) : Prop:=∀ F A σ H (Q : Bool->Hp->Prop),X.Am F A->RW X.K F A W H->SR X.K F A S σ->(∀ F' A' W' H' b,Ext F A F' A'->RW X.K F' A' W' H'->k b W'->Q b H')->tUTc X N scope ifs σ H Q
def BGc (X : Bc) (N : List Str) (scope : Scope) (m : Nat) (S : Sl) (W : Wl) (tg : Expr) (e : El) (k : Sl->Wl->Prop) : Prop:=∀ F A σ H v (Q : St->Hp->Prop),RW X.K F A W H->SR X.K F A S σ->ElR X.K F A e v ->
 (∀ S' σ',SR X.K F A S' σ'->k S' W->Q σ' H)->tUGc X N scope m tg v σ H Q
theorem zc72 {N : List Str} {k : TB} (h : k true W) : BTc X N scope S W [] k:=fun F A σ H Q x0 r sr q=>⟨_,fun _ _ _ _ _=>zc55,q F A W H true .refl r h⟩
theorem za28 {N : List Str} {c : Expr} {k : TB} (h : ∀ cl C ex s H,BT (cxB X N scope cl C ex s H) S W c k) : BTc X N scope S W [c] k:=fun F A σ H Q x0 r sr q=>⟨tDT X S W k,fun cl C ex s H=>zc56 (show PT _ c (tDT X S W k) from h cl C ex s H),F,A,x0,r,sr,q⟩
theorem ze2 {N : List Str} {m i : Nat} {x : Str} {p : Pos} {e : El} {k : Sl->Wl->Prop} (hN : N.Nodup) (hi : N[i]? = some x) (hm : i < m) (hx : ∀ cl C ex s H,Loc (zc2 X N scope cl C ex s H).env.scope x)
  (hf : ∀ cl C ex s H,(zc2 X N scope cl C ex s H).env.scope.names.lookup x = some .local) (h : k (S.set i (some e)) W) : BGc X N scope m S W (.Name x p) e k:=fun F A σ H v Q r sr z q =>
 ⟨zn9 i,fun cl C ex s H=>zu7 hN hi (hx cl C ex s H) (.inr (hf cl C ex s H)),zb25 hm,q _ _ (sr.set z i) h⟩
theorem za29 {m : Nat} : ∀ {is : List Nat},(∀ i∈is,i < m)->OwnS m (gNms is) /\ ∀ x σ H (Q Q' : St->Hp->Prop),(∀ σ H,Q σ H->Q' σ H)->gNms is x σ H Q->gNms is x σ H Q'
 | [],_=>⟨zc57,zb27⟩
 | i :: is,h=>by
  obtain ⟨a,b⟩:=za29 (is:=is) fun j hj=>h j (by0 _ hj);exact ⟨zb26 (h i ay9) a b,za09 b⟩
theorem zc73 {N : List Str} {m : Nat} {es : List Expr} {is : List Nat} {c : Nat} {p : Pos} {ds : List PyData} {k : Sl->Wl->Prop} (hc : X.calm = true) (hm : ∀ cl C ex s H,Nms (cxB X N scope cl C ex s H) es is) (hi : ∀ i∈is,i < m) (hl : is.length = ds.length) (h : k (zs6 S is (zb4 ds)) W)
  (hn : ∀ cl C ex s H,(my1 es (zc2 X N scope cl C ex s H).env).length = is.length:=by intro _ _ _ _ _; rfl) (hst : ∀ cl C ex s H,(my1 es (zc2 X N scope cl C ex s H).env).findIdx? (·.1) = none:=by intro _ _ _ _ _; rfl) : BGc X N scope m S W (.Tuple es c p) (.d (.tuple ds)) k:=fun F A σ H v Q r sr z q=>by
  refine za0 fun gG=>?_;obtain ⟨a,vs,rfl,hs,pp⟩:=Rq.zg7 z;refine gG ?_;clear gG;exact ⟨gTup X.K is.length (gNms is),fun cl C ex s H=>zY6 hc (hm cl C ex s H).pgs (hn cl C ex s H) (hst cl C ex s H),zc58 (za29 hi).1,a,vs,rfl,r.sub.zt3 hs,by rw [<- zb2 pp,hl],zB3 (by rw [hl,zb2 pp]) (q _ _ (sr.zs6 (zg8 pp)) h)⟩
def zP2 (O : List Str) (cap : List Nat) (S : Sl) : Sl:=O.map (fun _=>none)++cap.map (fun j=>(S[j]?).getD none)
theorem SR.cmp {K : ay5} {F : Hp} {A : List Addr} {σ : St} (r : SR K F A S σ) : SR K F A (zP2 O cap S) (zc3 O cap σ):=by
 refine ⟨by simp [zP2,zc3],fun i e h=>?_⟩;unfold zP2 at h;unfold zc3
 by_cases hi : i < O.length
 ·rw [ay8 (by simpa using hi)] at h;simp [hi] at h
 ·rw [cy2 (by simpa using hi)] at h;rw [cy2 (by simpa using hi)];simp only [ay3,by1] at h ⊢;cases hj : cap[i - O.length]? with
  | none=>rw [hj] at h; cases h
  | some j =>
   rw [hj] at h;simp only [xy0,Option.some.injEq] at h;cases hs : S[j]? with
   | none=>rw [hs] at h; cases h
   | some o =>
    rw [hs] at h;simp only [Option.getD_some] at h;subst h;refine za0 fun gG=>?_;obtain ⟨v,h1,h2⟩:=r.get j e hs;refine gG ?_;clear gG;exact ⟨v,by simp [h1],h2⟩
abbrev KC (X : Bc) (O Fv : List Str) (cap : List Nat) (scope : Scope) (S : Sl) (tg elt : Expr) (ifs : List Expr) (k : List PyData->Wl->Prop) : Nat->(Wl->Prop)->List PyData->Wl->Prop:=fun m G ds W1=>∃ P : Nat->List PyData->Wl->Prop,
 P 0 [] W1 /\ (∀ i ys W',i <= ds.length->P i ys W'->G W' /\ ys.length <= by3) /\
  (∀ i d ys W',ds[i]? = some d->P i ys W'->BGc X (O++Fv) scope O.length (zP2 O cap S) W' tg (.d d) fun S2 W2=>BTc X (O++Fv) scope S2 W2 ifs fun b W3 =>
   if b = true then BEc X (O++Fv) scope S2 W3 elt fun y W4=>∃ dy,y = .d dy /\ P (i + 1) (ys++[dy]) W4 else P (i + 1) ys W3) /\
  ∀ ys W',P ds.length ys W'->k ys W'
structure zd89 (K : ay5) (m : Nat) (F1 : Hp) (A1 : List Addr) (G : Wl->Prop) (J : It) (es : List El) : Prop where
 go : ∀ i F' A' W' H',i < es.length->Ex1 m F1 A1 F' A'->RW K F' A' W' H'->G W'->J.go i H'
 yld : ∀ i F' A' W' H' x H'',i < es.length->Ex1 m F1 A1 F' A'->RW K F' A' W' H'->G W'->J.yld i H' x H''->H'' = H' /\ ∃ e,es[i]? = some e /\ ElR K F' A' e x
 stop : ∀ F' A' W' H',Ex1 m F1 A1 F' A'->RW K F' A' W' H'->G W'->J.stop es.length H'
def BIE (X : Bc) (S : Sl) (W : Wl) (tg iter : Expr) (k : Nat->(Wl->Prop)->List El->Wl->Prop) : Prop:=∀ F A σ H (R : It->Hp->Prop),X.Am F A->RW X.K F A W H->SR X.K F A S σ ->
 (∀ m G F1 A1 W1 H1 es J,Ext F A F1 A1->RW X.K F1 A1 W1 H1->m <= A1.length->zd89 X.K m F1 A1 G J es->k m G es W1->R J H1)->tUI X tg iter σ H R
abbrev KCE (X : Bc) (O Fv : List Str) (cap : List Nat) (scope : Scope) (S : Sl) (tg elt : Expr) (ifs : List Expr) (k : List PyData->Wl->Prop) : Nat->(Wl->Prop)->List El->Wl->Prop:=fun m G ds W1=>∃ P : Nat->List PyData->Wl->Prop,
 P 0 [] W1 /\ (∀ i ys W',i <= ds.length->P i ys W'->G W' /\ ys.length <= by3) /\
  (∀ i d ys W',ds[i]? = some d->P i ys W'->BGc X (O++Fv) scope O.length (zP2 O cap S) W' tg d fun S2 W2=>BTc X (O++Fv) scope S2 W2 ifs fun b W3 =>
   if b = true then BEc X (O++Fv) scope S2 W3 elt fun y W4=>∃ dy,y = .d dy /\ P (i + 1) (ys++[dy]) W4 else P (i + 1) ys W3) /\
  ∀ ys W',P ds.length ys W'->k ys W'
theorem zy9 {F : Hp} {A : List Addr} {σ : St} {H : Hp} {Q : VK} {k : List PyData->Wl->Prop} (h : BIE X S W tg iter (KCE X O Fv cap scope S tg elt ifs k)) (x0 : X.Am F A) (r : RW X.K F A W H) (sr : SR X.K F A S σ)
  (q : ∀ F' A' W' H' ys vs p,Ext F A F' A'->RW X.K F' A' W' H'->Paired (fun d v=>Rq X.K F' v d) ys vs->H' p = none->k ys W'->Q (.ref p) (upd H' p (.lst vs))) :
  za08 (tUI X tg iter) O cap (tUGc X (O++Fv) scope O.length tg) (tUTc X (O++Fv) scope ifs) (zL1 X (O++Fv) scope elt) σ H Q :=
 h F A σ H _ x0 r sr fun m G F1 A1 W1 H1 ds J e1 r1 hm1 wk zR=>by
  refine za0 fun gG=>?_;obtain ⟨P,p0,hG,hs,hd⟩:=zR;refine gG ?_;clear gG;refine ⟨fun i μ ys H'=>μ = ds.length - i /\ i <= ds.length /\ ∃ F' A' W' yd,Ext F1 A1 F' A' /\ RW X.K F' A' W' H' /\ Paired (fun d v=>Rq X.K F' v d) yd ys /\ P i yd W',⟨ds.length,by simp,dy9 _,F1,A1,W1,[],.refl,r1,.nil,p0⟩,?_⟩;intro i μ ys H' gX;refine za0 fun gG=>?_;obtain ⟨rfl,hi,F',A',W',yd,x,r',z',p⟩:=gX;obtain ⟨g,hz⟩:=hG i yd W' hi p;refine gG ?_;clear gG;refine ⟨by rw [<- zb2 z']; exact hz,?_⟩
  by_cases hlt : i < ds.length
  ·refine .inr ⟨wk.go i F' A' W' H' hlt (x.ex1 hm1) r' g,fun ys2 H2=>∃ F2 A2 W2 yd2,Ext F1 A1 F2 A2 /\ RW X.K F2 A2 W2 H2 /\ Paired (fun d v=>Rq X.K F2 v d) yd2 ys2 /\ P (i + 1) yd2 W2,fun ys2 H2 p2=>⟨ds.length - (i + 1),by omega,rfl,hlt,p2⟩,fun v H'' hy=>?_⟩;refine za0 fun gG=>?_;obtain ⟨rfl,d,hd',zd⟩:=wk.yld i F' A' W' H' v H'' hlt (x.ex1 hm1) r' g hy;refine gG ?_;clear gG;have srx:=sr.ext (e1.trans x);refine hs i d yd W' hd' p F' A' (zc3 O cap σ) H'' v _ r' srx.cmp zd fun S2 σ2 sr2 h2=>?_;refine h2 F' A' σ2 H'' _ (x0.trans (e1.trans x)) r' sr2 fun F3 A3 W3 H3 b e3 r3 h3=>?_;cases b with
   | true =>
    rw [if_pos rfl] at h3 ⊢;refine ⟨tD X S2 W3 _,fun cl C ex s H=>h3 cl C ex s H,F3,A3,(x0.trans (e1.trans x)).trans e3,r3,sr2.ext e3,fun F4 A4 W4 H4 y vy e4 r4 z4 ⟨dy,hy,h4⟩=>?_⟩;subst hy;exact ⟨F4,A4,W4,yd++[dy],(x.trans e3).trans e4,r4,zy6 (zg6 (fun _ _ t=>Rq.same (e3.trans e4).same _ t) z') (.cons z4 .nil),h4⟩
   | false =>
    rw [if_neg (by decide)] at h3 ⊢;exact ⟨F3,A3,W3,yd,x.trans e3,r3,zg6 (fun _ _ t=>Rq.same e3.same _ t) z',h3⟩
  ·have hie : i = ds.length:=by omega
   subst hie;exact .inl ⟨wk.stop F' A' W' H' (x.ex1 hm1) r' g,fun l hl=>q F' A' W' H' yd ys l (e1.trans x) r' z' hl (hd yd W' p)⟩
theorem zH1 {F : Hp} {A : List Addr} {σ : St} {H : Hp} {Q : VK} {k : List PyData->Wl->Prop} (h : BI X S W tg iter (KC X O Fv cap scope S tg elt ifs k)) (x0 : X.Am F A) (r : RW X.K F A W H) (sr : SR X.K F A S σ)
  (q : ∀ F' A' W' H' ys vs p,Ext F A F' A'->RW X.K F' A' W' H'->Paired (fun d v=>Rq X.K F' v d) ys vs->H' p = none->k ys W'->Q (.ref p) (upd H' p (.lst vs))) :
  za08 (tUI X tg iter) O cap (tUGc X (O++Fv) scope O.length tg) (tUTc X (O++Fv) scope ifs) (zL1 X (O++Fv) scope elt) σ H Q :=
 zy9 (k:=k) (fun F A σ H R x0 r sr hR=>h F A σ H R x0 r sr fun m G F1 A1 W1 H1 ds J e1 r1 hm wk hP=>by
  refine za0 fun gG=>?_;obtain ⟨P,p0,hG,hs,hd⟩:=hP;refine gG ?_;clear gG;have el : (ds.map El.d).length = ds.length:=ay3 _;refine hR m G F1 A1 W1 H1 (ds.map El.d) J e1 r1 hm ⟨fun i F' A' W' H' hi=>wk.go i F' A' W' H' (el ▸ hi),fun i F' A' W' H' x H'' hi e r g y=>?_,fun F' A' W' H' e r g=>el.symm ▸ wk.stop F' A' W' H' e r g⟩ ⟨P,p0,fun i ys W' hi=>hG i ys W' (el ▸ hi),fun i d ys W' hd' p=>?_,fun ys W' p=>hd ys W' (el ▸ p)⟩
  ·refine za0 fun gG=>?_;obtain ⟨e1,d,hd,z⟩:=wk.yld i F' A' W' H' x H'' (el ▸ hi) e r g y;refine gG ?_;clear gG;exact ⟨e1,.d d,by rw [by1,hd]; rfl,z⟩
  ·rw [by1] at hd';refine za0 fun gG=>?_;obtain ⟨d0,h0,rfl⟩:=fy7.mp hd';refine gG ?_;clear gG
   exact hs i d0 ys W' h0 p) x0 r sr q
theorem zz0 {m : Nat} {G : Wl->Prop} {ds : List PyData} {W1 : Wl} {k : List PyData->Wl->Prop} (f : PyData->PyData) (hG : G W1) (hl : ds.length <= by3)
  (h : ∀ d∈ds,BGc X (O++Fv) scope O.length (zP2 O cap S) W1 tg (.d d) fun S2 W2=>BEc X (O++Fv) scope S2 W2 elt fun y W4=>y = .d (f d) /\ W4 = W1) (hk : k (ds.map f) W1) : KC X O Fv cap scope S tg elt [] k m G ds W1:=by
 refine ⟨fun i ys W'=>W' = W1 /\ ys = (ds.take i).map f,⟨rfl,rfl⟩,fun i ys W' hi p=>?_,fun i d ys W' hd p=>?_,fun ys W' p=>?_⟩
 ·rw [p.1,p.2];exact ⟨hG,by rw [ay3,dy1]; omega⟩
 ·refine za0 fun gG=>?_;obtain ⟨rfl,rfl⟩:=p;refine gG ?_;clear gG;refine fun F A σ H v Q r sr z q=>h d (cy8 hd) F A σ H v Q r sr z fun S' σ' sr' hh=>q S' σ' sr' (zc72 ?_);rw [if_pos rfl];refine fun cl C ex s H=>(hh cl C ex s H).mono fun y W4 hy=>⟨f d,hy.1,hy.2,?_⟩
  rw [fy5,hd];simp
 ·rw [p.1,p.2,hy5];exact hk
theorem zk2 {m : Nat} {G : Wl->Prop} {ds : List PyData} {W1 : Wl} {k : List PyData->Wl->Prop} {c : Expr} (p : PyData->Bool) (f : PyData->PyData) (hG : G W1) (hl : ds.length <= by3)
  (h : ∀ d∈ds,BGc X (O++Fv) scope O.length (zP2 O cap S) W1 tg (.d d) fun S2 W2=>(∀ cl C ex s H,BT (cxB X (O++Fv) scope cl C ex s H) S2 W2 c fun b W3=>b = p d /\ W3 = W1) /\ (p d = true->BEc X (O++Fv) scope S2 W2 elt fun y W4=>y = .d (f d) /\ W4 = W1)) (hk : k ((ds.filter p).map f) W1) : KC X O Fv cap scope S tg elt [c] k m G ds W1:=by
 refine ⟨fun i ys W'=>W' = W1 /\ ys = ((ds.take i).filter p).map f,⟨rfl,rfl⟩,fun i ys W' hi q=>?_,fun i d ys W' hd q=>?_,fun ys W' q=>?_⟩
 ·rw [q.1,q.2];refine ⟨hG,?_⟩;rw [ay3];have:=qy1 p (ds.take i);rw [dy1] at this;omega
 ·refine za0 fun gG=>?_;obtain ⟨rfl,rfl⟩:=q;refine gG ?_;clear gG;refine fun F A σ H v Q r sr z q=>h d (cy8 hd) F A σ H v Q r sr z fun S' σ' sr' hh=>q S' σ' sr' (za28 fun cl C ex s H=>?_);refine BT.mono (hh.1 cl C ex s H) fun b W3 hb=>?_;refine za0 fun gG=>?_;obtain ⟨rfl,rfl⟩:=hb;refine gG ?_;clear gG
  by_cases e : p d = true
  ·rw [if_pos e];refine fun cl C ex s H=>(hh.2 e cl C ex s H).mono fun y W4 hy=>⟨f d,hy.1,hy.2,?_⟩
   rw [fy5,hd,ty5,gy1];simp [e]
  ·rw [if_neg e];refine ⟨rfl,?_⟩;rw [fy5,hd,ty5,gy1];simp [e]
 ·rw [q.1,q.2,hy5];exact hk
theorem zk7 (hc : X.calm = true) (cs : zb3 X.N X.env.scope O Fv cap scope) (h : BI X S W tg iter (KC X O Fv cap scope S tg elt ifs fun ys W'=>k (.d (.list ys)) W'))
  (hs : ∀ x,ey4 iter X.env x = pure x:=by intro _; rfl) : BE X S W (.ListComp elt [⟨tg,iter,ifs,0⟩] scope pos) k :=
 .of (za10 (g:=tUGc X (O++Fv) scope O.length tg) (tt:=tUTc X (O++Fv) scope ifs) (te:=zL1 X (O++Fv) scope elt) hc cs pi_U (fun cl C ex s H=>fun pins s' σ' H' v u Q I r zR=>by obtain ⟨t,h,_,q⟩:=zR; exact h cl C ex s H pins s' σ' H' v u Q I r q) (fun cl C ex s H=>fun pins s' σ' H' Q I zR=>by obtain ⟨t,h,q⟩:=zR; exact h cl C ex s H pins s' σ' H' Q I q)
  (fun cl C ex s H=>fun pins s' σ' H' Q I zR=>by obtain ⟨t,h,q⟩:=zR; exact h cl C ex s H pins s' σ' H' Q I q) za27 hs) fun F A σ H Q x0 r sr q=>zH1 h x0 r sr fun F' A' W' H' ys vs p x r' z hp hk=>(q.ext x).newL r' hp z hk
theorem zL2 {i : Nat} {x : Str} {pos' spos : Pos} (hN : X.N.Nodup) (hix : X.N[i]? = some x) (hx : Loc X.env.scope x) (hc : X.calm = true) (cs : zb3 X.N X.env.scope O Fv cap scope) (h : BI X S W tg iter (KC X O Fv cap scope S tg elt ifs fun ys W'=>D.nx (S.set i (some (.d (.list ys)))) W'))
  (hsw : swapsWith (.ListComp elt [⟨tg,iter,ifs,0⟩] scope pos) (some (.Name x pos')) spos.line X.env = pure true:=by rfl) (hs : ∀ x,ey4 iter X.env x = pure x:=by intro _; rfl)
  (hf : X.fn x = true \/ X.env.scope.names.lookup x = some .local:=by first | exact .inl rfl | exact .inr rfl | assumption) : BS X n S W (.Assign [.Name x pos'] (.ListComp elt [⟨tg,iter,ifs,0⟩] scope pos) spos) D :=
 .of (zc59 (g:=tUGc X (O++Fv) scope O.length tg) (tt:=tUTc X (O++Fv) scope ifs) (te:=zL1 X (O++Fv) scope elt) hN hix hx hc cs pi_U (fun cl C ex s H=>fun pins s' σ' H' v u Q I r zR=>by obtain ⟨t,h,_,q⟩:=zR; exact h cl C ex s H pins s' σ' H' v u Q I r q) (fun cl C ex s H=>fun pins s' σ' H' Q I zR=>by obtain ⟨t,h,q⟩:=zR; exact h cl C ex s H pins s' σ' H' Q I q)
  (fun cl C ex s H=>fun pins s' σ' H' Q I zR=>by obtain ⟨t,h,q⟩:=zR; exact h cl C ex s H pins s' σ' H' Q I q) za27 hsw hs hf) fun F A σ H E hn x0 r sr q=>zH1 h x0.am r sr fun F' A' W' H' ys vs p x r' z hp hk=>by
   obtain ⟨r2,y⟩:=r'.newF hp (.lst vs);exact q.nx _ _ _ _ _ _ ((x.trans y).ex1 hn) r2 ((sr.ext (x.trans y)).set (.dd (Rq.lst (.inl zb5) (Rqs.of (zg6 (fun _ _ t=>Rq.same y.same _ t) z)))) i) hk
end
def zH2 (N : List Str) (es : List El) : Sl:=es.map some++List.replicate (N.length - es.length) none
theorem SR.start {K : ay5} {F : Hp} {A : List Addr} {N : List Str} {es : List El} {vs : List V} (p : Paired (ElR K F A) es vs) : SR K F A (zH2 N es) (start N vs):=by
 have hl:=zb2 p;refine ⟨by simp [zH2,L2.start,hl],fun i e h=>?_⟩;unfold zH2 at h;unfold L2.start
 by_cases hi : i < es.length
 ·rw [ay8 (by simpa using hi),by1] at h;rw [ay8 (by rw [ay3,<- hl]; exact hi),by1];cases q : es[i]? with
  | none=>rw [q] at h; cases h
  | some e' =>
   rw [q] at h;cases h;refine za0 fun gG=>?_;obtain ⟨v,h1,h2⟩:=zh6 p q;refine gG ?_;clear gG;exact ⟨v,by rw [h1]; rfl,h2⟩
 ·rw [cy2 (by simpa using hi),List.getElem?_replicate] at h
  split at h <;> cases h
def closed (W : Wl) : Prop:=∀ o∈W,o.below W.length
theorem RW.closed {K : ay5} {F : Hp} {A : List Addr} {W : Wl} {H : Hp} (r : RW K F A W H) : closed W:=fun o ho=>by
 have el : ∀ {e : El} {v : V},ElR K F A e v->e.below W.length:=fun {e v} z=>by
  cases e with
  | d x=>trivial
  | s ns=>trivial
  | x C=>trivial
  | p ks=>trivial
  | t xs =>
   refine za0 fun gG=>?_;obtain ⟨a,vs,_,_,p⟩:=z;refine gG ?_;clear gG;intro k hk;refine za0 fun gG=>?_;obtain ⟨i,hi⟩:=gy7.mp hk;obtain ⟨v,_,b,hb,_⟩:=zh6 p hi;refine gG ?_;clear gG;rw [<- r.len];exact (ay4.mp hb).1
  | o k =>
   refine za0 fun gG=>?_;obtain ⟨a,ha,_⟩:=z;refine gG ?_;clear gG;show k < W.length;rw [<- r.len];exact (ay4.mp ha).1
 obtain ⟨k,hk⟩:=gy7.mp ho;have hl : k < A.length:=by rw [r.len]; exact (ay4.mp hk).1
 refine za0 fun gG=>?_;obtain ⟨u,_,q⟩:=r.obj k A[k] o (by simp [hl]) hk;refine gG ?_;clear gG;cases o with
 | lst es =>
  refine za0 fun gG=>?_;obtain ⟨vs,_,p⟩:=q;refine gG ?_;clear gG;intro e he;refine za0 fun gG=>?_;obtain ⟨i,hi⟩:=gy7.mp he;obtain ⟨v,_,z⟩:=zh6 p hi;refine gG ?_;clear gG;exact el z
 | dK es =>
  refine za0 fun gG=>?_;obtain ⟨vs,_,p⟩:=q;refine gG ?_;clear gG;intro e he;refine za0 fun gG=>?_;obtain ⟨i,hi⟩:=gy7.mp he;obtain ⟨v,_,z⟩:=zh6 p hi;refine gG ?_;clear gG;exact el z.2
 | dT es =>
  refine za0 fun gG=>?_;obtain ⟨vs,_,p⟩:=q;refine gG ?_;clear gG;intro e he;refine za0 fun gG=>?_;obtain ⟨i,hi⟩:=gy7.mp he;obtain ⟨v,_,z⟩:=zh6 p hi;refine gG ?_;clear gG;exact el z.2
 | fT _ es =>
  refine za0 fun gG=>?_;obtain ⟨vs,_,p⟩:=q;refine gG ?_;clear gG;intro e he;refine za0 fun gG=>?_;obtain ⟨i,hi⟩:=gy7.mp he;obtain ⟨v,_,z⟩:=zh6 p hi;refine gG ?_;clear gG;exact el z.2
 | fK _ es =>
  refine za0 fun gG=>?_;obtain ⟨vs,_,p⟩:=q;refine gG ?_;clear gG;intro e he;refine za0 fun gG=>?_;obtain ⟨i,hi⟩:=gy7.mp he;obtain ⟨v,_,z⟩:=zh6 p hi;refine gG ?_;clear gG;exact el z.2
theorem closed.take {W V : Wl} (h : closed W) : ∀ o∈(W++V).take W.length,o.below W.length:=by
 rw [vy8];exact h
theorem closed.set {W : Wl} (h : closed W) (j : Nat) {o : OD} (ho : o.below W.length) : closed (W.set j o):=fun u hu=>by
 rw [ly6];rcases List.mem_or_eq_of_mem_set hu with hu | rfl
 ·exact h u hu
 ·exact ho
section
variable {X : Bc} {n : Nat} {S : Sl} {W : Wl} {D : DB}
theorem zg4 {e : Expr} {pos : Pos} (h : BE X S W e fun y W2=>∃ d W0 V,y = .d d /\ W2 = W0++V /\ n = W0.length /\ closed W0 /\ D.rt (.d d) W0) : BS X n S W (.Return (some e) pos) D :=
 zK9 n (ay6 _) (h.mono fun y W2 zR=>by
  refine za0 fun gG=>?_;obtain ⟨d,W0,V,e1,e2,e3,hc,hk⟩:=zR;refine gG ?_;clear gG;subst e1 e2 e3
  exact ⟨trivial,hc.take,by rw [vy8]; exact hk⟩)
theorem zb39 {e : Expr} {pos : Pos} (h : BE X S W e fun y W2=>∃ ds W0 V,y = .o W0.length /\ W2 = W0++.lst (zb4 ds) :: V /\ n = W0.length /\ closed W0 /\ D.rt (.d (.list ds)) W0) : BS X n S W (.Return (some e) pos) D :=
 zT9 (h.mono fun y W2 zR=>by
  refine za0 fun gG=>?_;obtain ⟨ds,W0,V,e1,e2,e3,hc,hk⟩:=zR;refine gG ?_;clear gG;subst e1 e2 e3
  exact ⟨_,ds,rfl,ay6 _,by simp,hc.take,by rw [vy8]; exact hk⟩)
end
structure CC where
 cdv : Value
 A : Around
 outer : List Env
 s : Shared
 H : Hp
 E : XK
 F0 : Hp
 A0 : List Addr
abbrev endD (k : KB) : DB:={ nx:=fun _ W'=>k (.d .none) W',rt:=k }
abbrev mkB (N : List Str) (qual : Str) (sc : Scope) (P : cy7) (w : World) (K : ay5) (mg : Str->Option Value) (base : Heap) (f : Addr) (c : CC) : Bc:=⟨(cxOf CX0 P w K mg base N qual sc f c.cdv c.A c.outer c.s c.H c.E).nox,c.F0,c.A0,fun _ _ _=>False⟩
theorem zo8 {P : cy7} {w : World} {K : ay5} {mg : Str->Option Value} {base : Heap} {x qual : Str} {st : Stmt} {f : Addr} {fd : ey7} {N ps : List Str} {j : Nat} {R : RB} (F : Fun K x qual st f fd) (S : zb8 N ps (za1 st)) (len : ∀ es W k,R es W k->es.length = ps.length)
  (hbody : ∀ c : CC,zA3 j (c.A.deeper (envOfC qual (za1 st) c.s.heap.objs.size f c.cdv))->∀ es W k,closed W->R es W k ->
   BSs (mkB N qual (za1 st) P w K mg base f c) W.length (zH2 N es) W (za9 st) (endD k)) : zj0 P w K mg base CX0 (j + 1) f fd ps (spB K R) :=
 F.ok S (fun vs H Q E zR=>by obtain ⟨Fh,A,W,es,k,r,p,h,q⟩:=zR; rw [<- zb2 p]; exact len es W k h) fun cdv A outer s H vs Q E hr zR=>by
  refine za0 fun gG=>?_;obtain ⟨Fh,Ad,W,es,k,r,p,h,q⟩:=zR;refine gG ?_;clear gG;refine ⟨_,hbody ⟨cdv,A,outer,s,H,E,Fh,Ad⟩ hr es W k r.closed h,Fh,Ad,by rw [r.len]; exact ay6 _,⟨.refl,by rw [r.len]; exact ay6 _⟩,r,.start p,?_⟩;have ext : ∀ {F' A'},Ex1 W.length Fh Ad F' A'->Ext Fh Ad F' A':=fun y=>⟨y.same,by have:=y.pre; rw [<- r.len,hy5] at this; exact this⟩
  exact ⟨fun F' A' W' H' S' σ' y r' sr' h'=>q F' A' W' H' _ _ (ext y) r' (.dd Rq.non) h',fun _ _ _ _ _ _ _ _ _ h=>h.elim,fun _ _ _ _ _ _ _ _ _ h=>h.elim,fun F' A' W' H' e v y r' z h'=>q F' A' W' H' e v (ext y) r' z h'⟩
section
variable {X : Bc} {n : Nat} {S : Sl} {W : Wl} {k : KB} {D : DB}
theorem bv (i : Nat) {x : Str} {pos : Pos} {e : El} (hs : S[i]? = some (some e)) (h : k e W) (hN : X.N[i]? = some x:=by rfl) (hv : Vis X.env.scope x:=by first | exact Or.inl rfl | exact Or.inr (Or.inl rfl) | exact Or.inr (Or.inr rfl)) (hd : (x == ("__debug__" : Str)) = false:=by decide)
  (hcd : (x == ("__classdict__" : Str)) = false:=by decide) : BE X S W (.Name x pos) k:=zd74 hN hv hs h hd hcd
theorem gS {x c : Str} {t : Tok} {pos : Pos} (hm : X.mg x = some (.str c t)) (h : k (.d (.str c)) W) (hg : Gl X x:=by rfl) (hd : (x == ("__debug__" : Str)) = false:=by decide) : BE X S W (.Name x pos) k:=zK5 (v:=.str c) hg hm ⟨t,rfl⟩ (fun _=>.str c) h hd
theorem gI {x : Str} {c : Int} {t : Tok} {pos : Pos} (hm : X.mg x = some (.int c t)) (h : k (.d (.int c)) W) (hg : Gl X x:=by rfl) (hd : (x == ("__debug__" : Str)) = false:=by decide) : BE X S W (.Name x pos) k:=zK5 (v:=.int c) hg hm ⟨t,rfl⟩ (fun _=>.int c) h hd
theorem zb40 {a b c : Expr} {op op' : CmpOp} {pos : Pos} {k : TB}
  (h : BE X S W a fun x W1=>BE X S W1 b fun y W2=>OB X (gy5 op) x y W2 fun z W3=>∃ t,z = .d (.bool t) /\ if t = true then BE X S W3 c fun u W4=>OB X (gy5 op') y u W4 fun z W5=>∃ t,z = .d (.bool t) /\ k t W5 else k false W3)
  (hm : lastMarks [op,op'] [b,c] = false:=by with_unfolding_all rfl) : BT X S W (.Compare a [op,op'] [b,c] pos) k :=
 .of (zb19 op_U op_U zi1 zi1 zi1 hm) fun F A σ H Q x0 r sr q =>
  h.use x0 r sr fun F1 A1 W1 H1 x vx e1 r1 z1 h1=>h1.use (x0.trans e1) r1 (sr.ext e1) fun F2 A2 W2 H2 y vy e2 r2 z2 h2=>h2 F2 A2 H2 _ vx vy r2 (z1.ext e2) z2 fun F3 A3 W3 H3 z vz e3 r3 z3 zR=>by
   refine za0 fun gG=>?_;obtain ⟨t,ht,h3⟩:=zR;subst ht;refine gG ?_;clear gG;obtain rfl:=Rq.zv3 z3;refine ⟨t,rfl,?_⟩;have x3:=(e1.trans e2).trans e3;cases t with
   | true =>
    rw [if_pos rfl] at h3 ⊢
    exact h3.use (x0.trans x3) r3 (sr.ext x3) fun F4 A4 W4 H4 u vu e4 r4 z4 h4=>h4 F4 A4 H4 _ vy vu r4 (z2.ext (e3.trans e4)) z4 fun F5 A5 W5 H5 z vz e5 r5 z5 zR=>by
     refine za0 fun gG=>?_;obtain ⟨t,ht,h5⟩:=zR;subst ht;refine gG ?_;clear gG;obtain rfl:=Rq.zv3 z5;exact ⟨t,rfl,q F5 A5 W5 H5 t ((x3.trans e4).trans e5) r5 h5⟩
   | false =>
    rw [if_neg (by decide)] at h3 ⊢;exact ⟨false,rfl,q F3 A3 W3 H3 false x3 r3 h3⟩
def truD : PyData->Bool
 | .none=>false | .bool b=>b | .int i=>i != 0 | .str y=>(y.length : Int) != 0 | .list xs=>!xs.isEmpty | .tuple xs=>!xs.isEmpty | .dict xs=>!xs.isEmpty
theorem zc16 {e : Expr} {k : TB} (h : BE X S W e fun x W1=>∃ d,dat W1 x d /\ (∀ y,d = .str y->y.length <= by3) /\ k (truD d) W1) (he : ∀ whole,isTrue e X.env whole = (do let v <- whole; standAt e.pos; holding [v] (truthy v)):=by intro _; rfl) : BT X S W e k :=
 .of (zb20 zi1 he) fun F A σ H Q x0 r sr q=>h.use x0 r sr fun F1 A1 W1 H1 x vx e1 r1 z1 zR=>by
  refine za0 fun gG=>?_;obtain ⟨d,hd,hy,h1⟩:=zR;refine gG ?_;clear gG;refine ⟨truD d,?_,q F1 A1 W1 H1 _ e1 r1 h1⟩;have z:=r1.dat z1 hd;cases z with
  | non=>rfl
  | bl b=>rfl
  | int i=>rfl
  | str y=>exact ⟨hy y rfl,rfl⟩
  | @lst a vs ds hs t=>exact .inl ⟨vs,.inl hs,by have:=zb2 t.pd; cases vs <;> cases ds <;> simp_all [truD]⟩
  | @tup a vs ds hs t=>exact .inr (.inl ⟨vs,hs,by have:=zb2 t.pd; cases vs <;> cases ds <;> simp_all [truD]⟩)
  | dct hs=>exact .inr (.inr ⟨[],hs,rfl⟩)
theorem zP3 {K : ay5} {F : Hp} : ∀ {xs : List Int},Paired (fun d v=>Rq K F v d) (xs.map PyData.int) (xs.map V.int)
 | []=>.nil
 | x :: xs=>.cons (Rq.int x) zP3
theorem za30 {ns : List Int} {lo hi : Option Int} (h : k (.d (.list ((zm1 ns lo hi).map .int))) W) : LB X (.s ns) lo hi W k:=.of zK2 fun F A H Q vx r zx q=>by
 refine za0 fun gG=>?_;obtain ⟨a,rfl,hs⟩:=zx;refine gG ?_;clear gG;have e : zK1 (ns.map V.int) lo hi = (zm1 ns lo hi).map V.int:=by unfold zK1 zm1; rw [ay3,qy2,List.map_drop]
 refine ⟨a,_,rfl,r.sub.seq hs,fun p hp=>?_⟩;rw [e];exact q.newL r hp zP3 h
end
end L2
namespace L2
end L2
namespace L2
open PySem PySem.Spec PyProof.Rows
theorem zc1.at {P : cy7} {w : World} {H : Hp} {h : Heap} {a : Addr} {o : HO} (x : zc1 P w H h a o) : ∃ ob,h.get? a = some ob:=by
 cases o with
 | lst xs=>obtain ⟨_,_,_,_,e⟩:=x; exact ⟨_,e⟩
 | tup xs=>obtain ⟨_,_,_,o,e,_⟩:=x; exact ⟨_,e⟩
 | dK kvs=>obtain ⟨_,_,_,_,o,_,_,e,_⟩:=x; exact ⟨_,e⟩
 | dT kvs=>obtain ⟨_,_,_,_,o,_,_,e,_⟩:=x; exact ⟨_,e⟩
 | set S n=>obtain ⟨o,_,_,_,e,_⟩:=x; exact ⟨_,e⟩
 | ins C dx fs=>obtain ⟨_,_,_,e,_⟩:=x; exact ⟨_,e⟩
 | own y=>obtain ⟨_,e⟩:=x; exact ⟨_,e⟩
 | xd fs=>obtain ⟨_,⟨_,_,_,e,_⟩,_⟩:=x; exact ⟨_,e⟩
 | rng lo hi=>obtain ⟨_,_,_,e⟩:=x; exact ⟨_,e⟩
 | frz ob u=>obtain ⟨e,_⟩:=x; exact ⟨_,e⟩
 | tbl ps=>exact ⟨_,show h.get? a = some _ from x⟩
 | met f y=>exact ⟨_,show h.get? a = some _ from x⟩
 | ext φ=>obtain ⟨_,⟨_,e⟩,_⟩:=x; exact ⟨_,e⟩
section
variable {P : cy7} {w : World} {B h0 h h'' : Heap} {fr : List Addr} {H H' : Hp}
end
section
variable {M : Model} {A : Around} {E : Value->Shared->Prop} {s : Shared} {B : Heap} {env : Env} {outer : List Env} {L e : Addr} {cls : Value} {Q : Unit->Shared->Prop}
end
section
variable {X : Cx} {C : Addr} {H' : Hp} {σ : St} {e : Value} {s' : Shared}
end
section
variable {X : Bc} {n : Nat} {S : Sl} {W : Wl} {k : KB} {D : DB}
end
abbrev Cx.tryB (X : Cx) (pn : List (Addr × Obj)) (xe : Value->Shared->Prop) : Cx:={ X with pn:=pn,xe:=xe }
section
variable {X : Cx} {pins : List (Addr × Obj)} {σ : St} {H : Hp} {s : Shared} {xe : Value->Shared->Prop} {ea : Addr}
theorem Cx.Ok.tryB (ok : X.Ok) (pn : List (Addr × Obj)) : (X.tryB pn xe).Ok :=
 ⟨ok.mod,ok.kind,ok.glob,ok.blt,ok.above,ok.inj,ok.has,ok.cab,ok.hd,ok.frames,ok.stk,ok.exf,ok.bs,ok.bsz,ok.noex,ok.exfs,ok.zS8,ok.frf⟩
theorem Cx.Ok.zt0 {pn : List (Addr × Obj)} (ok : (X.tryB pn xe).Ok) : X.Ok :=
 ⟨ok.mod,ok.kind,ok.glob,ok.blt,ok.above,ok.inj,ok.has,ok.cab,ok.hd,ok.frames,ok.stk,ok.exf,ok.bs,ok.bsz,ok.noex,ok.exfs,ok.zS8,ok.frf⟩
theorem Inv.tryB (I : Inv X pins σ H s) : Inv (X.tryB (X.pn++pins) xe) [] σ H s:=⟨I.ok.tryB _,I.os,I.bare,I.base,I.loc,I.cell,I.free,I.freeC,fun p hp=>I.pin p (by simpa using hp),I.hok,I.len⟩
theorem Inv.zt0 {pins' : List (Addr × Obj)} (I : Inv (X.tryB (X.pn++pins) xe) pins' σ H s) : Inv X pins σ H s:=⟨I.ok.zt0,I.os,I.bare,I.base,I.loc,I.cell,I.free,I.freeC,fun p hp=>I.pin p (ky3 _ hp),I.hok,I.len⟩
theorem SP.zt0 {pins' : List (Addr × Obj)} {D : Ends} {f : Flow} (h : SP (X.tryB (X.pn++pins) xe) pins' D f s) : SP X pins D f s:=by
 cases f with
 | next=>obtain ⟨σ',H',I,q⟩:=h; exact ⟨σ',H',I.zt0,q⟩
 | brk=>obtain ⟨σ',H',I,q⟩:=h; exact ⟨σ',H',I.zt0,q⟩
 | cont=>obtain ⟨σ',H',I,q⟩:=h; exact ⟨σ',H',I.zt0,q⟩
 | ret u=>obtain ⟨v,σ',H',I,r,q⟩:=h; exact ⟨v,σ',H',I.zt0,r,q⟩
end
section
variable {X : Bc} {n : Nat} {S : Sl} {W : Wl} {D : DB}
end
end L2
namespace K1
open PySem L2
def LET : Str := "abcdefghijklmnopqrstuvwxyz"
def isNm (x : Str) : Bool:=(decide (1 <= x.length) && decide (x.length <= 8)) && x.cps.toList.all fun c=>decide (97 <= c) && decide (c <= 122)
theorem zL3 : LET.length = 26:=by decide +kernel
theorem zB4 (i : Nat) (h : i < 26) : LET.cps[i]? = some (97 + i):=by
 have : ∀ j : Fin 26,LET.cps[j.1]? = some (97 + j.1):=by decide +kernel
 exact this ⟨i,h⟩
theorem zd90 (c : Nat) : (!(wy8 LET ⟨#[c]⟩ 0 LET.length 1).isEmpty) = (decide (97 <= c) && decide (c <= 122)):=by
 have sub1 : ∀ i,Builtin.Str.subAt LET ⟨#[c]⟩ i = true ↔ LET.cps[i]? = some c:=fun i=>by
  unfold Builtin.Str.subAt;show (LET.cps.extract i (i + 1) == #[c]) = true ↔ _;rw [beq_iff_eq];have hs : LET.cps.size = 26:=zL3
  by_cases hi : i < 26
  ·rw [zB4 i hi]
   have : LET.cps.extract i (i + 1) = #[97 + i]:=by
    apply Array.ext
    ·simp [hs]; omega
    ·intro j h1 h2;have hj : j = 0:=by simp at h2; omega
     subst hj;have:=zB4 i hi;rw [Array.getElem_extract];simp;rw [qy9 (by omega)] at this;simpa using this
   rw [this];simp
  ·constructor
   ·intro e;have:=congrArg Array.size e;simp [hs] at this;omega
   ·intro e;rw [my7 (by omega)] at e;cases e
 rcases PySem.StrLaws.occ_head LET ⟨#[c]⟩ 1 (ay6 _) with ⟨h0,hn⟩ | ⟨i,r,h0,hi,_⟩
 ·rw [h0]
  by_cases hc : 97 <= c /\ c <= 122
  ·exfalso;refine hn (c - 97) ⟨?_,(sub1 _).mpr ?_⟩
   ·rw [zL3]; show c - 97 + 1 <= 26; omega
   ·rw [zB4 _ (by omega)]; congr 1; omega
  ·have : (decide (97 <= c) && decide (c <= 122)) = false:=by
    by_cases h1 : 97 <= c
    ·have : ¬ c <= 122:=fun h2=>hc ⟨h1,h2⟩;simp [this]
    ·simp [h1]
   rw [this];rfl
 ·rw [h0];have e:=(sub1 i).mp hi.2
  have hlt : i < 26:=by
   have:=hi.1;rw [zL3] at this;have : i + 1 <= 26:=this;omega
  rw [zB4 i hlt] at e;have e : 97 + i = c:=jy1 e;have h1 : 97 <= c:=by omega
  have h2 : c <= 122:=by omega
  simp [h1,h2]
abbrev cs (x : Str) : List Nat:=x.cps.toList
theorem zc17 (x : Str) : (cs x).length = x.length:=jy2
theorem zc18 {x : Str} : isNm x = true ↔ 1 <= (cs x).length /\ (cs x).length <= 8 /\ ∀ c∈cs x,97 <= c /\ c <= 122:=by
 unfold isNm;rw [<- zc17];show ((decide (1 <= (cs x).length) && decide ((cs x).length <= 8)) && (cs x).all fun c=>decide (97 <= c) && decide (c <= 122)) = true ↔ _;generalize cs x = l;simp [and_assoc]
structure za7 where
 tk : Bool
 x : Str
 y : Str
 w : Str
 deriving DecidableEq
def za7.kd (d : za7) : Str:=if d.tk then "take" else "send"
structure za7.Ok (d : za7) : Prop where
 x : isNm d.x = true
 y : isNm d.y = true
 w : isNm d.w = true
 ne : d.x ≠ d.y
theorem kd_len (d : za7) : d.kd.length = 4:=by
 unfold za7.kd
 split <;> decide
theorem zd91 (d : za7) : d.kd = "send" \/ d.kd = "take" := by
 unfold za7.kd
 split
 ·exact .inr rfl
 ·exact .inl rfl
theorem zd92 {d e : za7} (h : d.kd = e.kd) : d.tk = e.tk:=by
 unfold za7.kd at h;have : ("take" : Str) ≠ "send" := by decide +kernel
 cases hd : d.tk <;> cases he : e.tk <;> simp only [hd,he] at h ⊢ <;> first | rfl | exact absurd h this | exact absurd h.symm this
def dP (d : za7) : PyData:=.tuple [.str d.kd,.str d.x,.str d.y,.str d.w]
def rP (ds : List za7) : PyData:=.tuple (ds.map dP)
theorem za32 {x : Str} (h : isNm x = true) : x.length <= 8:=by
 refine za0 fun gG=>?_;obtain ⟨_,h2,_⟩:=zc18.mp h;refine gG ?_;clear gG;rw [zc17] at h2;exact h2
theorem zj2 {x : Str} (h : isNm x = true) : uy4 x = true:=by
 have h3:=(zc18.mp h).2.2;show x.cps.all (· < 0x110000) = true;rw [Array.all_eq_true_iff_forall_mem];intro c hc;have:=h3 c (by simpa using hc);simp;omega
theorem zb41 (d : za7) : uy4 d.kd = true:=by
 rcases zd91 d with h | h <;> rw [h] <;> decide +kernel
theorem ze87 {d : za7} (h : d.Ok) : (dP d).canLay0 = true /\ (dP d).depth <= 2:=by
 constructor
 ·simp [dP,qy8,oy7,zj2 h.x,zj2 h.y,zj2 h.w,zb41]
 ·simp [dP,PyData.depth,ry4]
theorem za33 : ∀ {ds : List za7},(∀ d∈ds,d.Ok)->oy7 (ds.map dP) = true /\ ry4 (ds.map dP) <= 2
 | [],_=>⟨rfl,by simp [ry4]⟩
 | d :: ds,h=>by
  refine za0 fun gG=>?_;obtain ⟨h1,h2⟩:=ze87 (h d ay9);obtain ⟨h3,h4⟩:=za33 fun e he=>h e (by0 _ he);refine gG ?_;clear gG;constructor
  ·simp [oy7,h1,h3]
  ·simp only [ey9,ry4];omega
theorem zU1 {ds : List za7} (h : ∀ d∈ds,d.Ok) : Dat (rP ds):=by
 obtain ⟨h1,h2⟩:=za33 h;constructor
 ·simp [rP,qy8,h1]
 ·simp only [rP,PyData.depth];omega
theorem ze88 (d e : za7) : py8 (dP d) (dP e) = decide (d = e):=by
 refine za0 fun gG=>?_;obtain ⟨dt,dx,dy,dw⟩:=d;obtain ⟨et,ex,ey,ew⟩:=e;refine gG ?_;clear gG;simp only [dP,py8,ny3,Bool.and_true];rw [py0];simp only [sy5,beq_iff_eq,decide_eq_true_eq,za7.mk.injEq];constructor
 ·intro gX;refine za0 fun gG=>?_;obtain ⟨h1,h2,h3,h4⟩:=gX;refine gG ?_;clear gG;exact ⟨zd92 (d:=⟨dt,dx,dy,dw⟩) (e:=⟨et,ex,ey,ew⟩) h1,h2,h3,h4⟩
 ·intro gX;refine za0 fun gG=>?_;obtain ⟨rfl,rfl,rfl,rfl⟩:=gX;refine gG ?_;clear gG;exact ⟨rfl,rfl,rfl,rfl⟩
theorem zc19 : ∀ (ds es : List za7),ny3 (ds.map dP) (es.map dP) = decide (ds = es)
 | [],[]=>by simp [ny3]
 | [],_ :: _=>by simp [ny3]
 | _ :: _,[]=>by simp [ny3]
 | d :: ds,e :: es=>by
  simp only [ey9,ny3,ze88,zc19 ds es];rw [py0];simp
theorem zc74 (ds es : List za7) : py8 (rP ds) (rP es) = decide (ds = es):=by
 simp only [rP,py8,zc19]
theorem zk8 {α : Type} (xs : List α) (k : Nat) : zm1 xs (some (k : Int)) none = xs.drop k:=by
 unfold zm1;have e1 : HT.sIx xs.length 0 (some (k : Int)) = min k xs.length:=HT.zZ8 xs.length 0 k;have e2 : HT.sIx xs.length xs.length none = xs.length:=rfl;rw [e1,e2]
 by_cases h : k <= xs.length
 ·rw [py1 h,my8 (by rw [wy1]; exact ay6 _)]
 ·rw [List.drop_eq_nil_of_le (show xs.length <= k by omega),List.drop_eq_nil_of_le (by omega)];simp
theorem zm4 {α : Type} (xs : List α) (k : Nat) : zm1 xs none (some (k : Int)) = xs.take k:=by
 unfold zm1;have e1 : HT.sIx xs.length 0 none = 0:=rfl;have e2 : HT.sIx xs.length xs.length (some (k : Int)) = min k xs.length:=HT.zZ8 xs.length xs.length k;rw [e1,e2,List.drop_zero,Nat.sub_zero]
 by_cases h : k <= xs.length
 ·rw [py1 h]
 ·rw [my8 (by omega),my8 (by omega)]
theorem zh7 {α : Type} {xs : List α} {k : Nat} {x : α} (h : xs[k]? = some x) : atI xs (k : Int) = some x:=by
 have hk:=(ay4.mp h).1;unfold atI ixN;rw [if_pos (by omega),if_pos (by omega)];simpa using h
theorem zU2 {hs : List Str} {x : Str} (hl : 2 <= hs.length) (hn : hs.Nodup) : 0 < (hs.filter fun z=>decide (z ≠ x)).length:=by
 match hs,hl with
 | a :: b :: r,_ =>
  apply List.length_pos_of_mem (a:=if a = x then b else a);rw [gy4]
  by_cases e : a = x
  ·rw [if_pos e];refine ⟨by simp,?_⟩
   have : b ≠ x:=by
    rintro rfl;subst e;simp at hn
   simpa using this
  ·rw [if_neg e];exact ⟨by simp,by simpa using e⟩
theorem zB5 : ∀ (a b : List Str),ny3 (a.map .str) (b.map .str) = decide (a = b)
 | [],[]=>by simp [ny3]
 | [],_ :: _=>by simp [ny3]
 | _ :: _,[]=>by simp [ny3]
 | d :: ds,e :: es=>by
  simp only [ey9,ny3,zB5 ds es,py8];rw [py0];simp
theorem zP4 (a b : List Str) : py8 (.list (a.map .str)) (.list (b.map .str)) = decide (a = b):=by
 simp only [py8,zB5]
theorem zP5 : ∀ {ns : List Str},(∀ x∈ns,uy4 x = true)->oy7 (ns.map .str) = true /\ ry4 (ns.map .str) <= 1
 | [],_=>⟨rfl,by simp [ry4]⟩
 | x :: r,h=>by
  obtain ⟨h1,h2⟩:=zP5 fun y hy=>h y (by0 _ hy);refine ⟨by simp [oy7,qy8,h1,h x ay9],?_⟩;simp only [ey9,ry4,PyData.depth];omega
theorem zm9 {ns : List Str} (h : ∀ x∈ns,uy4 x = true) : Dat (.list (ns.map .str)):=by
 obtain ⟨h1,h2⟩:=zP5 h;exact ⟨by simp [qy8,h1],by simp only [PyData.depth]; omega⟩
theorem za34 {ns : List Str} (h : ∀ x∈ns,isNm x = true) : ∀ x∈ns,uy4 x = true:=fun x hx=>zj2 (h x hx)
end K1
namespace L2
open PySem PySem.Spec PyProof.Rows
section
variable {X : Cx} {C ea : Addr} {H' : Hp} {σ : St} {s' : Shared}
end
section
variable {X : Bc} {n : Nat} {S : Sl} {W : Wl} {D : DB}
end
section
variable {κ : Type} [DecidableEq κ]
def zy0 (kvs : List (κ × V)) (k : κ) : Option V:=(kvs.find? fun kv=>decide (kv.1 = k)).map (·.2)
def putK (kvs : List (κ × V)) (k : κ) (v : V) : List (κ × V) :=
 if (kvs.any fun kv=>decide (kv.1 = k)) = true then kvs.map (fun kv=>if kv.1 = k then (kv.1,v) else kv) else kvs++[(k,v)]
theorem zp4 {p : κ × V} {r : List (κ × V)} {k : κ} (e : p.1 = k) : zy0 (p :: r) k = some p.2:=by simp [zy0,iy5,e]
theorem zp5 {p : κ × V} {r : List (κ × V)} {k : κ} (e : ¬ p.1 = k) : zy0 (p :: r) k = zy0 r k:=by simp [zy0,iy5,e]
theorem zB6 (k : κ) : ∀ kvs : List (κ × V),(kvs.any fun kv=>decide (kv.1 = k)) = (zy0 kvs k).isSome
 | []=>rfl
 | p :: r=>by
  rw [sy3]
  by_cases e : p.1 = k
  ·simp only [zp4 e,decide_eq_true e,Bool.true_or,Option.isSome_some]
  ·rw [zp5 e,decide_eq_false e,Bool.false_or]; exact zB6 k r
theorem zo0 (kvs : List (κ × V)) (k : κ) (v : V) : (putK kvs k v).length <= kvs.length + 1:=by
 unfold putK
 split
 ·rw [ay3]; omega
 ·rw [cy5,py7,List.length_nil]; omega
theorem zb42 {kvs : List (κ × V)} {k : κ} (v : V) (h : zy0 kvs k = none) : putK kvs k v = kvs++[(k,v)]:=by
 unfold putK;rw [zB6,h];exact if_neg (by decide)
theorem zA1.za35 {o : Option V} {u : Option Value} (r : zA1 o u) : o.isSome = u.isSome:=by
 cases o with
 | none=>cases u with
  | none=>rfl
  | some _=>exact (show False from r).elim
 | some _=>cases u with
  | none=>exact (show False from r).elim
  | some _=>rfl
theorem zA1.getD {o : Option V} {u : Option Value} {d : V} {d' : Value} (r : zA1 o u) (rd : RelV d d') : RelV (o.getD d) (u.getD d'):=by
 cases o with
 | none=>cases u with
  | none=>exact rd
  | some _=>exact (show False from r).elim
 | some _=>cases u with
  | none=>exact (show False from r).elim
  | some _=>exact r
theorem KV.val {kvs : List (κ × V)} {vs : List (κ × Value)} (r : KV kvs vs) (k : κ) : zA1 (zy0 kvs k) (valueAt vs k):=by
 unfold KV at r
 induction r with
 | nil=>exact vy1
 | @cons p q ps qs h t ih =>
  obtain ⟨h1,h2⟩:=h
  by_cases e : p.1 = k
  ·have e' : q.1 = k:=h1.symm.trans e;have b : valueAt (q :: qs) k = some q.2:=by simp [valueAt,iy5,e']
   rw [zp4 e,b]; exact h2
  ·have e' : ¬ q.1 = k:=fun z=>e (h1.trans z);have b : valueAt (q :: qs) k = valueAt qs k:=by simp [valueAt,iy5,e']
   rw [zp5 e,b]; exact ih
theorem KV.any {kvs : List (κ × V)} {vs : List (κ × Value)} (r : KV kvs vs) (k : κ) : (kvs.any fun kv=>decide (kv.1 = k)) = vs.any fun kv=>decide (kv.1 = k):=by
 unfold KV at r
 induction r with
 | nil=>rfl
 | cons h t ih=>rw [sy3,sy3,ih,h.1]
theorem KV.repl {kvs : List (κ × V)} {vs : List (κ × Value)} (r : KV kvs vs) (k : κ) {y : V} {u : Value} (ry : RelV y u) :
  KV (kvs.map fun kv=>if kv.1 = k then (kv.1,y) else kv) (vs.map fun kv=>if kv.1 = k then (kv.1,u) else kv):=by
 unfold KV at r ⊢
 induction r with
 | nil=>exact .nil
 | @cons p q ps qs h t ih =>
  rw [ey9,ey9];refine .cons ?_ ih;obtain ⟨h1,h2⟩:=h
  by_cases e : p.1 = k
  ·rw [if_pos e,if_pos (h1.symm.trans e)]; exact ⟨h1,ry⟩
  ·rw [if_neg e,if_neg (fun z=>e (h1.trans z))]; exact ⟨h1,h2⟩
theorem KV.put {kvs : List (κ × V)} {vs : List (κ × Value)} (r : KV kvs vs) (k : κ) {y : V} {u : Value} (ry : RelV y u) : KV (putK kvs k y) (stored vs k u):=by
 unfold putK stored;rw [r.any k]
 by_cases e : (vs.any fun kv=>decide (kv.1 = k)) = true
 ·rw [if_pos e,if_pos e]; exact r.repl k ry
 ·rw [if_neg e,if_neg e]; exact Paired.snoc r ⟨rfl,ry⟩
theorem KV.length {kvs : List (κ × V)} {vs : List (κ × Value)} (r : KV kvs vs) : kvs.length = vs.length:=Paired.length r
end
theorem zb43 {P : cy7} {w : World} {k : Key} {u : Value} (r : RelV (kV k) u) : (zc5 P w).is k u = true:=by
 cases k with
 | inl i=>obtain ⟨t,e⟩:=(show ∃ t,u = Value.int i t from r); subst e; exact zJ7 P w i t
 | inr x=>obtain ⟨t,e⟩:=(show ∃ t,u = Value.str x t from r); subst e; exact zu5 P w x t
theorem zw1 {P : cy7} {w : World} : ∀ {ks : List Key} {us : List Value},Vals (ks.map kV) us->ItemsAre (zc5 P w) ks us
 | [],_,r=>by rw [List.map_nil] at r; cases r; exact .nil
 | k :: ks,_,r=>by
  rw [ey9] at r;cases r with
  | cons h t=>exact .cons (zb43 h) (zw1 t)
abbrev KT (H : Hp) : List (List Key × V)->List (List Key × Addr × Value)->Prop:=Paired fun p q=>p.1 = q.1 /\ H q.2.1 = some (.tup (p.1.map kV)) /\ RelV p.2 q.2.2
theorem KT.val {H : Hp} {kvs : List (List Key × V)} {xs : List (List Key × Addr × Value)} (r : KT H kvs xs) (k : List Key) : zA1 (zy0 kvs k) ((atKey xs k).map (·.2)):=by
 induction r with
 | nil=>exact vy1
 | @cons p q ps qs h t ih =>
  refine za0 fun gG=>?_;obtain ⟨h1,_,h2⟩:=h;refine gG ?_;clear gG
  by_cases e : p.1 = k
  ·have e' : q.1 = k:=h1.symm.trans e;have b : atKey (q :: qs) k = some q.2:=by simp [atKey,iy5,e']
   rw [zp4 e,b]; exact h2
  ·have e' : ¬ q.1 = k:=fun z=>e (h1.trans z);have b : atKey (q :: qs) k = atKey qs k:=by simp [atKey,iy5,e']
   rw [zp5 e,b]; exact ih
theorem KT.repl {H : Hp} {kvs : List (List Key × V)} {xs : List (List Key × Addr × Value)} (r : KT H kvs xs) (k : List Key) {y : V} {u : Value} (ry : RelV y u) :
  KT H (kvs.map fun kv=>if kv.1 = k then (kv.1,y) else kv) (xs.map (putAt k u)):=by
 induction r with
 | nil=>exact .nil
 | @cons p q ps qs h t ih =>
  rw [ey9,ey9];refine .cons ?_ ih;refine za0 fun gG=>?_;obtain ⟨h1,h2,h3⟩:=h;refine gG ?_;clear gG;unfold putAt
  by_cases e : p.1 = k
  ·rw [if_pos e,if_pos (h1.symm.trans e)]; exact ⟨h1,h2,ry⟩
  ·rw [if_neg e,if_neg (fun z=>e (h1.trans z))]; exact ⟨h1,h2,h3⟩
theorem KT.put {H : Hp} {kvs : List (List Key × V)} {xs : List (List Key × Addr × Value)} (r : KT H kvs xs) (k : List Key) {b : Addr} {y : V} {u : Value} (hb : H b = some (.tup (k.map kV))) (ry : RelV y u) :
  KT H (putK kvs k y) (storedH xs k b u):=by
 have e : (kvs.any fun kv=>decide (kv.1 = k)) = (atKey xs k).isSome:=by
  rw [zB6,(r.val k).za35,Option.isSome_map]
 unfold putK storedH;rw [e]
 by_cases q : (atKey xs k).isSome = true
 ·rw [if_pos q,if_pos q]; exact r.repl k ry
 ·rw [if_neg q,if_neg q]; exact Paired.snoc r ⟨rfl,hb,ry⟩
theorem KT.keeps {H H' : Hp} {kvs : List (List Key × V)} {xs : List (List Key × Addr × Value)} (r : KT H kvs xs) (ht : ∀ b ys,H b = some (.tup ys)->H' b = some (.tup ys)) : KT H' kvs xs :=
 Paired.mapP r fun _ _ z=>⟨z.1,ht _ _ z.2.1,z.2.2⟩
section
variable {P : cy7} {w : World} {H : Hp} {h : Heap} {a : Addr}
theorem zd93 {u : HO} (ok : HOk P w H h) (e : Rd H a u) : zc1 P w H h a u:=e.ok ok
theorem zd94 {kvs : List (Key × V)} (ok : HOk P w H h) (e : Rd H a (.dK kvs)) : kvs.length <= by3 /\ (a == ky7) = false /\ ∃ vs,KV kvs vs /\ h.DictOf (zc5 P w) a vs :=
 show zc1 P w H h a (.dK kvs) from zd93 ok e
theorem zd95 {kvs : List (Key × V)} (ok : HOk P w H h) (e : H a = some (.dK kvs)) : kvs.length <= by3 /\ (a == ky7) = false /\ ∃ vs,KV kvs vs /\ h.DictOf (zc5 P w) a vs:=zd94 ok (.inl e)
theorem za36 {ks : List Key} (ok : HOk P w H h) (e : H a = some (.tup (ks.map kV))) : (tupleKind (zc5 P w)).is h ks a:=by
 refine za0 fun gG=>?_;obtain ⟨_,its,r,o,h1,h2,n,h3⟩:=(show zc1 P w H h a (.tup (ks.map kV)) from ok a _ e)
 refine gG ?_;clear gG;exact ⟨o,its.toArray,n,h1,h2,h3,by simpa using zw1 r⟩
theorem ze90 {kvs : List (List Key × V)} (ok : HOk P w H h) (e : Rd H a (.dT kvs)) : kvs.length <= by3 /\ (a == ky7) = false /\
  ∃ xs,KT H kvs xs /\ h.DictOfH (tupleKind (zc5 P w)) a xs:=by
 refine za0 fun gG=>?_;obtain ⟨z,y,xs,r,o,es,ep,h1,h2,h3,h4,h5⟩:=(show zc1 P w H h a (.dT kvs) from zd93 ok e)
 refine gG ?_;clear gG;refine ⟨z,y,xs,r,o,es,ep,h1,h2,h3,h4,fun x hx=>?_,h5⟩
 have all : ∀ {l : List (List Key × V)} {m : List (List Key × Addr × Value)},KT H l m->∀ x∈m,(tupleKind (zc5 P w)).is h x.1 x.2.1:=by
  intro l m q
  induction q with
  | nil=>intro x hx; exact nomatch hx
  | @cons p q ps qs hq t ih =>
   intro x hx;rcases by7.mp hx with e | hx
   ·subst e;exact za36 ok (by rw [<- hq.1]; exact hq.2.1)
   ·exact ih x hx
 exact all r x hx
theorem zb44 {kvs : List (List Key × V)} (ok : HOk P w H h) (e : H a = some (.dT kvs)) : kvs.length <= by3 /\ (a == ky7) = false /\
  ∃ xs,KT H kvs xs /\ h.DictOfH (tupleKind (zc5 P w)) a xs:=ze90 ok (.inl e)
end
def DPut (H : Hp) (a : Addr) (y v : V) (H' : Hp) : Prop :=
 (∃ kvs k,H a = some (.dK kvs) /\ y = kV k /\ kvs.length < by3 /\ H' = upd H a (.dK (putK kvs k v))) \/
 ∃ kvs k b,H a = some (.dT kvs) /\ y = .ref b /\ H b = some (.tup (k.map kV)) /\ kvs.length < by3 /\ H' = upd H a (.dT (putK kvs k v))
theorem DPut.k {H : Hp} {a : Addr} {kvs : List (Key × V)} {k : Key} {v : V} (e : H a = some (.dK kvs)) (hl : kvs.length < by3) : DPut H a (kV k) v (upd H a (.dK (putK kvs k v))):=.inl ⟨kvs,k,e,rfl,hl,rfl⟩
theorem DPut.t {H : Hp} {a b : Addr} {kvs : List (List Key × V)} {k : List Key} {v : V} (e : H a = some (.dT kvs)) (eb : H b = some (.tup (k.map kV))) (hl : kvs.length < by3) :
  DPut H a (.ref b) v (upd H a (.dT (putK kvs k v))):=.inr ⟨kvs,k,b,e,rfl,eb,hl,rfl⟩
section
variable {X : Cx} {pins : List (Addr × Obj)} {σ : St} {H : Hp} {s : Shared} {a : Addr} {y v : V} {u r : Value} {o : Option V} {A : Around} {E : Value->Shared->Prop}
theorem zL4 {h' : Heap} {t' : Nat} {ob : HO} (I : Inv X pins σ H s) (mu : Mut (H a)) (hs : fy3 a s.heap h') (he : ∃ q,h'.get? a = some q) (new : zc1 X.prog X.w (upd H a ob) h' a ob) :
  Inv X pins σ (upd H a ob) { s with heap:=h',toks:=t' } :=
 I.write (x:=a) (e:=a) mu (.inl rfl) (fun b q hb z=>(hs.2 b hb).trans z) he new
theorem zc21 {P : cy7} {w : World} {H' : Hp} {h' : Heap} {kvs : List (Key × V)} {vs : List (Key × Value)} (z : kvs.length <= by3) (hd : (a == ky7) = false) (rel : KV kvs vs) (dd : h'.DictOf (zc5 P w) a vs) :
  zc1 P w H' h' a (.dK kvs):=⟨z,hd,vs,rel,dd⟩
theorem za37 {H' : Hp} {Q : Unit->Shared->Prop} (hu : A.units + 1 < cLine) (I : Inv X pins σ H s) (g : DPut H a y v H') (ry : RelV y u) (rv : RelV v r) (h : ∀ s',Inv X pins σ H' s'->Q () s') :
  wpAny (model X.prog X.w) A (setItem (.ref a) u r) Q E s:=by
 rcases g with ⟨kvs,k,e,ey,l,eH⟩ | ⟨kvs,k,b,e,ey,eb,l,eH⟩
 ·subst ey eH;refine za0 fun gG=>?_;obtain ⟨z,hd,vs,rel,dd⟩:=zd95 I.hok e;refine gG ?_;clear gG;have hz : vs.length <= by3:=by rw [<- rel.length]; exact z
  have hl : (putK kvs k v).length <= by3:=by have:=zo0 kvs k v; omega
  refine wpAny_setItem_pairs (hsz:=hz) (zb43 ry) dd fun h' dd' hs=>h _ ?_;have he : ∃ q,h'.get? a = some q:=let ⟨q,_,_,hq,_⟩:=dd'; ⟨q,hq⟩;exact zL4 I (by rw [e]; exact vy1) hs he (zc21 hl hd (rel.put k rv) dd')
 ·subst ey eH;cases (show u = cy9 b from ry);refine za0 fun gG=>?_;obtain ⟨z,hd,xs,rel,dd⟩:=zb44 I.hok e;refine gG ?_;clear gG;have hz : xs.length <= by3:=by rw [<- Paired.length rel]; exact z
  have hl : (putK kvs k v).length <= by3:=by have:=zo0 kvs k v; omega
  refine wpAny_setItem_heap (hsz:=hz) (tupleKind_room_in1 hu) (za36 I.hok eb) dd fun h' dd' hs=>h _ ?_;refine za0 fun gG=>?_;obtain ⟨q,es,ep,hq,h2,h3,h4,_,h5⟩:=dd';refine gG ?_;clear gG;refine zL4 I (by rw [e]; exact vy1) hs ⟨q,hq⟩ ⟨hl,hd,_,(rel.put k eb rv).keeps fun c ys ec=>?_,q,es,ep,hq,h2,h3,h4,h5⟩;rw [za8 (zJ8 ec e (fun z=>nomatch z))];exact ec
end
section
variable {X : Cx} {pins : List (Addr × Obj)} {σ : St} {H : Hp} {s : Shared} {a : Addr} {kvs : List (Key × V)} {k : Key} {u : Value} {A : Around} {E : Value->Shared->Prop}
end
section
variable {X : Cx} {o i e value : Expr} {pos pos' tpos : Pos} {td ty tv : TE}
end
theorem zb45 {P : cy7} {w : World} {H : Hp} (h : Heap) (hb : ky7 < h.objs.size) : zc1 P w H (h.push { cls:=.type "dict",data:=.dict #[] }) h.objs.size (.dT []) :=
 ⟨dy9 _,beq_eq_false_iff_ne.mpr (fy2 (by8 hb)),[],.nil,_,#[],0,ay7 _ rfl,⟨rfl,rfl,rfl⟩,rfl,rfl,List.nodup_nil⟩
def zd96 : TE:=fun _ H Q=>∀ p,H p = none->Q (.ref p) (upd H p (.dT []))
section
variable {X : Cx} {pos : Pos}
theorem zb46 : PE X (.Dict [] [] pos) zd96:=fun pins s σ H Q I h =>
 wpAny_Dict_empty ⟨.ref s.heap.objs.size,_,I.laid (a:=s.heap.objs.size) (o:=.dT []) (t':=s.toks) (fun _ _ q=>ay2 _ q) (ay6 _) (zb45 s.heap I.big),rfl,h _ (I.hok.fresh (ay6 _))⟩
end
section
variable {X : Cx} {pins : List (Addr × Obj)} {σ : St} {H : Hp} {s : Shared} {a : Addr} {y d : V} {u r : Value} {o : Option V} {A : Around} {E : Value->Shared->Prop}
end
section
variable {X : Cx} {o e f : Expr} {apos cpos : Pos} {td ty tx : TE}
end
section
variable {X : Cx} {pins : List (Addr × Obj)} {σ : St} {H : Hp} {s : Shared} {a : Addr} {kvs : List (Key × V)} {A : Around} {E : Value->Shared->Prop}
end
section
variable {X : Cx} {pins : List (Addr × Obj)} {σ : St} {H : Hp} {s : Shared} {a : Addr} {y : V} {u : Value} {A : Around} {E : Value->Shared->Prop}
end
theorem zw2 {α : Type} {l : List α} {k : α} (h : l.Nodup) (hk : k ∉ l) : (l++[k]).Nodup:=List.nodup_append.mpr ⟨h,by simp,fun x hx y hy e=>hk (by cases ey2.mp hy; exact e ▸ hx)⟩
section
variable {prog : cy7} {w : World} {K : Type} [DecidableEq K] {knd : HeapKind prog w K} {A : Around} {E : Value->Shared->Prop} {s : Shared}
theorem zU3 {h : Heap} {d a : Addr} {xs : List (K × Addr × Value)} {k : K} {v : Value} (hm : h.DictOfH knd d xs) (hkey : knd.is h k a) (hk : atKey xs k = none) (hk' : k ∉ xs.map (·.1)) :
  (h.update d (Obj.mapDictKeys (·.push ⟨knd.hash k,.ref a,v⟩))).DictOfH knd d (storedH xs k a v):=by
 refine za0 fun gG=>?_;obtain ⟨ob,ents,n,g1,g2,g3,g4,g5,g6⟩:=hm;refine gG ?_;clear gG;have all : ∀ x∈xs++[(k,a,v)],knd.is h x.1 x.2.1:=fun x hx=>(ey0.mp hx).elim (g5 x) fun z=>by cases ey2.mp z; exact hkey
 rw [storedH_new hk];refine ⟨_,_,n + 1,gy0 _ g1 (Obj.isFreed_of_dict (Obj.data_mapDictKeys g3 _)),g2.mapDictKeys _,Obj.data_mapDictKeys g3 _,by simp [g4,entryOfKey],fun x hx=>knd.keeps (all x hx) g1 g3 (hy1 ..),?_⟩;rw [gy1];exact zw2 g6 hk'
theorem zo1 {d a : Addr} {xs : List (K × Addr × Value)} {k : K} {v : Value} {Q : Value->Shared->Prop} (hu : knd.room A) (hkey : knd.is s.heap k a) (hm : s.heap.DictOfH knd d xs) (hsz : xs.length <= by3)
  (h1 : ∀ p,atKey xs k = some p->Q p.2 { s with toks:=s.toks + knd.draws k })
  (h2 : atKey xs k = none->∀ h',h'.DictOfH knd d (storedH xs k a v)->fy3 d s.heap h'->Q v { s with heap:=h',toks:=s.toks + knd.draws k }) :
  wpAny (model prog w) A (dictSetDefault d (.ref a) v) Q E s:=by
 have hm0:=hm;refine za0 fun gG=>?_;obtain ⟨ob,ents,n,g1,g2,g3,g4,g5,g6⟩:=hm;refine gG ?_;clear gG
 let s1 : Shared:={ s with toks:=s.toks + knd.draws k }
 unfold dictSetDefault;refine fy1 (ay0 (knd.pyHash hu hkey (ay0 (wpAny_dictFind_heap (s:=s1) hu hkey g1 g3 g4 g5 g6 (fun no=>?_) fun j p hj=>?_))))
 ·have none_:=atKey_none_of_get no;have few : ents.size <= by3:=by have:=size_of_entries g4; omega
  exact ay0 (oy6 (ay0 (wpAny_updateDictKeys (hz:=few) (s:=s1) g1 g3 (ay1 (h2 none_ _ (zU3 hm0 hkey none_ (not_mem_keys_of_get no)) (hy1 ..))))))
 ·refine ay0 (ky1 (s:=s1) g1 g3 ?_);rw [entry_at g4 j,hj];exact ay0 (oy6 (ay1 (h1 p (atKey_of_get g6 hj))))
theorem zr1 (knd : HeapKind prog w K) (d a : Addr) (hd : (d == ky7) = false) (dflt : Value) :
  MeetsIn prog w (ry5.«dict.setdefault» ⟨[.ref d,.ref a,dflt],[]⟩) (fun A R s=>knd.room A.in1 /\ ∃ k xs,knd.is s.heap k a /\ s.heap.DictOfH knd d xs /\ xs.length <= by3 /\
   (∀ p,atKey xs k = some p->R (.ok (.ret p.2)) { s with toks:=s.toks + knd.draws k }) /\
   (atKey xs k = none->∀ h',h'.DictOfH knd d (storedH xs k a dflt)->fy3 d s.heap h'->R (.ok (.ret dflt)) { s with heap:=h',toks:=s.toks + knd.draws k })) :=
 .of_wp fun A R s zR=>by
  refine za0 fun gG=>?_;obtain ⟨hu,k,xs,hkey,hm,hz,h1,h2⟩:=zR;refine gG ?_;clear gG;unfold Builtin.«dict.setdefault»;refine ay0 ?_;unfold Builtin.Dict.keyAndDefault;refine ay0 (qy3 hm.typeIs ?_);show wpAny _ _ (pure (d,cy9 a,some dflt)) _ _ s;refine ay1 ?_;show wpAny _ _ (if (d == ky7) = true then _ else (dictSetDefault d (.ref a) dflt >>= _)) _ _ s;rw [if_neg (by rw [hd]; exact by9)];exact ay0 (zo1 hu hkey hm hz (fun p hp=>ay1 ⟨p.2,rfl,h1 p hp⟩) fun hn h' hm' hs'=>ay1 ⟨dflt,rfl,h2 hn h' hm' hs'⟩)
end
section
variable {X : Cx}
theorem zc22 {pins : List (Addr × Obj)} {σ : St} {H : Hp} {s : Shared} {b : Addr} {ks : List Key} (I : Inv X pins σ H s) (e : SqT X.K H b (ks.map kV)) : (tupleKind (zc5 X.prog X.w)).is s.heap ks b:=by
 refine za0 fun gG=>?_;obtain ⟨its,r,⟨o,h1,h2,n,h3⟩,_⟩:=I.tuple e;refine gG ?_;clear gG;exact ⟨o,its.toArray,n,h1,h2,h3,by simpa using zw1 r⟩
theorem zb47 (hu : X.A.units + 1 < cLine) : MtR X "dict.get" (fun x ys H Q=>∃ a kvs k b d,x = .ref a /\ ys = [.ref b,d] /\ H a = some (.dT kvs) /\ SqT X.K H b (k.map kV) /\ Q ((zy0 kvs k).getD d) H):=by
 intro pins s σ H x ys v us Q I rx rs h;refine za0 fun gG=>?_;obtain ⟨a,kvs,k,b,d,rfl,rfl,e,eb,q⟩:=h;obtain ⟨u,r,rfl,ru,rd⟩:=rs.two;refine gG ?_;clear gG;cases (show v = cy9 a from rx);cases (show u = cy9 b from ru);refine za0 fun gG=>?_;obtain ⟨z,hd,xs,rel,dd⟩:=zb44 I.hok e;refine gG ?_;clear gG;exact call_meetsIn qy4 dd.typeIs PySem.F.entry_dict_get (PySem.F.args_dict_get_3 _ _ _) (meetsH_dict_get_default (tupleKind (zc5 X.prog X.w)) a b hd r) ⟨tupleKind_room_in1 hu,k,xs,zc22 I eb,dd,_,H,I.tok _,(rel.val k).getD rd,q⟩
theorem zU4 (hu : X.A.units + 1 < cLine) : MtR X "dict.setdefault" (fun x ys H Q=>∃ a kvs k b d,x = .ref a /\ ys = [.ref b,d] /\ H a = some (.dT kvs) /\ H b = some (.tup (k.map kV)) /\
  (∀ v,zy0 kvs k = some v->Q v H) /\ (zy0 kvs k = none->kvs.length < by3 /\ Q d (upd H a (.dT (putK kvs k d))))):=by
 intro pins s σ H x ys v us Q I rx rs h;refine za0 fun gG=>?_;obtain ⟨a,kvs,k,b,d,rfl,rfl,e,eb,q1,q2⟩:=h;obtain ⟨u,r,rfl,ru,rd⟩:=rs.two;refine gG ?_;clear gG;cases (show v = cy9 a from rx);cases (show u = cy9 b from ru);refine za0 fun gG=>?_;obtain ⟨z,hd,xs,rel,dd⟩:=zb44 I.hok e;refine gG ?_;clear gG;have hz : xs.length <= by3:=by rw [<- Paired.length rel]; exact z
 refine call_meetsIn PySem.F.slot_dict_setdefault dd.typeIs PySem.F.entry_dict_setdefault (PySem.F.args_dict_setdefault_3 _ _ _) (zr1 (tupleKind (zc5 X.prog X.w)) a b hd r) ⟨tupleKind_room_in1 hu,k,xs,za36 I.hok eb,dd,hz,fun p hp=>?_,fun hn h' dd' hs=>?_⟩
 ·have rv:=rel.val k;rw [hp] at rv;cases hv : zy0 kvs k with
  | none =>
   rw [hv] at rv;cases zA1.none_of rv
  | some v =>
   rw [hv] at rv;refine za0 fun gG=>?_;obtain ⟨w',hw,rw'⟩:=zA1.some_of rv;refine gG ?_;clear gG;cases hw;exact ⟨v,H,I.tok _,rw',q1 v hv⟩
 ·have hnv : zy0 kvs k = none:=by
   have rv:=rel.val k;rw [hn] at rv;cases hv : zy0 kvs k with
   | none=>rfl
   | some v =>
    rw [hv] at rv;refine za0 fun gG=>?_;obtain ⟨w',hw,_⟩:=zA1.some_of rv;refine gG ?_;clear gG;cases hw
  obtain ⟨hl,q⟩:=q2 hnv;have hl' : (putK kvs k d).length <= by3:=by have:=zo0 kvs k d; omega
  refine ⟨d,_,?_,rd,q⟩;refine za0 fun gG=>?_;obtain ⟨q',es,ep,hq,h2,h3,h4,_,h5⟩:=dd';refine gG ?_;clear gG;refine zL4 I (by rw [e]; exact vy1) hs ⟨q',hq⟩ ⟨hl',hd,_,(rel.put k eb rd).keeps fun c ys ec=>?_,q',es,ep,hq,h2,h3,h4,h5⟩;rw [za8 (zJ8 ec e (fun z=>nomatch z))];exact ec
theorem ze91 (hu : X.A.units + 1 < cLine) : IxR X (fun x y H Q=>∃ a kvs k b v,x = .ref a /\ y = .ref b /\ H a = some (.dT kvs) /\ SqT X.K H b (k.map kV) /\ zy0 kvs k = some v /\ Q v H):=by
 intro value slice pins s σ H x y v u Q I rx ry h hs;refine za0 fun gG=>?_;obtain ⟨a,kvs,k,b,z,rfl,rfl,e,eb,hv,q⟩:=h;refine gG ?_;clear gG;cases (show v = cy9 a from rx);cases (show u = cy9 b from ry);refine za0 fun gG=>?_;obtain ⟨_,hd,xs,rel,dd⟩:=zb44 I.hok e;refine gG ?_;clear gG;obtain ⟨w',hw,rw'⟩:=zA1.some_of (v:=z) (o:=(atKey xs k).map (·.2)) (by rw [<- hv]; exact rel.val k);refine za0 fun gG=>?_;obtain ⟨p,hp,hp2⟩:=fy7.mp hw;refine gG ?_;clear gG;exact py4 (x:=w') dd.typeIs vy9.lookup (wpAny_getItem_heap (Q:=fun r s'=>r = w' /\ EP X pins σ Q r s') (tupleKind_room_in1 hu) (zc22 I eb) dd hp ⟨hp2,z,H,I.tok _,hp2 ▸ rw',q⟩) hs
end
def zE7 : Key->PyData
 | .inl i=>.int i
 | .inr x=>.str x
abbrev tupK (ks : List Key) : PyData:=.tuple (ks.map zE7)
theorem zB7 {K : ay5} {F : Hp} : ∀ {ks : List Key} {vs : List V},Paired (fun d v=>Rq K F v d) (ks.map zE7) vs->vs = ks.map kV
 | [],_,.nil=>rfl
 | .inl i :: ks,_,.cons h t=>by rw [Rq.ze3 h,zB7 t]; rfl
 | .inr x :: ks,_,.cons h t=>by rw [Rq.zf7 h,zB7 t]; rfl
theorem zB8 {K : ay5} {F : Hp} : ∀ {ks : List Key},Paired (fun d v=>Rq K F v d) (ks.map zE7) (ks.map kV)
 | []=>.nil
 | .inl i :: ks=>.cons (Rq.int i) zB8
 | .inr x :: ks=>.cons (Rq.str x) zB8
theorem Rq.zc23 {K : ay5} {F : Hp} {ks : List Key} {v : V} (r : Rq K F v (tupK ks)) : ∃ b,v = .ref b /\ SqT K F b (ks.map kV):=by
 refine za0 fun gG=>?_;obtain ⟨b,vs,rfl,h,p⟩:=Rq.zg7 r;refine gG ?_;clear gG;cases zB7 p;exact ⟨b,rfl,h⟩
def zn4 (kvs : List (List Key × El)) (k : List Key) : Option El:=(kvs.find? fun kv=>decide (kv.1 = k)).map (·.2)
abbrev PKV (K : ay5) (F : Hp) (A : List Addr) : List (List Key × El)->List (List Key × V)->Prop:=Paired fun p q=>p.1 = q.1 /\ ElR K F A p.2 q.2
section
variable {K : ay5} {F : Hp} {A : List Addr}
theorem zB9 {k : List Key} {kvs : List (List Key × El)} {vs : List (List Key × V)} (p : PKV K F A kvs vs) : (zn4 kvs k = none /\ zy0 vs k = none) \/ ∃ e v,zn4 kvs k = some e /\ zy0 vs k = some v /\ ElR K F A e v:=by
 induction p with
 | nil=>exact .inl ⟨rfl,rfl⟩
 | @cons ax bv kvs vs hh t ih =>
  refine za0 fun gG=>?_;obtain ⟨a,e⟩:=ax;obtain ⟨b,v⟩:=bv;obtain ⟨hk,he⟩:=hh;have hk : a = b:=hk;subst hk;refine gG ?_;clear gG
  by_cases h : a = k
  ·refine .inr ⟨e,v,?_,?_,he⟩
   ·simp [zn4,h]
   ·exact zp4 h
  ·have e1 : zn4 ((a,e) :: kvs) k = zn4 kvs k:=by simp [zn4,h]
   rw [e1,zp5 (show ¬ (a,v).1 = k from h)];exact ih
theorem zb48 {kvs : List (List Key × El)} {vs : List (List Key × V)} (h : PKV K F A kvs vs) (k : List Key) {e : El} {v : V} (he : ElR K F A e v) : PKV K F A (kvs++[(k,e)]) (vs++[(k,v)]):=zy6 h (.cons ⟨rfl,he⟩ .nil)
end
section
variable {X : Bc} {S : Sl} {W : Wl} {k : KB}
theorem RW.atT {F : Hp} {A : List Addr} {H : Hp} (r : RW X.K F A W H) {j : Nat} {v : V} (z : ElR X.K F A (.o j) v) {kvs : List (List Key × El)} (hj : W[j]? = some (.dT kvs)) : ∃ a vs,v = .ref a /\ A[j]? = some a /\ H a = some (.dT vs) /\ PKV X.K F A kvs vs:=by
 refine za0 fun gG=>?_;obtain ⟨a,ha,rfl⟩:=z;obtain ⟨h,e,vs,rfl,p⟩:=r.obj j a _ ha hj;refine gG ?_;clear gG;exact ⟨a,vs,rfl,ha,e,p⟩
theorem zP6 {e : Expr} (h : BE X S W e fun x W1=>∃ ks,x = .p ks /\ k (.d (tupK ks)) W1) : BE X S W e k :=
 .of zi1 fun F A σ H Q x0 r sr q=>h.use x0 r sr fun F1 A1 W1 H1 x vx e1 r1 z1 zR=>by
  refine za0 fun gG=>?_;obtain ⟨ks,hx,h1⟩:=zR;subst hx;obtain ⟨b,rfl,hb⟩:=z1;refine gG ?_;clear gG;exact (q.ext e1).same r1 (.dd (Rq.tup (SqT.of hb) (Rqs.of zB8))) h1
theorem zL5 {es : List Expr} {x1} {pos : Pos} (h : BA X S W es fun as W1=>∃ ks,as = zb4 (ks.map zE7) /\ ks.length <= by3 /\ k (.p ks) W1) : BE X S W (.Tuple es x1 pos) k :=
 .of (zc03 pa_U) fun F A σ H Q x0 r sr q=>h.use x0 r sr fun F1 A1 W1 H1 as vs e1 r1 z1 zR=>by
  refine za0 fun gG=>?_;obtain ⟨ks,hd,hl,h1⟩:=zR;subst hd;refine gG ?_;clear gG;cases zB7 (zk6 z1);refine ⟨by rw [ay3]; exact hl,fun p hp=>?_⟩;obtain ⟨r',x⟩:=r1.newF hp (.tup (ks.map kV));exact (q.ext e1) _ _ _ _ (.p ks) _ x r' ⟨p,rfl,zb5⟩ h1
theorem zC0 {pos : Pos} (h : k (.o W.length) (W++[.dT []])) : BE X S W (.Dict [] [] pos) k :=
 .of zb46 fun F A σ H Q x0 r sr q=>fun p hp=>q.zX4 r hp (o:=.dT []) ⟨[],rfl,.nil⟩ h
theorem zt8 {j : Nat} {kvs : List (List Key × El)} {ks : List Key} {y : El} (hu : X.A.units + 64 < cLine) (hj : W[j]? = some (.dT kvs)) (h : k ((zn4 kvs ks).getD y) W) : MB X "dict" "dict.get" (.o j) [.d (tupK ks),y] W k:=.of (zb47 (by omega)) fun F A H Q v vs r zx z q=>by
 refine za0 fun gG=>?_;obtain ⟨a,ws,rfl,ha,hH,p⟩:=r.atT zx hj;obtain ⟨u,u',rfl,zu,zu'⟩:=za22 z;obtain ⟨b,rfl,hb⟩:=Rq.zc23 zu;refine gG ?_;clear gG;refine ⟨a,ws,ks,b,u',rfl,rfl,hH,r.sub.zt3 hb,?_⟩;rcases zB9 (k:=ks) p with ⟨e1,e2⟩ | ⟨e,v,e1,e2,he⟩
 ·rw [e1] at h;rw [e2];exact q.same r zu' h
 ·rw [e1] at h;rw [e2];exact q.same r he h
theorem zb49 {j : Nat} {kvs : List (List Key × El)} {ks : List Key} {e : El} (hu : X.A.units + 64 < cLine) (hj : W[j]? = some (.dT kvs)) (he : zn4 kvs ks = some e) (h : k e W) : IB X (.o j) (.d (tupK ks)) W k:=.of (ze91 (by omega)) fun F A H Q vx vy r zx zy q=>by
 refine za0 fun gG=>?_;obtain ⟨a,ws,rfl,ha,hH,p⟩:=r.atT zx hj;obtain ⟨b,rfl,hb⟩:=Rq.zc23 zy;refine gG ?_;clear gG;rcases zB9 (k:=ks) p with ⟨e1,e2⟩ | ⟨e',v,e1,e2,he'⟩
 ·rw [he] at e1;cases e1
 ·rw [he] at e1;cases e1;exact ⟨a,ws,ks,b,v,rfl,rfl,hH,r.sub.zt3 hb,e2,q.same r he' h⟩
theorem zU5 {j : Nat} {kvs : List (List Key × El)} {ks : List Key} {y : El} (hu : X.A.units + 64 < cLine) (hj : W[j]? = some (.dT kvs)) (h1 : ∀ e,zn4 kvs ks = some e->k e W) (h2 : zn4 kvs ks = none->kvs.length < by3 /\ k y (W.set j (.dT (kvs++[(ks,y)])))) :
  MB X "dict" "dict.setdefault" (.o j) [.p ks,y] W k:=.of (zU4 (by omega)) fun F A H Q v vs r zx z q=>by
 refine za0 fun gG=>?_;obtain ⟨a,ws,rfl,ha,hH,p⟩:=r.atT zx hj;obtain ⟨u,u',rfl,zu,zu'⟩:=za22 z;obtain ⟨b,rfl,hb⟩:=zu;refine gG ?_;clear gG;refine ⟨a,ws,ks,b,u',rfl,rfl,hH,r.sub _ _ hb,fun v hv=>?_,fun hv=>?_⟩
 ·rcases zB9 (k:=ks) p with ⟨e1,e2⟩ | ⟨e,v',e1,e2,he⟩
  ·rw [hv] at e2;cases e2
  ·rw [hv] at e2;cases e2;exact q.same r he (h1 e e1)
 ·rcases zB9 (k:=ks) p with ⟨e1,e2⟩ | ⟨e,v',e1,e2,he⟩
  ·obtain ⟨hl,hk⟩:=h2 e1;refine ⟨by rw [<- zb2 p]; exact hl,?_⟩;rw [zb42 u' e2];exact q.put r ha (o:=.dT (kvs++[(ks,y)])) ⟨_,rfl,zb48 p ks zu'⟩ zu' hk
  ·rw [hv] at e2;cases e2
end
def tUGs (X : Bc) (es : List Expr) : TGs:=fun vs σ H Q=>∃ t,PGs X es t /\ t vs σ H Q
section
variable {X : Bc} {S : Sl} {W : Wl} {k : KB}
theorem zd97 {es : List Expr} : PGs X es (tUGs X es):=fun pins s σ H vs us Q I r zR=>by obtain ⟨t,h,q⟩:=zR; exact h pins s σ H vs us Q I r q
def BGs (X : Bc) (S : Sl) (W : Wl) (es : List Expr) (xs : List El) (k : Sl->Wl->Prop) : Prop:=∀ F A σ H vs (Q : St->Hp->Prop),X.Am F A->RW X.K F A W H->SR X.K F A S σ->Paired (ElR X.K F A) xs vs ->
 (∀ F' A' W' H' S' σ',Ext F A F' A'->RW X.K F' A' W' H'->SR X.K F' A' S' σ'->k S' W'->Q σ' H')->tUGs X es vs σ H Q
theorem zc75 {k : Sl->Wl->Prop} (h : k S W) : BGs X S W [] [] k:=fun F A σ H vs Q x0 r sr z q=>by
 cases z;exact ⟨gNil,zY5,rfl,q F A W H S σ .refl r sr h⟩
theorem zP7 {t : Expr} {ts : List Expr} {e : El} {xs : List El} {k : Sl->Wl->Prop} (h : BG X S W t e fun S' W'=>BGs X S' W' ts xs k)
  (hs : (my1 (t :: ts) X.env).map (·.2) = assign t X.env :: (my1 ts X.env).map (·.2):=by rfl) : BGs X S W (t :: ts) (e :: xs) k:=fun F A σ H vs Q x0 r sr z q=>by
 cases z with
 | @cons _ v _ vs z zs =>
  exact ⟨zS9 (tUG X t) (tUGs X ts),zO7 pg_U zd97 hs,v,vs,rfl,h F A σ H v _ x0 r sr z fun F' A' W' H' S' σ' e1 r' sr' h' =>
   h' F' A' σ' H' vs Q (x0.trans e1) r' sr' (zg6 (fun _ _ y=>y.ext e1) zs) fun F2 A2 W2 H2 S2 σ2 e2 r2 sr2 h2=>q F2 A2 W2 H2 S2 σ2 (e1.trans e2) r2 sr2 h2⟩
theorem zc76 {es : List Expr} {c : Nat} {pos : Pos} {ds : List PyData} {k : Sl->Wl->Prop} (hc : X.calm = true) (h : BGs X S W es (zb4 ds) k)
  (hn : (my1 es X.env).length = ds.length:=by rfl) (hst : (my1 es X.env).findIdx? (·.1) = none:=by rfl) : BG X S W (.Tuple es c pos) (.d (.tuple ds)) k :=
 fun F A σ H v Q x0 r sr z q=>by
  refine za0 fun gG=>?_;obtain ⟨a,vs,rfl,hs,p⟩:=Rq.zg7 z;refine gG ?_;clear gG;exact ⟨_,zY6 hc zd97 hn hst,a,vs,rfl,r.sub.zt3 hs,(zb2 p).symm,h F A σ H vs Q x0 r sr (zg8 p) q⟩
end
section
variable {prog : cy7} {w : World} {A : Around} {E : Value->Shared->Prop} {s : Shared}
theorem zU6 {it t : Addr} {i : Nat} {xs : Array Value} {x : Value} {Q : Value->Shared->Prop} (st : s.heap.IsTupleIter it t i) (tp : s.heap.IsTuple t xs) (hx : xs[i]? = some x)
  (q : ∀ g,g.IsTupleIter it t (i + 1)->fy3 it s.heap g->Q x { s with heap:=g }) : wpAny (model prog w) A (ry0 (.ref it)) Q E s:=by
 have ty:=st.typeIs;refine za0 fun gG=>?_;obtain ⟨oi,gi,ci,di⟩:=st;obtain ⟨ot,gt,ct,nt,dt⟩:=tp;refine gG ?_;clear gG;unfold Builtin.SmallTypes.nextOf;refine ay0 (ey8 (name:=my3 "__next__") ty my5 (dy4 my5 ty PySem.F.entry_tuple_iterator_next ?_ (PySem.F.args_tuple_iterator_next_1 _)));show wpAny _ _ (field (.ref it) 0 >>= _) _ _ s;refine ay0 (jy5 gi di (x:=.ref t) rfl ?_);show wpAny _ _ (if (cy9 t == dy6) = true then _ else _) _ _ s;rw [if_neg (show ¬ ((cy9 t == dy6) = true) by simp)];show wpAny _ _ (field (.ref it) 1 >>= _) _ _ s;refine ay0 (jy5 gi di (x:=.int i 0) rfl ?_);show wpAny _ _ (seqItems? (.ref t) >>= _) _ _ s;refine ay0 (sy9 gt dt ?_);simp only [ky0,hx]
 exact ay0 (jy8 gi di (by simp) (ay1 ⟨x,rfl,ay1 (q _ ⟨_,gy0 _ gi (ny6 (hy0 di _)),(vy2 ..).trans ci,by
  rw [hy0 di]; simp [rawInt]⟩ (hy1 ..))⟩))
theorem zU7 {e it t : Addr} {i : Nat} {xs : Array Value} {x old : Value} {Q : Option Value->Shared->Prop} (he : IsEnum s.heap e it i old) (st : s.heap.IsTupleIter it t i) (tp : s.heap.IsTuple t xs) (hx : xs[i]? = some x) (hne : e ≠ it)
  (q : ∀ g,IsEnumOut g e it ((i : Int) + 1) x s.heap.objs.size->g.IsTupleIter it t (i + 1)->g.get? s.heap.objs.size = some { cls:=.type "tuple",data:=.seq #[.int i s.toks,x] } ->
   (∀ b o,b ≠ e->b ≠ it->s.heap.get? b = some o->g.get? b = some o)->Q (some (.ref s.heap.objs.size)) { s with heap:=g,toks:=s.toks + 1 }) : wpAny (model prog w) A (pyNext (.ref e)) Q E s:=by
 refine za0 fun gG=>?_;obtain ⟨hp,gn,dw,tk,os⟩:=s;refine gG ?_;clear gG;have ty : Shared.TypeIs ⟨hp,gn,dw,tk,os⟩ (.ref e) "enumerate" := ⟨_,he,rfl⟩
 have hel : e < hp.objs.size:=by2 he;unfold pyNext;refine ay0 (qy5 (ey8 (name:=my3 "__next__") ty py2 (dy4 py2 ty PySem.F.entry_enumerate_next ?_ (PySem.F.args_enumerate_next_1 _))));show wpAny _ _ (field (.ref e) 2 >>= _) _ _ _;refine ay0 (jy5 he rfl (x:=.ref it) rfl (ay0 (zU6 st tp hx fun g1 st1 sb1=>?_)));have sb1 : fy3 it hp g1:=sb1;have e1 : IsEnum g1 e it i old:=(sb1.2 e hne).trans he;show wpAny _ _ (field (.ref e) 3 >>= _) _ _ ⟨g1,gn,dw,tk,os⟩;refine ay0 (jy5 e1 rfl (x:=rawInt i) rfl ?_);show wpAny _ _ (field (.ref e) 4 >>= _) _ _ ⟨g1,gn,dw,tk,os⟩;refine ay0 (jy5 e1 rfl (x:=.none) rfl ?_);show wpAny _ _ (mkInt i >>= _) _ _ ⟨g1,gn,dw,tk,os⟩;refine ay0 (wpAny_mkInt ?_);show wpAny _ _ (ty6 (.ref e) 3 (rawInt ((i : Int) + 1)) >>= _) _ _ ⟨g1,gn,dw,tk + 1,os⟩;refine ay0 (iy9 e1 (by simp) fun g2 (e2 : IsEnum g2 e it ((i : Int) + 1) old) (sb2 : fy3 e g1 g2)=>?_);show wpAny _ _ (ty6 (.ref e) 4 .none >>= _) _ _ ⟨g2,gn,dw,tk + 1,os⟩;refine ay0 (iy9 e2 (by simp) fun g3 (e3 : IsEnum g3 e it ((i : Int) + 1) old) (sb3 : fy3 e g2 g3)=>?_);show wpAny _ _ (newTuple [.int i tk,x] >>= _) _ _ ⟨g3,gn,dw,tk + 1,os⟩;refine ay0 (wpAny_newTuple ?_);have z3 : g3.objs.size = hp.objs.size:=by rw [sb3.1,sb2.1,sb1.1]
 let tO : Obj:={ cls:=.type "tuple",data:=.seq #[.int i tk,x] }
 have e4 : IsEnum (g3.push tO) e it ((i : Int) + 1) old:=ay2 _ e3;have t4 : (g3.push tO).get? hp.objs.size = some tO:=by rw [<- z3]; exact ay7 _ rfl
 have k4 : ∀ b o,b ≠ e->b ≠ it->hp.get? b = some o->(g3.push tO).get? b = some o:=fun b o be bi hb=>ay2 _ ((sb3.2 b be).trans ((sb2.2 b be).trans ((sb1.2 b bi).trans hb)))
 have s4 : (g3.push tO).IsTupleIter it t (i + 1):=by
  refine za0 fun gG=>?_;obtain ⟨o,g,r⟩:=st1;refine gG ?_;clear gG;exact ⟨o,ay2 _ ((sb3.2 it (fy2 hne)).trans ((sb2.2 it (fy2 hne)).trans g)),r⟩
 show wpAny _ _ (wy4 (.ref e) >>= _) _ _ ⟨g3.push tO,gn,dw,tk + 1,os⟩;rw [z3];generalize g3.push tO = g4 at e4 t4 k4 s4;have ft : ∀ {g g' : Heap},fy3 e g g'->∀ b o,b ≠ e->g.get? b = some o->g'.get? b = some o:=fun sb b o be hb=>(sb.2 b be).trans hb;refine ay0 ?_;unfold Builtin.SmallTypes.ownedTupleIsFree;refine ay0 (jy5 e4 rfl (x:=.none) rfl (ay1 ?_));simp only [if_true];refine ay0 (oy6 (ay0 (jy5 e4 rfl (x:=old) rfl (ay0 (iy9 e4 (by simp) fun g5 (e5 : IsEnum g5 e it ((i : Int) + 1) x) (sb5 : fy3 e g4 g5)=>?_)))));show wpAny _ _ (wy0 (.ref e) (.ref hp.objs.size) >>= _) _ _ ⟨g5,gn,dw,tk + 1,os⟩;refine ay0 ?_;unfold Builtin.SmallTypes.ownedTupleHandOut;refine ay0 (iy9 e5 (by simp) fun g6 (e6 : IsEnumOut g6 e it ((i : Int) + 1) x hp.objs.size) (sb6 : fy3 e g5 g6)=>?_);refine iy9 e6 (by simp) fun g7 (e7 : IsEnumOut g7 e it ((i : Int) + 1) x hp.objs.size) (sb7 : fy3 e g6 g7)=>?_;have all : ∀ b o,b ≠ e->g4.get? b = some o->g7.get? b = some o:=fun b o be hb=>ft sb7 b o be (ft sb6 b o be (ft sb5 b o be hb));refine ay0 (wpAny_letGo (ay1 ⟨_,rfl,ay1 (q g7 e7 ?_ (all _ _ (my2 hel) t4) fun b o be bi hb=>all b o be (k4 b o be bi hb))⟩));refine za0 fun gG=>?_;obtain ⟨o,g,r⟩:=s4;refine gG ?_;clear gG;exact ⟨o,all it o (fy2 hne) g,r⟩
theorem zC1 {it t : Addr} {i : Nat} {xs : Array Value} {Q : Value->Shared->Prop} (hh : A.handled = none) (st : s.heap.IsTupleIter it t i) (tp : s.heap.IsTuple t xs) (hx : xs[i]? = none)
  (q : ∀ g x,Heap.ExtBut it s.heap g->(∃ o,g.get? x = some o /\ o.cls = .type "StopIteration")->E (.ref x) { s with heap:=g }) : wpAny (model prog w) A (ry0 (.ref it)) Q E s:=by
 have ty:=st.typeIs;refine za0 fun gG=>?_;obtain ⟨oi,gi,ci,di⟩:=st;obtain ⟨ot,gt,ct,nt,dt⟩:=tp;refine gG ?_;clear gG;unfold Builtin.SmallTypes.nextOf;refine ay0 (ey8 (name:=my3 "__next__") ty my5 (dy4 my5 ty PySem.F.entry_tuple_iterator_next ?_ (PySem.F.args_tuple_iterator_next_1 _)));show wpAny _ _ (field (.ref it) 0 >>= _) _ _ s;refine ay0 (jy5 gi di (x:=.ref t) rfl ?_);show wpAny _ _ (if (cy9 t == dy6) = true then _ else _) _ _ s;rw [if_neg (show ¬ ((cy9 t == dy6) = true) by simp)];show wpAny _ _ (field (.ref it) 1 >>= _) _ _ s;refine ay0 (jy5 gi di (x:=.int i 0) rfl ?_);show wpAny _ _ (seqItems? (.ref t) >>= _) _ _ s;refine ay0 (sy9 gt dt ?_);simp only [ky0,hx];refine ay0 (oy6 (ay0 (jy8 gi di (by simp) ?_)));show wpAny _ _ (newExc (.type "StopIteration") [] >>= _) _ _ _;refine ay0 ?_;simp only [newExc,newTuple];refine ay0 (ey5 (ay0 (m:=firstArgMember _ _) (wpAny_of_eq (a:=dy6) (by first | rfl | (simp only [firstArgMember]; rfl)) (ey5 ?_ (by size_fits)))) (by size_fits));simp only [raiseNew];refine ay0 (wpAny_handled ?_)
 first | rw [show A.in1.handled = none from hh] | rw [hh]
 exact ay0 (ay1 (wpAny_throw (q _ _ (((hy1 ..).extBut.push _).push _) ⟨_,ay7 _ rfl,rfl⟩)))
theorem za38 {e it t : Addr} {i : Nat} {xs : Array Value} {old : Value} {Q : Option Value->Shared->Prop} (hh : A.handled = none) (he : IsEnum s.heap e it i old) (st : s.heap.IsTupleIter it t i) (tp : s.heap.IsTuple t xs) (hx : xs[i]? = none)
  (q : ∀ g,Heap.ExtBut it s.heap g->Q none { s with heap:=g }) : wpAny (model prog w) A (pyNext (.ref e)) Q E s:=by
 have ty : s.TypeIs (.ref e) "enumerate" := ⟨_,he,rfl⟩
 unfold pyNext;refine ay0 (qy5 (ey8 (name:=my3 "__next__") ty py2 (dy4 py2 ty PySem.F.entry_enumerate_next ?_ (PySem.F.args_enumerate_next_1 _))));show wpAny _ _ (field (.ref e) 2 >>= _) _ _ _;refine ay0 (jy5 he rfl (x:=.ref it) rfl (ay0 (zC1 hh st tp hx fun g x eb ⟨o,ho,hc⟩=>?_)));exact ay0 (qy0 (T := "StopIteration") (b:=true) ⟨o,ho,hc⟩ isSubtype_stop (ay1 (q _ eb)))
end
open AutoSeq1 (wpAny_loadPart') in
theorem zL6 (t : Addr) (o : Obj) (xs : Array Value) (n : Nat) (hc : o.cls = .type "tuple") (hd : o.data = .seq xs n) :
  Meets (ry5.«enumerate.__new__» ⟨[.type "enumerate",.ref t],[]⟩) (fun _ R s=>s.heap.get? t = some o /\
   R (.ok (.ret (.ref (s.heap.push { cls:=.type "tuple_iterator",data:=.fields #[.ref t,.int 0 0] }).objs.size)))
    { s with heap:=(s.heap.push { cls:=.type "tuple_iterator",data:=.fields #[.ref t,.int 0 0] }).push { cls:=.type "enumerate",data:=.fields #[.none,.bool false,.ref s.heap.objs.size,rawInt 0,.none,.none] } }) :=
 .of_wp fun prog w A R s h=>by
  refine za0 fun gG=>?_;obtain ⟨hp,g,d,tk,os⟩:=s;obtain ⟨ht,h⟩:=h;refine gG ?_;clear gG;have hsub:=sub_enumerate;have tp : Heap.IsTuple (Shared.heap ⟨hp,g,d,tk,os⟩) t xs:=⟨o,ht,hc,n,hd⟩
  wp_walk using uy0 ht
  refine wpAny_stack_any fun st=>ay1 ?_
  split
  ·rename_i c _ _ _ _ _
   cases (c == py6 "enumerate")
   ·wp_walk using uy0 ht,wpAny_pyIter_tuple tp
    exact ⟨_,rfl,h⟩
   ·wp_walk using uy0 ht,wpAny_pyIter_tuple tp
    exact ⟨_,rfl,h⟩
  ·wp_walk using uy0 ht,wpAny_pyIter_tuple tp
   exact ⟨_,rfl,h⟩
section
end
section
variable {prog : cy7} {w : World} {A : Around} {E : Value->Shared->Prop} {s : Shared}
abbrev itO (t : Addr) : Obj:={ cls:=.type "tuple_iterator",data:=.fields #[.ref t,.int 0 0] }
abbrev enO (it : Addr) : Obj:={ cls:=.type "enumerate",data:=.fields #[.none,.bool false,.ref it,rawInt 0,.none,.none] }
theorem zU8 {t : Addr} {xs : Array Value} {Q : Value->Shared->Prop} (tp : s.heap.IsTuple t xs)
  (h : IsEnum ((s.heap.push (itO t)).push (enO s.heap.objs.size)) (s.heap.objs.size + 1) s.heap.objs.size 0 .none->Q (.ref (s.heap.objs.size + 1)) { s with heap:=(s.heap.push (itO t)).push (enO s.heap.objs.size) }) :
  wpAny (model prog w) A (call (.type "enumerate") [.ref t]) Q E s:=by
 refine za0 fun gG=>?_;obtain ⟨o,ht,hc,n,hd⟩:=tp;refine gG ?_;clear gG;have z : (s.heap.push (itO t)).objs.size = s.heap.objs.size + 1:=ny2 ..;have made:=ay7 (s.heap.push (itO t)) (o:=enO s.heap.objs.size) rfl;rw [z] at made;refine callType_new PySem.F.called_enumerate (by decide) (PySem.F.typeCall_enumerate_1 _) (PySem.F.newCall_enumerate_1 _) (fun obj=>PySem.F.args_object_init_2 obj _) PySem.F.entry_enumerate_new (zL6 t o xs n hc hd) ⟨ht,?_⟩;show _ /\ _;rw [z];exact ⟨⟨_,made,rfl⟩,h made⟩
end
def Ite (K : ay5) (a : Addr) : It :=
 ⟨fun i H=>∃ xs x,SqT K H a xs /\ xs[i]? = some x,fun i H y H'=>∃ p x,y = .ref p /\ H p = none /\ H' = upd H p (.tup [.int i,x]) /\ ∀ xs,SqT K H a xs->xs[i]? = some x,fun i H=>∃ xs,SqT K H a xs /\ xs.length <= i⟩
theorem zU9 {P : cy7} {w : World} {K : ay5} {elts : List Expr} {c : Nat} {tp : Pos} (a e it : Addr) (hne : e ≠ it) :
  Turn P w K (.Tuple elts c tp) (Ite K a) [e,it] e (fun i h=>(∃ old,IsEnum h e it i old) /\ h.IsTupleIter it a i) where
 mem:=by simp
 obj:=fun i h ⟨⟨old,he⟩,o,g,_,d⟩ b hb=>by
  rcases by7.mp hb with rfl | hb
  ·exact ⟨_,he,fun v z=>by cases z⟩
  ·cases ey2.mp hb;exact ⟨o,g,fun v z=>by rw [d] at z; cases z⟩
 keep:=fun i h h' ⟨⟨old,he⟩,o,g,r⟩ k=>⟨⟨old,k e (by simp) _ he⟩,o,k it (by simp) o g,r⟩
 item:=by
  intro X hP hw hK hc i pins s σ H E I hf ⟨⟨old,he⟩,st⟩ hg;subst hP hw hK;refine za0 fun gG=>?_;obtain ⟨xs,x,hq,hx⟩:=hg;obtain ⟨its,rv,p,hz⟩:=I.tuple hq;obtain ⟨u,hu,ru⟩:=rv.get hx;refine gG ?_;clear gG;have fe:=hf e (by simp);have fi:=hf it (by simp);have nn : H s.heap.objs.size = none:=I.hok.fresh (ay6 _);refine zU7 he st (show s.heap.IsTuple a its.toArray from p) (x:=u) (by simpa using hu) hne fun g eo st' t' kp=>?_;refine ⟨_,rfl,wpAny_letOwnedTupleGo_enum eo fun g2 e2 sb=>?_⟩;have sb : fy3 e g g2:=sb;have hel : s.heap.objs.size ≠ e:=my2 (by2 he);have k2 : ∀ b o,b ≠ e->b ≠ it->s.heap.get? b = some o->g2.get? b = some o:=fun b o be bi hb=>(sb.2 b be).trans (kp b o be bi hb);have tracked : ∀ b u,H b = some u->b ≠ e /\ b ≠ it:=fun b u hb=>⟨za5 hb fe.1,za5 hb fi.1⟩
  have t2 : g2.get? s.heap.objs.size = some { cls:=.type "tuple",data:=.seq #[.int i s.toks,u] }:=(sb.2 _ hel).trans t'
  have st2 : g2.IsTupleIter it a (i + 1):=by
   refine za0 fun gG=>?_;obtain ⟨o,go,r⟩:=st';refine gG ?_;clear gG;exact ⟨o,(sb.2 it (fy2 hne)).trans go,r⟩
  refine ⟨.ref s.heap.objs.size,upd H s.heap.objs.size (.tup [.int i,x]),I.zb13 (ch:=[e,it]) rfl ⟨fun b o q n hb hx=>?_,fun b o q n hb hx=>?_,fun b o q n hx=>?_,fun b o q hx=>?_,fun b ys q=>?_,fun b o v q=>?_,fun b ps q=>?_⟩ (fun b v q=>?_) I.bare (fun b hb=>?_),rfl,⟨_,x,rfl,nn,rfl,fun ys hy=>by rw [I.zE9 hy hq]; exact hx⟩,⟨⟨u,e2⟩,st2⟩,fun b hb=>?_⟩
  ·exact k2 b o (fun z=>hx (by simp [z])) (fun z=>hx (by simp [z])) q
  ·exact ⟨o.slots,k2 b o (fun z=>hx (by simp [z])) (fun z=>hx (by simp [z])) q⟩
  ·rw [za8 (by8 (by2 q))];exact n
  ·exact ⟨o,k2 b o (fun z=>hx (by simp [z])) (fun z=>hx (by simp [z])) q⟩
  ·rw [za8 (za5 q nn)]; exact q
  ·rw [za8 (za5 q nn)]; exact q
  ·exact ⟨#[],by rw [za8 (za5 q nn),Array.append_empty]; exact q⟩
  ·by_cases hb : b = s.heap.objs.size
   ·subst hb;rw [zb5] at q;cases q;exact ⟨by show 2 <= by3; decide,[.int i s.toks,u],.cons ⟨_,rfl⟩ (.cons ru .nil),_,t2,rfl,_,rfl⟩
   ·rw [za8 hb] at q;refine (I.hok b v q).zS7 (fun c w' hc z=>?_) (fun c z=>by rw [za8 (za5 z nn)]; exact z) fun c ys z=>by rw [za8 (za5 z nn)]; exact z
    rcases hc with rfl | hc
    ·exact k2 c w' (tracked c v q).1 (tracked c v q).2 z
    ·exact k2 c w' (tracked c _ hc).1 (tracked c _ hc).2 z
  ·rcases by7.mp hb with rfl | hb
   ·exact ⟨fe.2.2.2.1,fe.2.1,fe.2.2.2.2⟩
   ·cases ey2.mp hb;exact ⟨fi.2.2.2.1,fi.2.1,fi.2.2.2.2⟩
  ·have hb1:=(hf b hb).1
   have : b ≠ s.heap.objs.size:=by
    rcases by7.mp hb with rfl | hb
    ·exact fy2 hel
    ·cases ey2.mp hb;refine za0 fun gG=>?_;obtain ⟨o,go,_⟩:=st;refine gG ?_;clear gG;exact by8 (by2 go)
   rw [za8 this];exact hb1
 done:=by
  intro X hP hw hK hc i pins s σ H E I hf ⟨⟨old,he⟩,st⟩ hg;subst hP hw hK;refine za0 fun gG=>?_;obtain ⟨xs,hq,hx⟩:=hg;obtain ⟨its,rv,p,hz⟩:=I.tuple hq;obtain ⟨f0,f1,f2,f3,f4,f5⟩:=hf it (by simp);refine gG ?_;clear gG;have hl:=rv.length;exact za38 (I.ok.hd hc) he st (show s.heap.IsTuple a its.toArray from p) (by simp; omega) fun g eb=>⟨rfl,I.turned (t':=s.toks) (fun b o hb e=>eb b o hb e) f0 f1 f3 f4 f5⟩
 self:=fun _ _ _ _ _ ⟨⟨old,he⟩,_⟩ h=>wpAny_pyIter_enum he h
section
variable {X : Cx}
def zd98 (K : ay5) (ta : TA) : TI:=fun σ H R=>ta σ H fun vs H1=>∃ a xs,vs = [.ref a] /\ SqT K H1 a xs /\ R (Ite K a) H1
theorem zb50 {elts : List Expr} {c : Nat} {tp : Pos} {a : Expr} {ta : TA} {p pos : Pos} (hg : Gl X "enumerate") (hm : X.mg "enumerate" = none) (ha : PA X [a] ta) (hs : fy4 [a] X.env = [(false,eval a X.env)]:=by rfl) : PI X (.Tuple elts c tp) (.Call (.Name "enumerate" p) [a] [] pos) (zd98 X.K ta):=by
 intro pins s σ H R I h;refine Call_ (zE8 I hg hm boot_enumerate (ty8 (thn (ha pos pins s σ H _ I h) fun us s1 ⟨vs,H1,I1,r1,q1⟩=>?_) hs rfl));refine za0 fun gG=>?_;obtain ⟨b,xs,rfl,hq,q⟩:=q1;refine gG ?_;clear gG;cases r1 with
 | cons r rr =>
  cases rr;cases r;refine za0 fun gG=>?_;obtain ⟨its,rv,tp,hz⟩:=I1.tuple hq;refine gG ?_;clear gG;refine zU8 (show s1.heap.IsTuple b its.toArray from tp) fun he=>?_;refine wpAny_pyIter_enum he ?_;have kp : ∀ c o,s1.heap.get? c = some o->((s1.heap.push (itO b)).push (enO s1.heap.objs.size)).get? c = some o:=fun c o z=>ay2 _ (ay2 _ z);refine ⟨s1.heap.objs.size + 1,[s1.heap.objs.size + 1,s1.heap.objs.size],_,_,H1,rfl,I1.kept (t':=s1.toks) kp,zU9 b _ _ (Nat.succ_ne_self _),⟨⟨.none,he⟩,_,ay2 _ (ay7 _ rfl),rfl,rfl⟩,fun c hc=>?_,q⟩
  have hc : s1.heap.objs.size <= c:=by
   rcases by7.mp hc with z | z
   ·rw [z]; exact uy2 _
   ·rw [ey2.mp z]; exact ay6 _
  exact I1.zY7 hc (I1.hok.fresh hc)
end
section
variable {X : Bc} {n : Nat} {S : Sl} {W : Wl} {D : DB}
theorem zc77 {elts : List Expr} {c : Nat} {tp : Pos} {a : Expr} {p ipos : Pos} {body : List Stmt} {pos : Pos} (hp : PassesOwn (model X.prog X.w) X.A X.env X.xe) (hc : X.calm = true) (hg : Gl X "enumerate") (hm : X.mg "enumerate" = none)
  (h : BA X S W [a] fun as W1=>∃ (ds : List PyData) (mb : Nat) (P : Nat->Sl->Wl->Prop),as = [.d (.tuple ds)] /\ n <= mb /\ mb <= W1.length /\ P 0 S W1 /\
   (∀ i d S' W',ds[i]? = some d->P i S' W'->BG X S' W' (.Tuple elts c tp) (.d (.tuple [.int i,d])) fun S2 W2=>BSs X mb S2 W2 body (zc69 D (P (i + 1)))) /\ ∀ S' W',P ds.length S' W'->D.nx S' W')
  (hst : fy4 [a] X.env = [(false,eval a X.env)]:=by rfl)
  (hs : ∀ x,ey4 (.Call (.Name "enumerate" p) [a] [] ipos) X.env x = pure x:=by intro _; rfl) : BS X n S W (.For (.Tuple elts c tp) (.Call (.Name "enumerate" p) [a] [] ipos) body [] pos) D :=
 .of (zc01 hp hc (zb50 hg hm pa_U hst) pg_U zT8 hs) fun F A σ H E hn x0 r sr q=>h.use x0.am r sr fun F1 A1 W1 H1 as vs e1 r1 z1 zR=>by
  refine za0 fun gG=>?_;obtain ⟨ds,mb,P,hd,hnm,hmb,p0,hstep,hdone⟩:=zR;subst hd;obtain ⟨v,rfl,zv⟩:=zi3 z1;obtain ⟨b,ws,rfl,hv,z⟩:=Rq.zg7 zv;refine gG ?_;clear gG;have hl : ∀ {F' A' W' H'},Ex1 mb F1 A1 F' A'->RW X.K F' A' W' H'->SqT X.K H' b ws:=fun x r'=>r'.sub.zt3 (x.same.zt3 hv);have hmA : mb <= A1.length:=by rw [r1.len]; exact hmb
  refine ⟨b,ws,rfl,r1.sub.zt3 hv,fun i μ σ' H'=>μ = ds.length - i /\ i <= ds.length /\ ∃ F' A' S' W',Ex1 mb F1 A1 F' A' /\ RW X.K F' A' W' H' /\ SR X.K F' A' S' σ' /\ P i S' W',⟨ds.length,by simp,dy9 _,F1,A1,S,W1,.refl hmA,r1,sr.ext e1,p0⟩,?_⟩;intro i μ σ' H' gX;refine za0 fun gG=>?_;obtain ⟨rfl,hi,F',A',S',W',x,r',sr',pp⟩:=gX;refine gG ?_;clear gG;have hwl : ds.length = ws.length:=zb2 z
  by_cases hlt : i < ds.length
  ·refine .inr ⟨⟨ws,ws[i],hl x r',by simp⟩,fun σ2 H2=>∃ F2 A2 S2 W2,Ex1 mb F1 A1 F2 A2 /\ RW X.K F2 A2 W2 H2 /\ SR X.K F2 A2 S2 σ2 /\ P (i + 1) S2 W2,fun σ2 H2 p2=>⟨ds.length - (i + 1),by omega,rfl,hlt,p2⟩,fun v H'' hy=>?_⟩;refine za0 fun gG=>?_;obtain ⟨t,y,rfl,hn',rfl,hget⟩:=hy;obtain ⟨d,hd',zd⟩:=ze8 z (hget ws (hl x r'));obtain ⟨r2,e2⟩:=r'.newF hn' (.tup [.int i,y]);refine gG ?_;clear gG;have zt : ElR X.K (upd F' t (.tup [.int i,y])) A' (.d (.tuple [.int i,d])) (.ref t):=.dd (Rq.tup (SqT.of zb5) (.cons (Rq.int i) (.cons (Rq.same e2.same _ (Rq.same x.same _ zd)) .nil)));have x2 : Ex1 mb F1 A1 (upd F' t (.tup [.int i,y])) A':=x.trans hmA (e2.ex1 x.len);refine hstep i d S' W' hd' pp _ A' σ' _ _ _ ((x0.ext e1).up hnm |>.ex1 hmA x2).am r2 (sr'.ext e2) zt fun F3 A3 W3 H3 S3 σ3 x3 r3 sr3 h3=>?_;have x13 : Ex1 mb F1 A1 F3 A3:=x2.trans hmA (x3.ex1 x2.len);have q2:=q.ext hn ((e1.ex1 hn).trans hn (x13.le hnm));exact h3.use x13.len (((x0.ext e1).up hnm).ex1 hmA x13) r3 sr3 ⟨fun F4 A4 W4 H4 S4 σ4 x4 r4 sr4 h4=>⟨F4,A4,S4,W4,x13.trans hmA x4,r4,sr4,h4⟩,fun F4 A4 W4 H4 S4 σ4 x4=>q2.nx F4 A4 W4 H4 S4 σ4 (x4.le hnm),fun F4 A4 W4 H4 S4 σ4 x4 r4 sr4 h4=>⟨F4,A4,S4,W4,x13.trans hmA x4,r4,sr4,h4⟩,fun F4 A4 W4 H4 e v x4=>q2.rt F4 A4 W4 H4 e v (x4.le hnm)⟩
  ·have hie : i = ds.length:=by omega
   subst hie;exact .inl ⟨⟨ws,hl x r',by omega⟩,(q.ext hn (e1.ex1 hn)).nx F' A' W' H' S' σ' (x.le hnm) r' sr' (hdone S' W' pp)⟩
end
end L2
namespace L2
open PySem PySem.Spec PyProof.Rows PySem.SeqAt PySem.MeetsSeq
section
variable {X : Bc} {S : Sl} {W : Wl} {k : KB}
end
end L2
namespace L2
open PySem PySem.Spec PyProof.Rows
theorem zc78 : ∀ {ns : List Int} {us : List Value},Vals (ns.map V.int) us->∃ l : List (Int × Tok),us = l.map (fun p=>Value.int p.1 p.2) /\ l.map (·.1) = ns:=by
 intro ns
 induction ns with
 | nil=>intro us r; rw [List.map_nil] at r; cases r; exact ⟨[],rfl,rfl⟩
 | cons b bs ih =>
  intro us r;rw [ey9] at r;cases r with
  | cons r1 r2 =>
   refine za0 fun gG=>?_;obtain ⟨t,rfl⟩:=r1;obtain ⟨l,rfl,e⟩:=ih r2;refine gG ?_;clear gG;exact ⟨(b,t) :: l,rfl,by rw [ey9,e]⟩
section
variable {X : Cx}
theorem zb51 (hc : X.calm = true) : zj8 X (.builtin "sum") (fun xs H Q=>∃ (p : Addr) (ns : List Int),xs = [.ref p] /\ SqL X.K H p (ns.map V.int) /\ Q (.int ns.sum) H):=by
 intro pins s σ H xs us Q I r h;refine za0 fun gG=>?_;obtain ⟨p,ns,rfl,hq,q⟩:=h;refine gG ?_;clear gG;cases r with
 | cons r rr =>
  cases rr;cases r;refine za0 fun gG=>?_;obtain ⟨its,rv,pl,hz⟩:=I.list hq;obtain ⟨l,rfl,e⟩:=zc78 rv;refine gG ?_;clear gG;refine sum_intListG (xs:=l.toArray) (I.ok.hd hc) ?_ fun h' tk t' hk=>?_
  ·have:=pl.isList;simpa [intItems] using this
  ·have e2 : preSum (numAt l.toArray) l.toArray.size = ns.sum:=by
    rw [preSum_eq,my8 (by simp),<- e]
   rw [e2];exact ⟨.int ns.sum,H,I.kept hk,⟨_,rfl⟩,q⟩
end
section
variable {X : Bc} {W : Wl} {k : KB}
theorem zd99 {x : El} {ns : List Int} (hc : X.calm = true) (hx : zX5 W x (ns.map .int)) (h : k (.d (.int ns.sum)) W) : CB X (.builtin "sum") [x] W k:=.of (zb51 hc) fun F A H Q vs r zs q=>by
 refine za0 fun gG=>?_;obtain ⟨v,rfl,z⟩:=zi3 zs;obtain ⟨a,vs,rfl,hs,z⟩:=r.lst z hx;refine gG ?_;clear gG;obtain rfl:=za21 z;exact ⟨a,ns,rfl,.inl hs,q.same r (.dd (Rq.int _)) h⟩
end
theorem zb52 {vs : List Value} {ss : List Str} (h : StrsAre vs ss) : Vals (ss.map V.str) vs:=by
 induction h with
 | nil=>exact .nil
 | cons y t h ih=>exact .cons ⟨t,rfl⟩ ih
section
variable {X : Cx}
end
section
variable {X : Bc} {W : Wl} {k : KB}
end
def leS (a b : Str) : Prop:=¬ b.cps.toList < a.cps.toList
theorem zb53 {a b : Str} (h1 : leS a b) (h2 : leS b a) : a = b:=by
 have h3 : a.cps.toList <= b.cps.toList:=List.not_lt.mp h1;have h4 : b.cps.toList <= a.cps.toList:=List.not_lt.mp h2;have e:=List.le_antisymm h3 h4;cases a; cases b;simp at e;simp [e]
def zo9 (P : cy7) (w : World) (h : Heap) (a : Addr) (ks : List Str) : Prop :=
 ∃ o es ep t,h.get? a = some o /\ o.ExactSet /\ o.data = .set es ep t /\ ElemsOf (gy9 P w) es.toList /\ es.size < ry6 /\ t.fits es.size = true /\ (es.size ≠ 0->t.plain = false) /\
  (es.toList.map fun e=>strOf e.2).Perm ks /\ ks.Nodup
theorem zH3 {t : SetTable} {es : Array (Int × Value)} {h : Int} {x : Value} (e : (layNew t es h x).2.1.plain = true) : t.plain = true:=by
 unfold layNew at e
 split at e
 ·simp only [SetTable.orStandIn] at e
  split at e
  ·exact e
  ·simp [SetTable.standIn] at e
 ·simp [SetTable.standIn] at e
theorem zV0 {m f mv : Nat} {l p : Bool} {hs : Array Int} {t' : SetTable} {o : Array Nat} (e : SetTable.laid m f mv l p hs = some (t',o)) : t'.plain = p:=by
 unfold SetTable.laid at e;cases q : SetTable.layClean m hs with
 | none=>rw [q] at e; simp at e
 | some ow =>
  rw [q] at e;simp at e;rw [<- e.1]
theorem zL7 {t : SetTable} {es : Array (Int × Value)} {n : Nat} (e : (relayAll t es n).2.1.plain = true) : t.plain = true:=by
 unfold relayAll at e
 split at e
 ·rename_i t' o q
  simp only at e
  split at e
  ·simp only at e;rw [zV0 q] at e;exact e
  ·simp [SetTable.standIn] at e
 ·simp [SetTable.standIn] at e
section
variable {P : cy7} {w : World} {A : Around} {E : Value->Shared->Prop} {s : Shared}
theorem za39 {es : List (Int × Value)} (h : ElemsOf (gy9 P w) es) {e : Int × Value} (he : e∈es) (k : Str) : (gy9 P w).is k e.2 = true ↔ strOf e.2 = k:=by
 refine za0 fun gG=>?_;obtain ⟨⟨k',hk,_⟩,_⟩:=h e he;obtain ⟨t,q⟩:=wy3 hk;refine gG ?_;clear gG;rw [q];constructor
 ·intro z;obtain ⟨t',q'⟩:=wy3 (x:=k) (show Value.isStrOf k (.str k' t) = true from z);cases q';rfl
 ·intro z;cases z;exact PySem.strKind_is P w _ t
theorem zP8 {h : Heap} {a : Addr} {o : Obj} {es es' : Array (Int × Value)} {ep : Nat} {t t' : SetTable} {ks : List Str} (c1 : h.get? a = some o) (c2 : o.ExactSet) (c3 : o.data = .set es ep t)
  (c4 : ElemsOf (gy9 P w) es'.toList) (c5 : es'.size < ry6) (c6 : t'.fits es'.size = true) (c7 : t'.plain = false) (c8 : (es'.toList.map fun e=>strOf e.2).Perm ks) (c9 : ks.Nodup) :
  zo9 P w (h.update a (Obj.putSet es' t')) a ks /\ (h.update a (Obj.putSet es' t')).get? a = some { o with data:=.set es' (ep + 1) t' }:=by
 have c:=(SetOf_store (knd:=gy9 P w) (S':=fun k=>es'.toList.any fun e=>(gy9 P w).is k e.2) c1 c2 c3 c4 (fun k=>by rw [wy2]) c5 c6).1;exact ⟨⟨_,es',ep + 1,t',c,c2,rfl,c4,c5,c6,fun _=>c7,c8,c9⟩,c⟩
theorem zP9 {a : Addr} {ks : List Str} {k : Str} {tk : Tok} {Q : Bool->Shared->Prop} (hS : zo9 P w s.heap a ks) (hr : ks.length + 1 < ry6)
  (h : ∀ b h',fy3 a s.heap h'->zo9 P w h' a (if k∈ks then ks else ks++[k])->Q b { s with heap:=h' }) :
  wpAny (model P w) A (setAddHashed a (.str k tk) ((gy9 P w).hash k)) Q E s:=by
 refine za0 fun gG=>?_;obtain ⟨o,es,ep,t,g1,g2,g3,g4,g5,g6,g7,g8,g9⟩:=hS;refine gG ?_;clear gG;have hn : es.size = ks.length:=by have:=g8.length_eq; simpa using this
 have hk : (gy9 P w).is k (.str k tk) = true:=PySem.strKind_is P w k tk;have hsc : (Value.str k tk).scannable = true:=rfl
 have mem : k∈ks ↔ ∃ e∈es.toList,(gy9 P w).is k e.2 = true:=by
  rw [<- g8.mem_iff,cy3];exact ⟨fun zR=>by obtain ⟨e,he,q⟩:=zR; exact ⟨e,he,(za39 g4 he k).mpr q⟩,fun zR=>by obtain ⟨e,he,q⟩:=zR; exact ⟨e,he,(za39 g4 he k).mp q⟩⟩
 unfold setAddHashed setAddHashedIn;refine fy1 (ay0 (wpAny_setState_of g1 g3 g6 ?_));dsimp only;rw [byScan_of hsc g5 g4,if_pos rfl];unfold setAddByScan;refine ay0 (ay0 (oy6 (ay0 (wpAny_setScan_of hk g1 g3 g6 g4 ?_))));cases hf : es.toList.findIdx? (fun e=>(gy9 P w).is k e.2) with
 | some j =>
  refine za0 fun gG=>?_;obtain ⟨hj,hp,_⟩:=List.findIdx?_eq_some_iff_getElem.mp hf;refine gG ?_;clear gG;have hm : k∈ks:=mem.mpr ⟨es.toList[j],py9 hj,hp⟩;dsimp only;refine ay1 (ay1 ?_);exact h _ s.heap (Heap.SameBut.refl a s.heap) (by rw [if_pos hm]; exact ⟨o,es,ep,t,g1,g2,g3,g4,g5,g6,g7,g8,g9⟩)
 | none =>
  have hm : k ∉ ks:=fun z=>by
   refine za0 fun gG=>?_;obtain ⟨e,he,q⟩:=mem.mp z;refine gG ?_;clear gG;have:=List.findIdx?_eq_none_iff.mp hf e he;rw [q] at this;cases this
  rw [if_neg hm] at h;dsimp only
  have give : ∀ (b : Bool) {s1 : Shared} {R : Unit->Shared->Prop},R () s1->wpAny (model P w) A (match b with | true=>rule "set.scan.the-table-gave-way" | false=>pure ()) R E s1:=fun b s1 R q=>by
   cases b
   ·exact ay1 q
   ·exact oy6 q
  have lp:=layNew_perm t es ((gy9 P w).hash k) (.str k tk);have lf:=layNew_fits t es ((gy9 P w).hash k) (.str k tk);have lq:=@zH3 t es ((gy9 P w).hash k) (.str k tk);generalize layNew t es ((gy9 P w).hash k) (.str k tk) = L at lp lf lq ⊢;refine za0 fun gG=>?_;obtain ⟨e1,t1,was,gave⟩:=L;refine gG ?_;clear gG;dsimp only at lp lf lq ⊢;rw [Array.toList_push] at lp;have d4 : ElemsOf (gy9 P w) e1.toList:=(g4.push hk hsc).perm lp
  have dl : e1.size = ks.length + 1:=by
   have:=lp.length_eq;simp at this;omega
  have d5 : e1.size < ry6:=by omega
  have d8 : (e1.toList.map fun e=>strOf e.2).Perm (ks++[k]):=by
   refine (lp.map _).trans ?_;rw [gy1];exact g8.append (xy2 _)
  have d9 : (ks++[k]).Nodup:=zw2 g9 hm;refine ay0 (give _ ?_)
  have go : ∀ t2 : SetTable,t2.fits e1.size = true->t2.plain = false->wpAny (model P w) A (do
    storeSet a e1 t2
    if (!was && t2.tooFull) = true then do
      (match (relayAll t2 e1 (ty0 e1.size)).2.2 with | true=>rule "set.scan.the-table-gave-way" | false=>pure ())
      storeSet a (relayAll t2 e1 (ty0 e1.size)).1 (relayAll t2 e1 (ty0 e1.size)).2.1
      pure (some true)
     else pure (some true)) (fun r s'=>wpAny (model P w) A (match r with | some added=>pure added | none=>setAddHashedIn a (.str k tk) ((gy9 P w).hash k) 99999) Q E s') E s:=by
   intro t2 f2 p2;obtain ⟨S2,gg⟩:=zP8 (P:=P) (w:=w) (es':=e1) (t':=t2) g1 g2 g3 d4 d5 f2 p2 d8 d9;have sb:=hy1 s.heap a (Obj.putSet e1 t2);refine ay0 (wpAny_storeSet_of g1 g3 ?_ (fits_of_scanBound d5))
   split
   ·have rp:=relayAll_perm t2 e1 (ty0 e1.size);have rf:=relayAll_fits t2 e1 (ty0 e1.size);have rq:=@zL7 t2 e1 (ty0 e1.size);generalize relayAll t2 e1 (ty0 e1.size) = R at rp rf rq ⊢;refine za0 fun gG=>?_;obtain ⟨e2,t3,g⟩:=R;refine gG ?_;clear gG;dsimp only at rp rf rq ⊢;have z : e2.size = e1.size:=by have:=rp.length_eq; simpa using this
    have p3 : t3.plain = false:=by
     cases q : t3.plain with
     | false=>rfl
     | true=>rw [rq q] at p2; cases p2
    refine ay0 (give _ (ay0 (wpAny_storeSet_of gg rfl ?_ (fits_of_scanBound (by rw [z]; exact d5)))));obtain ⟨S3,_⟩:=zP8 (P:=P) (w:=w) (es':=e2) (t':=t3) (ks:=ks++[k]) gg g2 rfl (d4.perm rp) (by rw [z]; exact d5) rf p3 ((rp.map _).trans d8) d9;exact ay1 (ay1 (h _ _ (sb.trans (hy1 _ a _)) S3))
   ·exact ay1 (ay1 (h _ _ sb S2))
  by_cases hp : t1.plain = true
  ·rw [if_pos hp,hashByValue_scannable 8 hsc];refine ay0 (ay1 ?_);exact go { t1 with plain:=false } (SetTable.fits_plain_off lf) rfl
  ·rw [if_neg hp];refine ay0 (ay1 ?_);exact go t1 lf (by simpa using hp)
end
def zw3 (ks : List Str) (k : Str) : List Str:=if k∈ks then ks else ks++[k]
def zc9 (xs : List Str) : List Str:=xs.foldl zw3 []
theorem za40 (ks : List Str) (k : Str) : (zw3 ks k).length <= ks.length + 1:=by unfold zw3; split <;> simp
theorem zH4 : ∀ (xs ks : List Str),(xs.foldl zw3 ks).length <= ks.length + xs.length
 | [],_=>by simp
 | x :: xs,ks=>by
  have a:=zH4 xs (zw3 ks x);have b:=za40 ks x;simp only [List.foldl_cons,py7];omega
theorem zH5 (xs : List Str) : (zc9 xs).length <= xs.length:=by have:=zH4 xs []; simpa [zc9] using this
theorem zH6 (z : Str) : ∀ (xs ks : List Str),z∈xs.foldl zw3 ks ↔ z∈ks \/ z∈xs
 | [],_=>by simp
 | x :: xs,ks=>by
  rw [List.foldl_cons,zH6 z xs];unfold zw3
  split
  ·rename_i h
   constructor
   ·rintro (a | a)
    ·exact .inl a
    ·exact .inr (.tail _ a)
   ·rintro (a | a)
    ·exact .inl a
    ·rcases by7.mp a with rfl | a
     ·exact .inl h
     ·exact .inr a
  ·simp [or_assoc]
theorem zf3 {z : Str} {xs : List Str} : z∈zc9 xs ↔ z∈xs:=by rw [zc9,zH6]; simp
theorem zQ0 : ∀ (xs ks : List Str),ks.Nodup->(xs.foldl zw3 ks).Nodup
 | [],_,h=>h
 | x :: xs,ks,h=>by
  rw [List.foldl_cons];refine zQ0 xs _ ?_;unfold zw3
  split
  ·exact h
  ·rename_i q; exact zw2 h q
theorem zn0 (xs : List Str) : (zc9 xs).Nodup:=zQ0 xs [] List.nodup_nil
theorem zz1 (xs : List Str) (x : Str) : zc9 (xs++[x]) = zw3 (zc9 xs) x:=by simp [zc9]
section
variable {P : cy7} {w : World} {A : Around} {R : Result->Shared->Prop} {I : Addr} {fp wr : List Addr} {G : Array GenState->Array GenState->Prop} {St : Nat->Shared->Prop} {xs : List Str}
theorem zo9.move {h h' : Heap} {a : Addr} {ks : List Str} (x : zo9 P w h a ks) (k : ∀ o,h.get? a = some o->h'.get? a = some o) : zo9 P w h' a ks:=by
 refine za0 fun gG=>?_;obtain ⟨o,es,ep,t,g1,r⟩:=x;refine gG ?_;clear gG;exact ⟨o,es,ep,t,k o g1,r⟩
theorem za41 {n : Nat} {P1 P2 : Nat->Value->Prop} (W : WalksS P w A I fp wr G n P1 St) (h : ∀ i v,P1 i v->P2 i v) : WalksS P w A I fp wr G n P2 St :=
 ⟨W.sub,W.grefl,W.gtrans,W.frame,fun i s' Q' E' hi st q=>W.item i s' Q' E' hi st fun v s2 hv=>q v s2 (h i v hv),W.done,W.self⟩
theorem zb54 (W : WalksS P w A.in1 I fp wr G xs.length (fun i v=>∃ x t,xs[i]? = some x /\ v = .str x t) St) {T : Addr} (hT : T ∉ fp) (few : xs.length + 1 < ry6) :
  ∀ (j i : Nat) (s : Shared),xs.length - i = j->i <= xs.length->St i s->zo9 P w s.heap T (zc9 (xs.take i)) ->
   (∀ s',Moved (T :: wr) G s s'->zo9 P w s'.heap T (zc9 xs)->R (.ok (.ret .none)) s')->ly4 (model P w) A (.builtin "set.update.loop" ⟨[.ref T,.ref I],[]⟩) R s:=by
 have nw : T ∉ wr:=fun z=>hT (W.sub _ z);have sub : ∀ b∈wr,b∈T :: wr:=fun b z=>by0 _ z;intro j
 induction j with
 | zero =>
  intro i s hj hi st hs q;obtain rfl : i = xs.length:=by omega
  refine iy0 F.entry_set_update_loop ?_;rw [fy8 F.plain_set_update_loop _];refine ay0 (W.done s _ _ st fun s' mv=>?_);rw [hy5] at hs;exact ay1 (q s' (mv.mono sub) (hs.move fun o e=>mv.heap T o nw e))
 | succ j ih =>
  intro i s hj hi st hs q;have lt : i < xs.length:=by omega
  refine iy0 F.entry_set_update_loop ?_;rw [fy8 F.plain_set_update_loop _];refine ay0 (W.item i s _ _ lt st fun v s' hv st' mv=>?_);refine za0 fun gG=>?_;obtain ⟨x,t,hx,rfl⟩:=hv;refine gG ?_;clear gG;have hs1 : zo9 P w s'.heap T (zc9 (xs.take i)):=hs.move fun o e=>mv.heap T o nw e;refine ay0 (fy1 ?_);unfold setAdd;refine fy1 (ay0 ((gy9 P w).pyHash (k:=x) (PySem.strKind_is P w x t) ?_))
  have room : (zc9 (xs.take i)).length + 1 < ry6:=by
   have a:=zH5 (xs.take i);rw [dy1] at a;omega
  refine zP9 (s:={ s' with toks:=s'.toks + 1 }) hs1 room fun b h' sb hs2=>?_
  have nxt : zo9 P w h' T (zc9 (xs.take (i + 1))):=by
   have e : xs.take (i + 1) = xs.take i++[x]:=by rw [fy5,hx]; rfl
   rw [e,zz1];exact hs2
  refine ay1 ⟨ky2 F.plain_set_update_loop _,ih (i + 1) _ (by omega) lt (W.frame _ s' _ _ st' (uy2 _) fun b hb o e=>?_) nxt fun s2 m2 h2=>?_⟩
  ·rw [sb.2 b fun z=>hT (by rw [<- z]; exact hb)]; exact e
  ·refine q s2 (Moved.trans W.gtrans ((mv.mono sub).then_heap (uy2 _) fun b o hb e=>?_) m2) h2;rw [sb.2 b fun z=>hb (by rw [z]; exact ay9)]; exact e
theorem zc79 {vs : List Value} {ss : List Str} (h : StrsAre vs ss) : ∀ {i : Nat} {v : Value},vs[i]? = some v->∃ x t,ss[i]? = some x /\ v = .str x t:=by
 induction h with
 | nil=>intro i v e; simp at e
 | cons y t h ih =>
  intro i v e;cases i with
  | zero=>simp at e; exact ⟨y,t,rfl,e.symm⟩
  | succ i =>
   refine za0 fun gG=>?_;obtain ⟨x,u,a,b⟩:=ih (i:=i) (v:=v) (by simpa using e);refine gG ?_;clear gG;exact ⟨x,u,by simpa using a,b⟩
theorem zb55 {vs : List Value} {ss : List Str} (h : StrsAre vs ss) : vs.length = ss.length:=by rw [<- h.strs,ay3]
set_option maxHeartbeats 3200000 in
theorem za42 {E : Value->Shared->Prop} {s : Shared} {l : Addr} {its : Array Value} {ss : List Str} {Q : Value->Shared->Prop}
  (hh : A.handled = none) (hl : s.heap.IsList l its) (hi : StrsAre its.toList ss) (few : ss.length + 1 < ry6)
  (h : ∀ (h' : Heap) (tk : Nat),zo9 P w h' s.heap.objs.size (zc9 ss)->(∀ b o,s.heap.get? b = some o->h'.get? b = some o)->Q (.ref s.heap.objs.size) { s with heap:=h',toks:=tk }) :
  wpAny (model P w) A (call (.type "set") [.ref l]) Q E s:=by
 have hsz : its.size = ss.length:=by rw [<- zb55 hi,jy2]
 refine za0 fun gG=>?_;obtain ⟨c,tl,hmro⟩:=uy5.mro;refine gG ?_;clear gG;have made:=uy5.made;have subt:=uy5.sub;refine wpAny_call (codeAny_of_tree ?_);show wpAny _ _ (callAny (.type "set") _) _ _ _;refine ay1 ⟨Code.quiet_builtin _ (by decide +kernel),iy0 F.entry_type_call ?_⟩;rw [Around.under_plain (weight_type_call_type "set" [.ref l] []) rfl];have n1:=uy5.notType;have n2:=uy5.canCreate;have n3:=F.typeCall_set_1 (.ref l)
 repeat any_goals first | assumption | wp_step
 refine ty9 (code_set_new_1 (.ref l) (E:=E) (Q₁:=fun ob s1=>∃ led : Bool,ob = .ref s.heap.objs.size /\ s1 = { s with heap:=s.heap.push { cls:=.type "set",dict:=none,data:=.set #[] 0 (.fresh 0 0 led) } }) fun led=>⟨led,rfl,rfl⟩) fun r s1 hr=>?_;cases r with
 | error e=>exact hr
 | ok fl =>
  cases fl with
  | ret ob =>
   refine za0 fun gG=>?_;obtain ⟨led,rfl,rfl⟩:=hr;refine gG ?_;clear gG;have hS : (s.heap.push { cls:=.type "set",dict:=none,data:=.set #[] 0 (.fresh 0 0 led) }).get? s.heap.objs.size = some { cls:=.type "set",dict:=none,data:=.set #[] 0 (.fresh 0 0 led) }:=ay7 _ rfl;have hT : Shared.TypeIs { s with heap:=s.heap.push { cls:=.type "set",dict:=none,data:=.set #[] 0 (.fresh 0 0 led) } } (.ref s.heap.objs.size) "set" := ⟨_,hS,rfl⟩
   have ili:=uy5.init.lookup;have ibi:=uy5.init.bind (.ref s.heap.objs.size)
   repeat any_goals first | assumption | wp_step
   refine ty9 (codeAny_call_builtin (R:=wants (fun r s2=>r = .none /\ ∃ h' tk,s2 = { s with heap:=h',toks:=tk } /\ zo9 P w h' s.heap.objs.size (zc9 ss) /\ (∀ b o,s.heap.get? b = some o->h'.get? b = some o)) E) uy5.init.plain F.entry_set_init (check_set_init_1 hT ?_)) fun r2 s2 hr2=>?_
   ·refine za0 fun gG=>?_;obtain ⟨ol,hol,hcl,nl,hdl⟩:=hl;obtain ⟨ocls,odict,odata,oslots⟩:=ol;refine gG ?_;clear gG;simp only at hcl hdl;subst hcl; subst hdl;have hol' : (s.heap.push { cls:=.type "set",dict:=none,data:=.set #[] 0 (.fresh 0 0 led) }).get? l = some { cls:=.type "list",dict:=odict,data:=.seq its nl,slots:=oslots }:=ay2 _ hol;have s1:=F.sub_list_set;have s2:=F.sub_list_frozenset;have s3 : (py6 "list" == py6 "dict") = false:=by decide
    have hl1 : (s.heap.push { cls:=.type "set",dict:=none,data:=.set #[] 0 (.fresh 0 0 led) }).IsList l its:=⟨_,hol',rfl,nl,rfl⟩
    unfold Builtin.«set.__init__» noKeywords Builtin.Frozenset.updateFrom;generalize hPI : pyIter = PI
    wp_walk
    subst hPI;refine wpAny_pyIter_list hl1 (ay0 (wpAny_runValue ?_));have lS : l < s.heap.objs.size:=by2 hol;have h3 : A.in1.in1.in1.handled = none:=by simp [hh]
    have nI : l ≠ (s.heap.push { cls:=.type "set",dict:=none,data:=.set #[] 0 (.fresh 0 0 led) }).objs.size:=by
     rw [ny2]; exact by8 (ly1 lS)
    have nS : s.heap.objs.size ∉ [(s.heap.push { cls:=.type "set",dict:=none,data:=.set #[] 0 (.fresh 0 0 led) }).objs.size,l]:=by
     rw [ny2];simp only [by7,my4,or_false,not_or];exact ⟨by8 (ky6 _),my2 lS⟩
    have W0:=(Walks.list (prog:=P) (w:=w) h3 _ l nI its).toS;have W1:=za41 W0 (P2:=fun i v=>∃ x t,ss[i]? = some x /\ v = Value.str x t) fun i v hv=>zc79 hi (by rw [ly0]; exact hv);rw [hsz] at W1;refine zb54 W1 nS few (ss.length - 0) 0 _ (by omega) (dy9 _) ⟨⟨_,ay7 _ rfl,rfl,rfl⟩,(hl1.push _)⟩ ?hS0 ?hR
    case hS0 =>
     exact ⟨_,#[],0,_,ay2 _ hS,⟨rfl,rfl,rfl⟩,rfl,fun e he=>by simp at he,by decide,rfl,fun z=>absurd rfl z,by simp [zc9],by simp [zc9]⟩
    case hR =>
     intro s' hm hS';refine za0 fun gG=>?_;obtain ⟨h',g',d',tk',os'⟩:=s';refine gG ?_;clear gG;have eg : g' = s.gens:=hm.gens;have ed : d' = s.drawn:=hm.drawn;have eo : os' = s.os:=hm.os;subst eg ed eo;refine ay1 (ay1 ⟨rfl,h',tk',rfl,hS',fun b o e=>?_⟩);have hb:=by2 e;refine hm.heap b o ?_ (ay2 _ (ay2 _ e));rw [ny2];simp only [by7,my4,or_false,not_or];exact ⟨by8 hb,by8 (ly1 hb)⟩
   ·cases r2 with
    | error e=>exact hr2
    | ok f2 =>
     cases f2 with
     | ret r =>
      refine za0 fun gG=>?_;obtain ⟨rfl,h',tk,rfl,hS',hk'⟩:=hr2;refine gG ?_;clear gG
      repeat any_goals first | assumption | wp_step
      exact h _ _ hS' hk'
     | _=>exact hr2.elim
  | _=>exact hr.elim
end
section
variable {α : Type}
theorem zr2 : ∀ {l : List α} {i : Nat} (h : i < l.length),(l[i] :: l.eraseIdx i).Perm l
 | x :: l,0,h=>xy2 _
 | x :: l,i + 1,h=>by
  have a:=zr2 (l:=l) (i:=i) (by simpa using h);rw [List.eraseIdx_cons_succ];exact (List.Perm.swap x _ _).trans (a.cons x)
theorem za43 (f : Nat->Nat) : ∀ (n k : Nat) (left : List α) (out : Array α),left.length = n->(pickOrder.go f n k left out).toList.Perm (out.toList++left)
 | 0,k,left,out,e=>by
  have : left = []:=List.eq_nil_of_length_eq_zero e;subst this;simp [pickOrder.go]
 | n + 1,k,left,out,e=>by
  unfold pickOrder.go;have hlt : f k % left.length < left.length:=Nat.mod_lt _ (by omega);rw [by5 hlt];dsimp only;refine (za43 f n (k + 1) _ _ (by rw [List.length_eraseIdx_of_lt hlt]; omega)).trans ?_;rw [Array.toList_push,iy7];refine (xy2 out.toList).append ?_;exact (zr2 hlt)
theorem zw4 (f : Nat->Nat) (xs : Array α) : (pickOrder f xs).toList.Perm xs.toList:=by
 have:=za43 f xs.size 0 xs.toList #[] (by simp);simpa [pickOrder] using this
end
section
variable {P : cy7} {w : World} {A : Around} {E : Value->Shared->Prop} {s : Shared} {α : Type}
theorem zV1 {M : Model} {src : Source} {n : Nat} {Q : Nat->Shared->Prop} (hn : n ≠ 0) (h : ∀ i d,i < n->Q i { s with drawn:=d }) : wpAny M A (choose src n) Q E s :=
 fun Γ p _=>⟨hn,h _ _ (Nat.mod_lt _ (Nat.pos_of_ne_zero hn))⟩
theorem zp6 {M : Model} : ∀ (n : Nat) (xs : List α) (s : Shared) (Q : List α->Shared->Prop),xs.length = n->(∀ ys d,ys.Perm xs->Q ys { s with drawn:=d })->wpAny M A (drawOrder n xs) Q E s
 | 0,xs,s,Q,e,h=>by
  have : xs = []:=List.eq_nil_of_length_eq_zero e;subst this;exact ay1 (h [] s.drawn (xy2 _))
 | n + 1,[],s,Q,e,h=>by simp at e
 | n + 1,x :: xs,s,Q,e,h=>by
  unfold drawOrder;refine ay0 (zV1 (by simp) fun i d hi=>?_);rw [by5 hi];dsimp only;refine ay0 (zp6 n _ _ _ (by rw [List.length_eraseIdx_of_lt hi]; simp at e ⊢; omega) fun ys d' hp=>ay1 ?_);exact h _ d' ((hp.cons _).trans (zr2 hi))
end
theorem slot_set_iter : Slot "set" "__iter__" "set.__iter__" :=
 .of (owner := "set") (n := "__iter__") (by rw [typeLookup_type,uy6]; kernel_rfl) (by decide +kernel) (by decide +kernel) (by decide +kernel) (by first | exact .inl (by decide +kernel) | exact .inr (by decide +kernel)) (by rw [isSubtype_type]; kernel_rfl)
theorem zy1 : entryFor table "set.__iter__" = some ry5.«frozenset.__iter__»:=entryFor_alias (id' := "frozenset.__iter__") (by kernel_rfl) rfl (by decide +kernel) (by kernel_rfl)
theorem zC2 (a : Value) : argsOk "set.__iter__" ⟨[a],[]⟩:=by unfold argsOk; kernel_rfl
theorem ze5 : Slot "set_iterator" "__next__" "set_iterator.__next__" :=
 .of (owner := "set_iterator") (n := "__next__") (by rw [typeLookup_type,uy6]; kernel_rfl) (by decide +kernel) (by decide +kernel) (by decide +kernel) (by first | exact .inl (by decide +kernel) | exact .inr (by decide +kernel)) (by rw [isSubtype_type]; kernel_rfl)
theorem zt4 : entryFor table "set_iterator.__next__" = some ry5.«set_iterator.__next__»:=entryFor_of_tree (by kernel_rfl)
theorem zw5 (a : Value) : argsOk "set_iterator.__next__" ⟨[a],[]⟩:=by unfold argsOk; kernel_rfl
theorem zm5 : Slot "set_iterator" "__iter__" "set_iterator.__iter__" :=
 .of (owner := "set_iterator") (n := "__iter__") (by rw [typeLookup_type,uy6]; kernel_rfl) (by decide +kernel) (by decide +kernel) (by decide +kernel) (by first | exact .inl (by decide +kernel) | exact .inr (by decide +kernel)) (by rw [isSubtype_type]; kernel_rfl)
theorem zH7 : typeLookup (.type "set") "__len__" = pure (some (.builtin "set.__len__")):=by rw [typeLookup_type,uy6]; kernel_rfl
abbrev zo2 (n : Nat) : Value:=.int n 0
def zi5 (it a : Addr) (first : Value) (i n ep : Nat) (h : Heap) : Prop:=∃ o,h.get? it = some o /\ o.cls = .type "set_iterator" /\ o.data = .fields #[first,.int i 0,.ref a,.int n 0,.int ep 0]
def setAt (h : Heap) (a : Addr) (es : Array (Int × Value)) (ep : Nat) (t : SetTable) : Prop:=∃ o,h.get? a = some o /\ o.ExactSet /\ o.data = .set es ep t /\ t.fits es.size = true
section
variable {P : cy7} {w : World} {A : Around} {E : Value->Shared->Prop} {s : Shared} {it a tp : Addr} {es : Array (Int × Value)} {ep n i : Nat} {t : SetTable}
theorem zQ1 {h : Heap} {o : Obj} {first : Value} (c1 : h.get? it = some o) (c2 : o.cls = .type "set_iterator") (c3 : o.data = .fields #[first,.int i 0,.ref a,.int n 0,.int ep 0]) :
  zi5 it a first (i + 1) n ep (h.update it (vy3 fun vs=>vs.setIfInBounds 1 (rawInt (i + 1)))):=by
 refine ⟨_,gy0 _ c1 (ny6 (hy0 c3 _)),(vy2 ..).trans c2,?_⟩;rw [hy0 c3];simp [rawInt]
theorem zj3 {Q : (Array (Int × Value) × Nat × SetTable)->Shared->Prop} {b : Obj} (b1 : s.heap.get? a = some b) (b3 : b.data = .set es ep t) (b4 : t.fits es.size = true) (h : Q (es,ep,t) s) : wpAny (model P w) A (setState a) Q E s:=wpAny_setState_of b1 b3 b4 h
theorem zg0 {Q : Option Value->Shared->Prop} {first : Value} {o b : Obj} (c1 : s.heap.get? it = some o) (c2 : o.cls = .type "set_iterator") (c3 : o.data = .fields #[first,.int i 0,.ref a,.int n 0,.int ep 0])
  (b1 : s.heap.get? a = some b) (b3 : b.data = .set es ep t) (b4 : t.fits es.size = true) (hn : es.size = n)
  (h : wpAny (model P w) A.in1 (if let .int slot _:=first then (do
    match <- setNext a slot.toNat i ep with
    | some (x,next) =>
     ty6 (.ref it) 0 (rawInt next)
     ty6 (.ref it) 1 (rawInt (i + 1))
     ret x
    | none=>ty6 (.ref it) 2 .none; raiseNew (<- newExc (.type "StopIteration") []))
   else do
    let some places <- seqItems? first | unsupported "internal:set_iterator"
    match places[i]? with
    | some (.int place _) =>
     let x <- setNextDrawn a place.toNat ep
     ty6 (.ref it) 1 (rawInt (i + 1))
     ret x
    | some _=>unsupported "internal:set_iterator"
    | none=>ty6 (.ref it) 0 (rawInt 0); ty6 (.ref it) 2 .none; raiseNew (<- newExc (.type "StopIteration") []))
   (fun f s'=>∃ v,f = .done (.ret v) /\ Q (some v) s') (fun e s'=>s'.TypeIs e "StopIteration" /\ Q none s') s) : wpAny (model P w) A (pyNext (.ref it)) Q E s:=by
 have hT : s.TypeIs (.ref it) "set_iterator" := ⟨o,c1,c2⟩
 unfold pyNext;refine ay0 (qy5 (ey8 (name:=my3 "__next__") hT ze5 (dy4 ze5 hT zt4 ?_ (zw5 _))));unfold Builtin.«set_iterator.__next__»;refine ay0 (ay1 ?_);refine ay0 (ty2 c1 c3 ?_);dsimp only;refine ay0 (wpAny_setEntries_of b1 b3 b4 ?_);rw [if_neg (by rw [hn]; simp)];refine fy6 h ?_ ?_
 ·intro f s' gX;refine za0 fun gG=>?_;obtain ⟨v,rfl,q⟩:=gX;refine gG ?_;clear gG;exact ⟨v,rfl,ay1 q⟩
 ·rintro e s' ⟨ht,q⟩;refine ay0 (qy0 ht isSubtype_stop ?_);exact ay1 q
theorem zk3 {α : Type} {R : α->Shared->Prop} {E' : Value->Shared->Prop} (hh : A.handled = none) (h : ∀ h' e,(∀ b o,s.heap.get? b = some o->h'.get? b = some o)->Shared.TypeIs { s with heap:=h' } e "StopIteration" -> E' e { s with heap:=h' }) :
  wpAny (model P w) A (newExc (.type "StopIteration") [] >>= fun e=>(raiseNew e : Sem α)) R E' s:=by
 refine ay0 ?_;simp only [newExc,newTuple];refine ay0 (ey5 ?_ (by size_fits));refine ay0 (m:=firstArgMember _ _) (wpAny_of_eq (a:=dy6) (by first | rfl | (simp only [firstArgMember]; rfl)) ?_);refine ey5 ?_ (by size_fits);refine wpAny_raiseNew_none hh (h _ _ (fun b o q=>ay2 _ (ay2 _ q)) ⟨_,ay7 _ rfl,rfl⟩)
theorem zy2 {Q : Option Value->Shared->Prop} {ps : List Nat} {p : Nat} {hx : Int} {v : Value} (hi : zi5 it a (.ref tp) i n ep s.heap) (hs : setAt s.heap a es ep t) (hn : es.size = n) (ht : s.heap.IsTuple tp (ps.map zo2).toArray) (hp : ps[i]? = some p) (hv : es[p]? = some (hx,v))
  (hQ : ∀ h',zi5 it a (.ref tp) (i + 1) n ep h'->fy3 it s.heap h'->Q (some v) { s with heap:=h' }) : wpAny (model P w) A (pyNext (.ref it)) Q E s:=by
 refine za0 fun gG=>?_;obtain ⟨o,c1,c2,c3⟩:=hi;obtain ⟨b,b1,b2,b3,b4⟩:=hs;obtain ⟨ot,t1,t2,nt,t3⟩:=ht;refine gG ?_;clear gG;refine zg0 c1 c2 c3 b1 b3 b4 hn ?_;dsimp only;refine ay0 (sy9 t1 t3 ?_);have e : ((ps.map zo2).toArray)[i]? = some (zo2 p):=by simp [hp]
 dsimp only;rw [e];dsimp only;refine ay0 ?_;unfold setNextDrawn;refine ay0 (zj3 b1 b3 b4 ?_);dsimp only;rw [if_neg (by simp),ky0,hv];refine ay1 (ay0 (jy8 c1 c3 (by simp) (ay1 ⟨v,rfl,hQ _ (zQ1 c1 c2 c3) (hy1 ..)⟩)))
theorem zC3 {Q : Option Value->Shared->Prop} {ps : List Nat} (hh : A.handled = none) (hi : zi5 it a (.ref tp) i n ep s.heap) (hs : setAt s.heap a es ep t) (hn : es.size = n) (ht : s.heap.IsTuple tp (ps.map zo2).toArray) (hp : ps[i]? = none)
  (hQ : ∀ h',(∀ b o,b ≠ it->s.heap.get? b = some o->h'.get? b = some o)->Q none { s with heap:=h' }) : wpAny (model P w) A (pyNext (.ref it)) Q E s:=by
 refine za0 fun gG=>?_;obtain ⟨o,c1,c2,c3⟩:=hi;obtain ⟨b,b1,b2,b3,b4⟩:=hs;obtain ⟨ot,t1,t2,nt,t3⟩:=ht;refine gG ?_;clear gG;refine zg0 c1 c2 c3 b1 b3 b4 hn ?_;dsimp only;refine ay0 (sy9 t1 t3 ?_);have e : ((ps.map zo2).toArray)[i]? = none:=by simp at hp ⊢; exact hp
 dsimp only;rw [e];dsimp only;refine ay0 (jy8 c1 c3 (by simp) ?_);have u1:=gy0 (vy3 fun vs=>vs.setIfInBounds 0 (rawInt 0)) c1 (ny6 (hy0 c3 _));refine ay0 (jy8 u1 (hy0 c3 _) (by simp) ?_);refine zk3 hh fun h' e k ty=>⟨ty,hQ h' fun b' o' hb q=>k _ _ ?_⟩
 exact (dy5 _ _ (fy2 hb)).trans ((dy5 _ _ (fy2 hb)).trans q)
abbrev zr3 (w : World) : Bool:=w.params.followText "set-order"
theorem zk4 {Q : Bool->Shared->Prop} (h : Q (zr3 w) s) : wpAny (model P w) A setsByText Q E s:=by
 unfold setsByText;exact ay0 (wpAny_askSetting (ay1 h))
abbrev zw6 (w : World) (a : Addr) (ep : Nat) (es : Array (Int × Value)) : Array (Int × Value):=pickOrder (w.params.setOrder a ep) es
theorem zH8 {Q : Array (Int × Value)->Shared->Prop} (hb : zr3 w = true) (hs : setAt s.heap a es ep t) (h : Q (zw6 w a ep es) s) : wpAny (model P w) A (setWalk a) Q E s:=by
 refine za0 fun gG=>?_;obtain ⟨b,b1,b2,b3,b4⟩:=hs;refine gG ?_;clear gG;unfold setWalk;refine ay0 (zj3 b1 b3 b4 (ay0 (zk4 ?_)));rw [hb];exact ay0 (wpAny_askSetting (ay1 h))
theorem zC4 {Q : Option Value->Shared->Prop} {hx : Int} {v : Value} (hb : zr3 w = true) (hi : zi5 it a (.int 0 0) i n ep s.heap) (hs : setAt s.heap a es ep t) (hn : es.size = n) (hv : (zw6 w a ep es)[i]? = some (hx,v))
  (hQ : ∀ h',zi5 it a (.int 0 0) (i + 1) n ep h'->fy3 it s.heap h'->Q (some v) { s with heap:=h' }) : wpAny (model P w) A (pyNext (.ref it)) Q E s:=by
 have hs0:=hs;refine za0 fun gG=>?_;obtain ⟨o,c1,c2,c3⟩:=hi;obtain ⟨b,b1,b2,b3,b4⟩:=hs;refine gG ?_;clear gG;refine zg0 c1 c2 c3 b1 b3 b4 hn ?_;dsimp only;refine ay0 ?_;unfold setNext;refine ay0 (zj3 b1 b3 b4 (ay0 (zk4 ?_)));rw [hb,if_pos rfl];dsimp only;rw [if_neg (by simp)];refine ay0 (zH8 hb hs0 (ay1 ?_));rw [hv];dsimp only [Option.map];refine ay0 (jy8 c1 c3 (by simp) ?_);have u1:=gy0 (vy3 fun vs=>vs.setIfInBounds 0 (rawInt ((0 : Int).toNat : Nat))) c1 (ny6 (hy0 c3 _));have u3:=hy0 c3 (fun vs=>vs.setIfInBounds 0 (rawInt ((0 : Int).toNat : Nat)));refine ay0 (jy8 u1 u3 (by simp) (ay1 ⟨v,rfl,hQ _ (zQ1 u1 ((vy2 ..).trans c2) (by rw [u3]; simp [rawInt])) ((hy1 ..).trans (hy1 ..))⟩))
theorem zH9 {Q : Option Value->Shared->Prop} {o : Obj} {first : Value} (hh : A.handled = none) (c1 : s.heap.get? it = some o) (c3 : o.data = .fields #[first,.int i 0,.ref a,.int n 0,.int ep 0])
  (hQ : ∀ h',(∀ b o,b ≠ it->s.heap.get? b = some o->h'.get? b = some o)->Q none { s with heap:=h' }) {R : PySem.Fin->Shared->Prop} :
  wpAny (model P w) A.in1 (do ty6 (.ref it) 2 .none; raiseNew (<- newExc (.type "StopIteration") [])) R (fun e s'=>s'.TypeIs e "StopIteration" /\ Q none s') s:=by
 refine ay0 (jy8 c1 c3 (by simp) ?_);refine zk3 hh fun h' e k ty=>⟨ty,hQ h' fun b' o' hb q=>k _ _ ?_⟩
 exact (dy5 _ _ (fy2 hb)).trans q
theorem zI0 {Q : Option Value->Shared->Prop} (hh : A.handled = none) (hb : zr3 w = true) (hi : zi5 it a (.int 0 0) i n ep s.heap) (hs : setAt s.heap a es ep t) (hn : es.size = n) (hv : (zw6 w a ep es)[i]? = none)
  (hQ : ∀ h',(∀ b o,b ≠ it->s.heap.get? b = some o->h'.get? b = some o)->Q none { s with heap:=h' }) : wpAny (model P w) A (pyNext (.ref it)) Q E s:=by
 have hs0:=hs;refine za0 fun gG=>?_;obtain ⟨o,c1,c2,c3⟩:=hi;obtain ⟨b,b1,b2,b3,b4⟩:=hs;refine gG ?_;clear gG;refine zg0 c1 c2 c3 b1 b3 b4 hn ?_;dsimp only;refine ay0 ?_;unfold setNext;refine ay0 (zj3 b1 b3 b4 (ay0 (zk4 ?_)));rw [hb,if_pos rfl];dsimp only;rw [if_neg (by simp)];refine ay0 (zH8 hb hs0 (ay1 ?_));rw [hv];exact zH9 hh c1 c3 hQ
theorem zI1 {Q : Option Value->Shared->Prop} (hh : A.handled = none) (hb : zr3 w = false) (hi : zi5 it a (.int 0 0) i 0 ep s.heap) (hs : setAt s.heap a #[] ep t)
  (hQ : ∀ h',(∀ b o,b ≠ it->s.heap.get? b = some o->h'.get? b = some o)->Q none { s with heap:=h' }) : wpAny (model P w) A (pyNext (.ref it)) Q E s:=by
 refine za0 fun gG=>?_;obtain ⟨o,c1,c2,c3⟩:=hi;obtain ⟨b,b1,b2,b3,b4⟩:=hs;refine gG ?_;clear gG;refine zg0 c1 c2 c3 b1 b3 b4 rfl ?_;dsimp only;refine ay0 ?_;unfold setNext;refine ay0 (zj3 b1 b3 b4 (ay0 (zk4 ?_)));rw [hb,if_neg (by decide)];dsimp only;refine ry7 (fun z=>absurd (show (!t.plain && decide ((#[] : Array (Int × Value)).size > 1)) = true from z) (by simp)) fun _=>?_;refine ay0 (ry7 (fun z=>absurd (show (!t.led && !(#[] : Array (Int × Value)).isEmpty) = true from z) (by simp)) fun _=>ay1 (ay1 ?_));exact zH9 hh c1 c3 hQ
theorem zb56 {Q : Value->Shared->Prop} (hs : setAt s.heap a es ep t) (hz : es.size <= by3)
  (hD : zr3 w = false->t.plain = false->1 < es.size->∀ (ps : List Nat) (d : Drawn) (h' : Heap) (tp : Addr),ps.Perm (jy9 es.size)->(∀ b o,s.heap.get? b = some o->h'.get? b = some o)->s.heap.objs.size <= tp->tp < h'.objs.size->h'.IsTuple tp (ps.map zo2).toArray ->
   Q (.ref h'.objs.size) { s with heap:=h'.push { cls:=.type "set_iterator",data:=.fields #[.ref tp,.int (0 : Nat) 0,.ref a,.int es.size 0,.int ep 0] },drawn:=d })
  (hN : ¬ (zr3 w = false /\ t.plain = false /\ 1 < es.size)->Q (.ref s.heap.objs.size) { s with heap:=s.heap.push { cls:=.type "set_iterator",data:=.fields #[.int 0 0,.int (0 : Nat) 0,.ref a,.int es.size 0,.int ep 0] } }) :
  wpAny (model P w) A (pyIter (.ref a)) Q E s:=by
 refine za0 fun gG=>?_;obtain ⟨b,b1,b2,b3,b4⟩:=hs;refine gG ?_;clear gG;have hT : s.TypeIs (.ref a) "set" := ⟨b,b1,b2.1⟩
 refine ry8 hT slot_set_iter (dy4 slot_set_iter hT zy1 ?_ (zC2 _));unfold Builtin.«frozenset.__iter__»;refine ay0 (ay0 (ay1 (ay1 ?_)));refine ay0 (ay0 (wpAny_setEntries_of b1 b3 b4 (ay1 ?_)));refine ay0 ?_;unfold setDrawn;refine ay0 (zj3 b1 b3 b4 (ay0 (zk4 (ay1 ?_))));refine ry7 (fun z=>?_) fun z=>?_
 ·have z : (!zr3 w && (!t.plain && decide (es.size > 1))) = true:=z;simp at z;refine za0 fun gG=>?_;obtain ⟨z1,z2,z3⟩:=z;refine gG ?_;clear gG;refine ay0 (zp6 es.size (jy9 es.size) _ _ (by simp) fun ps d hp=>?_);have hl : ps.length = es.size:=by rw [hp.length_eq]; simp
  refine ay0 (wpAny_newTuple ?_ (by show (List.map _ ps).length <= _; rw [ay3,hl]; exact hz));refine ay0 ?_;unfold setEpoch;refine ay0 (zj3 (ay2 _ b1) b3 b4 (ay1 ?_));refine ay0 (ey5 (ay1 ⟨_,rfl, "set_iterator",_,⟨_,ay7 _ rfl,rfl⟩,ze5.lookup,?_⟩));exact hD z1 z2 z3 ps d _ s.heap.objs.size hp (fun b o q=>ay2 _ q) (ay6 _) (by rw [ny2]; exact ky6 _) ⟨_,ay7 _ rfl,rfl,0,rfl⟩
 ·refine ay0 (ay1 (ay0 ?_));unfold setEpoch;refine ay0 (zj3 b1 b3 b4 (ay1 ?_));refine ay0 (ey5 (ay1 ⟨_,rfl, "set_iterator",_,⟨_,ay7 _ rfl,rfl⟩,ze5.lookup,?_⟩));refine hN fun ⟨y1,y2,y3⟩=>z ?_;show (!zr3 w && (!t.plain && decide (es.size > 1))) = true;simp [y1,y2];omega
end
theorem zt5 : entryFor table "set_iterator.__iter__" = some ry5.«dict_keyiterator.__iter__»:=entryFor_alias (id' := "dict_keyiterator.__iter__") (by kernel_rfl) rfl (by decide +kernel) (by kernel_rfl)
theorem zw7 (a : Value) : argsOk "set_iterator.__iter__" ⟨[a],[]⟩:=by unfold argsOk; kernel_rfl
section
variable {P : cy7} {w : World} {A : Around} {E : Value->Shared->Prop} {s : Shared} {it a tp : Addr} {es : Array (Int × Value)} {ep n i : Nat} {t : SetTable}
theorem zC5 {first : Value} {Q : Value->Shared->Prop} (hi : zi5 it a first i n ep s.heap) (h : Q (.ref it) s) : wpAny (model P w) A (pyIter (.ref it)) Q E s:=by
 refine za0 fun gG=>?_;obtain ⟨o,c1,c2,c3⟩:=hi;refine gG ?_;clear gG;have hT : s.TypeIs (.ref it) "set_iterator" := ⟨o,c1,c2⟩
 refine ry8 hT zm5 (dy4 zm5 hT zt5 ?_ (zw7 _));show wpAny _ _ (ret (.ref it)) _ _ s;exact ay1 ⟨_,rfl, "set_iterator",_,hT,ze5.lookup,h⟩
theorem zi5.move {h h' : Heap} {first : Value} (x : zi5 it a first i n ep h) (k : ∀ o,h.get? it = some o->h'.get? it = some o) : zi5 it a first i n ep h':=by
 refine za0 fun gG=>?_;obtain ⟨o,c,r⟩:=x;refine gG ?_;clear gG;exact ⟨o,k o c,r⟩
theorem setAt.move {h h' : Heap} (x : setAt h a es ep t) (k : ∀ o,h.get? a = some o->h'.get? a = some o) : setAt h' a es ep t:=by
 refine za0 fun gG=>?_;obtain ⟨o,c,r⟩:=x;refine gG ?_;clear gG;exact ⟨o,k o c,r⟩
theorem zQ2 {h h' : Heap} {its : Array Value} (x : h.IsTuple tp its) (k : ∀ o,h.get? tp = some o->h'.get? tp = some o) : h'.IsTuple tp its:=by
 refine za0 fun gG=>?_;obtain ⟨o,c,r⟩:=x;refine gG ?_;clear gG;exact ⟨o,k o c,r⟩
theorem zL8 (hh : A.handled = none) (ha : a ≠ it) (ht : tp ≠ it) {ps : List Nat} (hp : ps.Perm (jy9 es.size)) :
  PySem.Walks P w A it [it,a,tp] [it] es.size (fun i v=>(ps.map fun p=>(es.getD p (0,.none)).2)[i]? = some v) (fun i h=>zi5 it a (.ref tp) i es.size ep h /\ setAt h a es ep t /\ h.IsTuple tp (ps.map zo2).toArray) where
 sub:=fun b hb=>by simp at hb; simp [hb]
 frame:=fun _ _ _ st k=>⟨st.1.move fun o e=>k it (by simp) o e,st.2.1.move fun o e=>k a (by simp) o e,zQ2 st.2.2 fun o e=>k tp (by simp) o e⟩
 item:=fun i s Q E hi st hQ=>by
  have hl : ps.length = es.size:=by rw [hp.length_eq]; simp
  obtain ⟨p,hpi⟩ : ∃ p,ps[i]? = some p:=⟨ps[i]'(by omega),by simp [hl,hi]⟩
  have hlt : p < es.size:=by have:=hp.mem_iff.mp (cy8 hpi); simpa using this
  refine zy2 st.1 st.2.1 rfl st.2.2 hpi (hx:=es[p].1) (v:=es[p].2) (by simp [hlt]) fun h' st' sb=>?_;exact hQ _ h' s.toks (by simp [hpi,hlt]) ⟨st',st.2.1.move fun o e=>(sb.2 a ha).trans e,zQ2 st.2.2 fun o e=>(sb.2 tp ht).trans e⟩ fun b o hb e=>(sb.2 b fun z=>hb (by simp [z])).trans e
 done:=fun s Q E st hQ=>by
  have hl : ps.length = es.size:=by rw [hp.length_eq]; simp
  exact zC3 hh st.1 st.2.1 rfl st.2.2 (by simp [hl]) fun h' k=>hQ h' s.toks fun b o hb e=>k b o (fun z=>hb (by simp [z])) e
 self:=fun _ _ _ _ st q=>zC5 st.1 q
theorem zV2 (hh : A.handled = none) (hb : zr3 w = true) (ha : a ≠ it) :
  PySem.Walks P w A it [it,a] [it] es.size (fun i v=>((zw6 w a ep es).toList.map (·.2))[i]? = some v) (fun i h=>zi5 it a (.int 0 0) i es.size ep h /\ setAt h a es ep t) where
 sub:=fun b hb=>by simp at hb; simp [hb]
 frame:=fun _ _ _ st k=>⟨st.1.move fun o e=>k it (by simp) o e,st.2.move fun o e=>k a (by simp) o e⟩
 item:=fun i s Q E hi st hQ=>by
  have hl : (zw6 w a ep es).size = es.size:=by have:=(zw4 (w.params.setOrder a ep) es).length_eq; simpa using this
  have hlt : i < (zw6 w a ep es).size:=by rw [hl]; exact hi
  refine zC4 hb st.1 st.2 rfl (hx:=(zw6 w a ep es)[i].1) (v:=(zw6 w a ep es)[i].2) (by simp [hlt]) fun h' st' sb=>?_;exact hQ _ h' s.toks (by simp [hlt]) ⟨st',st.2.move fun o e=>(sb.2 a ha).trans e⟩ fun b o hb e=>(sb.2 b fun z=>hb (by simp [z])).trans e
 done:=fun s Q E st hQ=>by
  have hl : (zw6 w a ep es).size = es.size:=by have:=(zw4 (w.params.setOrder a ep) es).length_eq; simpa using this
  exact zI0 hh hb st.1 st.2 rfl (by simp [hl]) fun h' k=>hQ h' s.toks fun b o hb e=>k b o (fun z=>hb (by simp [z])) e
 self:=fun _ _ _ _ st q=>zC5 st.1 q
theorem zV3 (hh : A.handled = none) (hb : zr3 w = false) (ha : a ≠ it) :
  PySem.Walks P w A it [it,a] [it] 0 (fun i v=>([] : List Value)[i]? = some v) (fun i h=>zi5 it a (.int 0 0) i 0 ep h /\ setAt h a #[] ep t) where
 sub:=fun b hb=>by simp at hb; simp [hb]
 frame:=fun _ _ _ st k=>⟨st.1.move fun o e=>k it (by simp) o e,st.2.move fun o e=>k a (by simp) o e⟩
 item:=fun i s Q E hi st hQ=>absurd hi (by omega)
 done:=fun s Q E st hQ=>zI1 hh hb st.1 st.2 fun h' k=>hQ h' s.toks fun b o hb e=>k b o (fun z=>hb (by simp [z])) e
 self:=fun _ _ _ _ st q=>zC5 st.1 q
theorem zb57 {Q : Bool->Shared->Prop} (hT : s.TypeIs (.ref a) "set") (h : Q false s) : wpAny (model P w) A (uy7 (.ref a)) Q E s:=by
 unfold Builtin.List.listLengthHint;refine ay0 (wpAny_specialOf hT zH7 ?_);generalize hid : ("set.__len__" : String) = id0
 wp_delta
 rw [show splitId id0 = some ("set", "__len__") from by subst hid; decide +kernel];subst hid;refine ay0 (qy0 (T := "set") (b:=true) hT (by rw [isSubtype_type]; kernel_rfl) ?_);refine ry7 (fun z=>absurd z (by decide)) fun _=>?_;refine ry7 (fun _=>?_) fun z=>absurd (by decide +kernel) z;exact ay0 (uy1 hT (ay1 h))
abbrev zc80 (first : Value) (a : Addr) (n ep : Nat) : Obj:={ cls:=.type "set_iterator",data:=.fields #[first,.int (0 : Nat) 0,.ref a,.int n 0,.int ep 0] }
theorem zC6 {R : Result->Shared->Prop} {I S : Addr} {fp : List Addr} {Pv : Nat->Value->Prop} {St : Nat->Heap->Prop} {res : Value} {c0 : Nat} {rz : Bool} (W : PySem.Walks P w A.in1 I fp [I] n Pv St) (hSf : S ∉ fp) (hSI : S ≠ I) (hn : n <= by3) (hT : s.TypeIs (.ref a) "set")
  (st : St 0 s.heap) (hS : s.heap.get? S = some { cls:=.type "list",data:=.seq #[] c0 })
  (hR : ∀ h' tk acc c,(∀ b o,b ≠ S->b ≠ I->s.heap.get? b = some o->h'.get? b = some o)->h'.get? S = some { cls:=.type "list",dict:=none,data:=.seq acc c,slots:=#[] }->ItemsOf Pv acc n->R (.ok (.ret res)) { s with heap:=h',toks:=tk }) :
  wpAny (model P w) A.in1 (do
    let room <- holding [.ref I] (uy7 (.ref a))
    if room || rz then rule "list.extend.makes-room"; Builtin.List.listTouch (.ref S)
    again (.builtin "list.extend.loop" ⟨[.ref S,.ref I,res],[]⟩))
   (fun fin s'=>match fin with | .done f=>R (.ok f) s' | .again c'=>c'.quiet = true /\ ly4 (model P w) A c' R s') (fun e s'=>R (.error e) s') s:=by
 have go : ∀ (h : Heap) (c1 : Nat),St 0 h->(∀ b o,b ≠ S->s.heap.get? b = some o->h.get? b = some o)->h.get? S = some { cls:=.type "list",data:=.seq #[] c1 } ->
   ly4 (model P w) A (.builtin "list.extend.loop" ⟨[.ref S,.ref I,res],[]⟩) R { s with heap:=h }:=by
  intro h c1 st1 k1 hS1;refine codeAny_extend_loopS W.toS hn S hSf res n 0 _ #[] c1 rfl (dy9 _) st1 hS1 (ItemsOf.nil _) fun s' acc c mv hS2 ac=>?_;rw [Moved.eq_with mv];refine hR s'.heap s'.toks acc c (fun b o hb hI e=>mv.heap b o ?_ (k1 b o hb e)) hS2 ac;simp only [by7,my4,or_false,not_or];exact ⟨hb,hI⟩
 refine ay0 (fy1 (zb57 hT ?_));refine ry7 (fun _=>?_) fun _=>ay1 ⟨ky2 iy8 _,go _ c0 st (fun b o _ e=>e) hS⟩;refine ay0 (oy6 ?_);refine ay0 ?_;show wpAny _ _ (updateSeq S (·.push .none) >>= fun _=>updateSeq S (·.pop)) _ _ _;refine ay0 (py3 hS rfl ?_);have hS2:=gy0 (hy9 (·.push dy6)) hS rfl;refine py3 (hz:=by seq_fits) hS2 rfl ?_;have hS3:=gy0 (hy9 (·.pop)) hS2 rfl
 have oth : ∀ b o,b ≠ S->s.heap.get? b = some o->((s.heap.update S (hy9 (·.push dy6))).update S (hy9 (·.pop))).get? b = some o:=fun b o hb e =>
  (dy5 _ _ (fy2 hb)).trans ((dy5 _ _ (fy2 hb)).trans e)
 exact ay1 ⟨ky2 iy8 _,go _ _ (W.frame 0 _ _ st fun b hb o e=>oth b o (fun z=>hSf (z ▸ hb)) e) oth hS3⟩
theorem zC7 {ws : List Value} {acc : Array Value} (h : ItemsOf (fun i v=>ws[i]? = some v) acc ws.length) : acc.toList = ws:=by
 obtain ⟨e,k⟩:=h;refine oy8 fun i=>?_
 by_cases hi : i < acc.size
 ·have a1 : acc.toList[i]? = some acc[i]:=by simp [hi]
  rw [a1];exact (k i acc[i] (by simp [hi])).symm
 ·rw [ny7 (by simp; omega),ny7 (by omega)]
theorem zy3 (f : Int × Value->Value) : (jy9 es.size).map (fun p=>f (es.getD p (0,.none))) = es.toList.map f:=by
 refine List.ext_getElem (by simp) fun i h1 h2=>?_;simp at h1;simp [h1]
theorem zV4 {R : Result->Shared->Prop} {S : Addr} {res : Value} {c0 : Nat} (hh : A.handled = none) (hs : setAt s.heap a es ep t) (hz : es.size <= by3) (hpl : es.size ≠ 0->t.plain = false) (h1 : es.size ≠ 1)
  (hSa : S ≠ a) (hS : s.heap.get? S = some { cls:=.type "list",data:=.seq #[] c0 })
  (hR : ∀ h' tk d acc c,(∀ b o,b ≠ S->s.heap.get? b = some o->h'.get? b = some o)->h'.get? S = some { cls:=.type "list",dict:=none,data:=.seq acc c,slots:=#[] }->acc.toList.Perm (es.toList.map (·.2))->R (.ok (.ret res)) { s with heap:=h',toks:=tk,drawn:=d }) :
  wpAny (model P w) A.in1 (jy6 (.ref S) (.ref a) res)
   (fun fin s'=>match fin with | .done f=>R (.ok f) s' | .again c'=>c'.quiet = true /\ ly4 (model P w) A c' R s') (fun e s'=>R (.error e) s') s:=by
 have hs0:=hs;refine za0 fun gG=>?_;obtain ⟨b,b1,b2,b3,b4⟩:=hs;refine gG ?_;clear gG;have hT : s.TypeIs (.ref a) "set" := ⟨b,b1,b2.1⟩
 unfold Builtin.List.listExtendWith;refine ay0 (uy1 (T := "set") hT ?_);have e1 : ry9 (.ref S) (.ref a) = false:=by simp [ry9,hSa]
 have e2 : (py6 "set" == py6 "list") = false:=by decide
 have e3 : (py6 "set" == py6 "tuple") = false:=by decide
 simp only [e1,e2,e3,Bool.or_false,jy0,if_false];have hlS:=by2 hS;have hla:=by2 b1;refine ay0 (zb56 hs0 hz (fun z1 z2 z3 ps d h' tp hp k hge hlt ht=>?_) fun z=>?_)
 ·have hle : s.heap.objs.size <= h'.objs.size:=ey1 hge (ky8 hlt);have ka:=k _ _ b1;have hl : ps.length = es.size:=by rw [hp.length_eq]; simp
  refine zC6 (s:={ s with heap:=h'.push (zc80 (.ref tp) a es.size ep),drawn:=d }) (zL8 (A:=A.in1) hh (by8 (by6 hla hle)) (by8 hlt) hp) ?_ (by8 (by6 hlS hle)) hz ⟨b,ay2 _ ka,b2.1⟩ ⟨⟨_,ay7 _ rfl,rfl,rfl⟩,⟨b,ay2 _ ka,b2,b3,b4⟩,ht.push _⟩ (ay2 _ (k _ _ hS)) fun h2 tk acc c kk hS2 ac=>?_
  ·simp only [by7,my4,or_false,not_or];exact ⟨by8 (by6 hlS hle),hSa,by8 (by6 hlS hge)⟩
  ·refine hR h2 tk d acc c (fun b' o hb e=>kk b' o hb (by8 (by6 (by2 e) hle)) (ay2 _ (k _ _ e))) hS2 ?_;have q:=zC7 (ws:=ps.map fun p=>(es.getD p (0,.none)).2) (by rw [ay3,hl]; exact ac);rw [q];refine (hp.map _).trans ?_;rw [zy3 (fun e=>e.2)]
 ·by_cases hb : zr3 w = true
  ·refine zC6 (s:={ s with heap:=s.heap.push (zc80 (.int 0 0) a es.size ep) }) (zV2 (A:=A.in1) (ep:=ep) (es:=es) (t:=t) hh hb (by8 hla)) ?_ (by8 hlS) hz ⟨b,ay2 _ b1,b2.1⟩ ⟨⟨_,ay7 _ rfl,rfl,rfl⟩,⟨b,ay2 _ b1,b2,b3,b4⟩⟩ (ay2 _ hS) fun h2 tk acc c kk hS2 ac=>?_
   ·simp only [by7,my4,or_false,not_or];exact ⟨by8 hlS,hSa⟩
   ·refine hR h2 tk s.drawn acc c (fun b' o hb e=>kk b' o hb (by8 (by2 e)) (ay2 _ e)) hS2 ?_;have hp:=zw4 (w.params.setOrder a ep) es;have hl : (zw6 w a ep es).size = es.size:=by have:=hp.length_eq; simpa using this
    have q:=zC7 (ws:=(zw6 w a ep es).toList.map (·.2)) (by rw [ay3,jy2,hl]; exact ac);rw [q];exact hp.map _
  ·have hb : zr3 w = false:=by simpa using hb
   have h0 : es.size = 0:=by
    by_cases q : es.size = 0
    ·exact q
    ·exact absurd ⟨hb,hpl q,by omega⟩ z
   have : es = #[]:=Array.eq_empty_of_size_eq_zero h0;subst this;refine zC6 (n:=0) (s:={ s with heap:=s.heap.push (zc80 (.int 0 0) a 0 ep) }) (zV3 (A:=A.in1) (ep:=ep) (t:=t) hh hb (by8 hla)) ?_ (by8 hlS) (dy9 _) ⟨b,ay2 _ b1,b2.1⟩ ⟨⟨_,ay7 _ rfl,rfl,rfl⟩,⟨b,ay2 _ b1,b2,b3,b4⟩⟩ (ay2 _ hS) fun h2 tk acc c kk hS2 ac=>?_
   ·simp only [by7,my4,or_false,not_or];exact ⟨by8 hlS,hSa⟩
   ·refine hR h2 tk s.drawn acc c (fun b' o hb e=>kk b' o hb (by8 (by2 e)) (ay2 _ e)) hS2 ?_;have q:=zC7 (ws:=[]) ac;rw [q];exact xy2 _
theorem zL9 {R : List Value->Shared->Prop} (hh : A.handled = none) (hs : setAt s.heap a es ep t) (hz : es.size <= by3) (hpl : es.size ≠ 0->t.plain = false) (h1 : es.size ≠ 1)
  (h : ∀ h' tk d (ws : List Value),s.heap.objs.size <= h'.objs.size->(∀ b o,s.heap.get? b = some o->h'.get? b = some o)->ws.Perm (es.toList.map (·.2))->R ws { s with heap:=h',toks:=tk,drawn:=d }) :
  wpAny (model P w) A (collect (.ref a)) R E s:=by
 have hla : a < s.heap.objs.size:=by obtain ⟨b,b1,_⟩:=id hs; exact by2 b1
 unfold collect;refine ay0 (wpAny_runValue (iy0 entry_proto_collect' ?_));rw [fy8 PySem.F.plain_proto_collect _];show wpAny _ A.in1 (newList [] >>= fun l=>again (.builtin "list.__iadd__" ⟨[l,.ref a],[]⟩)) _ _ s;refine ay0 (ey5 (ay1 ⟨ky2 sy4 _,iy0 entry_list_iadd' ?_⟩));rw [fy8 sy4 _];have hS1 : (s.heap.push { cls:=.type "list",data:=.seq ([] : List Value).toArray }).get? s.heap.objs.size = some { cls:=.type "list",data:=.seq #[] }:=ay7 _ rfl;show wpAny _ A.in1 (jy6 (.ref s.heap.objs.size) (.ref a) (.ref s.heap.objs.size)) _ _ _
 have key:=zV4 (P:=P) (w:=w) (A:=A) (s:={ s with heap:=s.heap.push { cls:=.type "list",data:=.seq ([] : List Value).toArray } }) (S:=s.heap.objs.size) (res:=.ref s.heap.objs.size)
  (R:=fun (q : Result) (s' : Shared)=>∃ h' tk d acc c,q = .ok (.ret (.ref s.heap.objs.size)) /\ s' = { s with heap:=h',toks:=tk,drawn:=d } /\ (∀ b o,s.heap.get? b = some o->h'.get? b = some o) /\
   h'.get? s.heap.objs.size = some { cls:=.type "list",dict:=none,data:=.seq acc c,slots:=#[] } /\ acc.toList.Perm (es.toList.map (·.2)))
  hh (hs.move fun o e=>ay2 _ e) hz hpl h1 (my2 hla) hS1
  fun h' tk d acc c k hS2 pm=>⟨h',tk,d,acc,c,rfl,rfl,fun b o e=>k b o (by8 (by2 e)) (ay2 _ e),hS2,pm⟩
 refine fy6 key (fun fin s' x=>?_) fun e s' x=>?_
 ·cases fin with
  | done f =>
   refine za0 fun gG=>?_;obtain ⟨h',tk,d,acc,c,e,rfl,k,hS2,pm⟩:=x;refine gG ?_;clear gG;cases e;refine ay0 (wpAny_load hS2 ?_);exact ay1 (h h' tk d _ (ky8 (by2 hS2)) k pm)
  | again c1 =>
   refine ⟨x.1,ty9 x.2 fun q s2 y=>?_⟩;refine za0 fun gG=>?_;obtain ⟨h',tk,d,acc,c,rfl,rfl,k,hS2,pm⟩:=y;refine gG ?_;clear gG;refine ay0 (wpAny_load hS2 ?_);exact ay1 (h h' tk d _ (ky8 (by2 hS2)) k pm)
 ·refine za0 fun gG=>?_;obtain ⟨_,_,_,_,_,e',_⟩:=x;refine gG ?_;clear gG;cases e'
end
def SetX (h : Heap) (a : Addr) (ks : List Str) : Prop :=
 ∃ o es ep t,h.get? a = some o /\ o.ExactSet /\ o.data = .set es ep t /\ es.size <= by3 /\ t.fits es.size = true /\ (es.size ≠ 0->t.plain = false) /\ StrsAre (es.toList.map (·.2)) (es.toList.map fun e=>strOf e.2) /\
  (es.toList.map fun e=>strOf e.2).Perm ks /\ ks.Nodup
theorem zo9.x {P : cy7} {w : World} {h : Heap} {a : Addr} {ks : List Str} (s : zo9 P w h a ks) : SetX h a ks:=by
 refine za0 fun gG=>?_;obtain ⟨o,es,ep,t,g1,g2,g3,g4,g5,g6,g7,g8,g9⟩:=s;refine gG ?_;clear gG;refine ⟨o,es,ep,t,g1,g2,g3,fits_of_scanBound g5,g6,g7,?_,g8,g9⟩
 have:=strsAre_map (es.toList.map (·.2)) fun v hv=>by
  refine za0 fun gG=>?_;obtain ⟨e,he,rfl⟩:=cy3.mp hv;obtain ⟨⟨k,hk,_⟩,_⟩:=g4 e he;obtain ⟨t,q⟩:=wy3 hk;refine gG ?_;clear gG;exact ⟨k,t,q⟩
 rwa [ey6] at this
def setO (a : Addr) (ks : List Str) : HO:=.ext fun h=>SetX h a ks
theorem za44 {P : cy7} {w : World} {H : Hp} {h : Heap} {a : Addr} {ks : List Str} (x : SetX h a ks) : zc1 P w H h a (setO a ks):=by
 refine ⟨x,?_,fun h1 h2 y k=>?_⟩
 ·refine za0 fun gG=>?_;obtain ⟨o,es,ep,t,g1,_⟩:=x;refine gG ?_;clear gG;exact ⟨o,g1⟩
 ·refine za0 fun gG=>?_;obtain ⟨o,es,ep,t,g1,r⟩:=y;refine gG ?_;clear gG;exact ⟨o,es,ep,t,k o g1,r⟩
theorem Inv.drew {X : Cx} {pins : List (Addr × Obj)} {σ : St} {H : Hp} {s : Shared} (I : Inv X pins σ H s) (d : Drawn) : Inv X pins σ H { s with drawn:=d } :=
 ⟨I.ok,I.os,I.bare,I.base,I.loc,I.cell,I.free,I.freeC,I.pin,I.hok,I.len⟩
section
variable {P : cy7} {w : World} {A : Around} {E : Value->Shared->Prop} {s : Shared}
theorem za45 {vs ws : List Value} {ss : List Str} (h : StrsAre vs ss) (p : ws.Perm vs) : StrsAre ws (ws.map strOf) /\ (ws.map strOf).Perm ss:=by
 refine ⟨strsAre_map ws fun v hv=>h.all v (p.mem_iff.mp hv),?_⟩;rw [<- h.strs];exact p.map _
theorem za46 {vs : List Value} {ss : List Str} {l : Addr} {n : Nat} {Q : PySem.Fin->Shared->Prop} (hl : s.heap.get? l = some (seqObj "list" vs.toArray n)) (hS : StrsAre vs ss) (h64 : vs.length < 64)
  (h : ∀ (out : Array Value) (ss' : List Str),StrsAre out.toList ss'->ss'.Perm ss->sortedS ss' = true->Q (.done (.ret .none)) { s with heap:=sortedHeap s.heap l vs out }) :
  wpAny (model P w) A (ry5.«list.sort» ⟨[.ref l],[]⟩) Q E s:=by
 refine list_sort_treeK strKind_oneLt hl hS.keysOf (fun v1 v2 rest e=>keyKind_strs (by rw [<- e]; exact hS)) h64 fun st hp hs=>?_;refine za0 fun gG=>?_;obtain ⟨ss',a1,a2,a3⟩:=sorted_out_str hS hp hs;refine gG ?_;clear gG;exact h _ ss' a1 a2 a3
theorem zV5 {a : Addr} {ks : List Str} {Q : Value->Shared->Prop} (hh : A.handled = none) (x : SetX s.heap a ks) (h64 : ks.length < 64) (h1 : ks.length ≠ 1)
  (h : ∀ (l : Addr) (h' : Heap) (tk : Nat) (d : Drawn) (out : Array Value) (ss' : List Str) (e : Nat),StrsAre out.toList ss'->ss'.Perm ks->sortedS ss' = true->s.heap.objs.size <= l->(∀ b o,s.heap.get? b = some o->h'.get? b = some o) ->
   h'.get? l = some (seqObj "list" out e)->Q (.ref l) { s with heap:=h',toks:=tk,drawn:=d }) :
  wpAny (model P w) A (call (.builtin "sorted") [.ref a]) Q E s:=by
 refine za0 fun gG=>?_;obtain ⟨o,es,ep,t,g1,g2,g3,g5,g6,g7,g8,g9,g10⟩:=x;refine gG ?_;clear gG;have hn : es.size = ks.length:=by have:=g9.length_eq; simpa using this
 refine Calls.call_function_entry kind_sorted plain_sorted entry_sorted (args_sorted1 _) ?_;unfold Builtin.«sorted»;refine ay0 (m:=checkCount "sorted" 1 1 _) (ay1 ?_);refine ay0 (zL9 hh ⟨o,g1,g2,g3,g6⟩ g5 g7 (by omega) fun h' tk d ws hlt k pm=>?_);obtain ⟨q1,q2⟩:=za45 g8 pm;have q3:=q2.trans g9;have hwl : ws.length = ks.length:=by have:=q3.length_eq; simpa using this
 refine ay0 (wpAny_newList ?_ (by rw [hwl,my9]; omega));have hL : (h'.push (seqObj "list" ws.toArray 0)).get? h'.objs.size = some (seqObj "list" ws.toArray 0):=ay7 _ rfl;refine ay0 (fy1 (dy4 slot_list_sort ⟨_,hL,rfl⟩ entry_list_sort (za46 hL q1 (by omega) fun out ss' a1 a2 a3=>⟨_,rfl,?_⟩) (args_list_sort _)));obtain ⟨e,he⟩:=sortedHeap_at (out:=out) hL;refine ay1 ⟨_,rfl,h h'.objs.size _ tk d out ss' e a1 (a2.trans q3) a3 hlt (fun b o' q=>?_) he⟩;have hb:=by2 (k _ _ q);rw [sortedHeap_old (by8 hb) (by rw [size_push']; exact ly1 hb)];exact ay2 _ (k _ _ q)
end
section
variable {X : Cx}
theorem za47 (hc : X.calm = true) : zj8 X (.type "set") (fun xs H Q=>∃ (l : Addr) (ss : List Str),xs = [.ref l] /\ SqL X.K H l (ss.map V.str) /\ ss.length + 1 < ry6 /\ ∀ p,H p = none->Q (.ref p) (upd H p (setO p (zc9 ss)))):=by
 intro pins s σ H xs us Q I r h;refine za0 fun gG=>?_;obtain ⟨l,ss,rfl,hq,few,q⟩:=h;obtain ⟨u,rfl,rx⟩:=vals1 r;refine gG ?_;clear gG;cases rx;refine za0 fun gG=>?_;obtain ⟨its,r',pl,hz⟩:=I.list hq;refine gG ?_;clear gG;refine za42 (I.ok.hd hc) pl.isList (by simpa using zT6 r') few fun h' tk hS k=>?_;exact ⟨.ref s.heap.objs.size,_,I.laid (t':=tk) k (ay6 _) (za44 hS.x),rfl,q _ (I.hok.fresh (ay6 _))⟩
theorem zt1 (hc : X.calm = true) : zj8 X (.builtin "sorted") (fun xs H Q=>∃ (p : Addr) (ks : List Str),xs = [.ref p] /\ H p = some (setO p ks) /\ ks.length < 64 /\ ks.length ≠ 1 /\ ∀ (l : Addr) (ss' : List Str),H l = none->ss'.Perm ks->sortedS ss' = true->Q (.ref l) (upd H l (.lst (ss'.map V.str)))):=by
 intro pins s σ H xs us Q I r h;refine za0 fun gG=>?_;obtain ⟨p,ks,rfl,hq,h64,h1,q⟩:=h;obtain ⟨u,rfl,rx⟩:=vals1 r;refine gG ?_;clear gG;cases rx;have x : SetX s.heap p ks:=(I.hok p _ hq).1;refine zV5 (I.ok.hd hc) x h64 h1 fun l h' tk d out ss' e a1 a2 a3 hl k he=>?_;refine ⟨.ref l,_,(I.laid (t':=tk) k hl (show zc1 X.prog X.w _ _ _ (.lst (ss'.map V.str)) from ⟨?_,out.toList,e,zb52 a1,?_⟩)).drew d,rfl,q _ _ (I.hok.fresh hl) a2 a3⟩
 ·rw [ay3,a2.length_eq,my9]; omega
 ·simpa [seqObj] using he
end
section
variable {X : Bc} {S : Sl} {W : Wl} {k : KB}
theorem zV6 {e : Expr} {p1 p2 pos1 pos2 : Pos} (hc : X.calm = true) (hg1 : Gl X "sorted") (hm1 : X.mg "sorted" = none) (hv1 : fy0 "sorted" = some (.builtin "sorted")) (hg2 : Gl X "set") (hm2 : X.mg "set" = none) (hv2 : fy0 "set" = some (.type "set"))
  (h : BE X S W e fun x W1=>∃ ss : List Str,zX5 W1 x (ss.map .str) /\ (zc9 ss).length < 64 /\ (zc9 ss).length ≠ 1 /\ ss.length + 1 < ry6 /\ ∀ ss' : List Str,ss'.Perm (zc9 ss)->sortedS ss' = true->k (.o W1.length) (W1++[.lst (zb4 (ss'.map .str))]))
  (he : fy4 [e] X.env = [(false,eval e X.env)]:=by rfl) (he2 : fy4 [.Call (.Name "set" p2) [e] [] pos2] X.env = [(false,eval (.Call (.Name "set" p2) [e] [] pos2) X.env)]:=by rfl) : BE X S W (.Call (.Name "sorted" p1) [.Call (.Name "set" p2) [e] [] pos2] [] pos1) k :=
 .of (zp0 (zt1 hc) hg1 hm1 hv1 (zl8 (zF5 (za47 hc) hg2 hm2 hv2 (zl8 zi1 zu9 he) (by decide) (by decide) he rfl) zu9 he2) (by decide) (by decide) he2 rfl) fun F A σ H Q x0 r sr q=>by
  refine h.use x0 r sr fun F1 A1 W1 H1 x vx e1 r1 z1 zR=>?_;refine za0 fun gG=>?_;obtain ⟨ss,hx,h64,h1,few,h2⟩:=zR;obtain ⟨a,vs,rfl,hs,z⟩:=r1.lst z1 hx;refine gG ?_;clear gG;obtain rfl:=zv8 z;refine ⟨a,ss,rfl,.inl hs,few,fun p hp=>?_⟩;obtain ⟨r2,e2⟩:=r1.newF hp (setO p (zc9 ss));refine ⟨p,zc9 ss,rfl,zb5,h64,h1,fun l ss' hl p1 p2=>?_⟩;exact ((q.ext e1).ext e2).zX4 r2 hl (o:=.lst (zb4 (ss'.map .str))) ⟨_,rfl,zg8 zB2⟩ (h2 ss' p1 p2)
end
section
variable {prog : cy7} {w : World} {A : Around} {E : Value->Shared->Prop} {h : Heap} {g : Array GenState} {d : Drawn} {t : Nat} {os : OsState} {a : Addr} {its : Array Value} {n : Nat}
end
section
variable {P : cy7} {w : World} {A : Around} {R : Result->Shared->Prop} {I d : Addr} {fp wr : List Addr} {G : Array GenState->Array GenState->Prop} {St : Nat->Shared->Prop} {ps : List Addr} {ys : List (Str × V)}
end
section
variable {X : Cx}
theorem ze93 (hu : X.A.units + 1 < cLine) : IxR X (fun x y H Q=>∃ a kvs k v,x = .ref a /\ y = kV k /\ H a = some (.dK kvs) /\ zy0 kvs k = some v /\ Q v H):=by
 intro value slice pins s σ H x y v u Q I rx ry h hs;refine za0 fun gG=>?_;obtain ⟨a,kvs,k,z,rfl,rfl,e,hv,q⟩:=h;refine gG ?_;clear gG;cases (show v = cy9 a from rx);refine za0 fun gG=>?_;obtain ⟨_,hd,vs,rel,dd⟩:=zd95 I.hok e;refine gG ?_;clear gG;obtain ⟨w',hw,rw'⟩:=zA1.some_of (v:=z) (o:=valueAt vs k) (by rw [<- hv]; exact rel.val k);exact py4 (x:=w') dd.typeIs vy9.lookup (wpAny_getItem_of (Q:=fun r s'=>r = w' /\ EP X pins σ Q r s') (zb43 ry) dd.mapOf hw ⟨rfl,z,H,I.tok _,rw',q⟩) hs
end
def zX6 (kvs : List (Key × El)) (k : Key) : Option El:=(kvs.find? fun kv=>decide (kv.1 = k)).map (·.2)
section
variable {K : ay5} {F : Hp} {A : List Addr}
theorem zc24 {k : Key} {e : El} {kvs : List (Key × El)} {vs : List (Key × V)} (p : Paired (fun p q=>p.1 = q.1 /\ ElR K F A p.2 q.2) kvs vs) : zX6 kvs k = some e->∃ v,zy0 vs k = some v /\ ElR K F A e v:=by
 induction p with
 | nil=>intro h; simp [zX6] at h
 | @cons ax bv kvs vs hh t ih =>
  refine za0 fun gG=>?_;obtain ⟨a,x⟩:=ax;obtain ⟨b,v⟩:=bv;obtain ⟨hk,he⟩:=hh;have hk : a = b:=hk;subst hk;refine gG ?_;clear gG;intro h
  by_cases q : a = k
  ·have : zX6 ((a,x) :: kvs) k = some x:=by simp [zX6,q]
   rw [this] at h;cases h;exact ⟨v,zp4 q,he⟩
  ·have : zX6 ((a,x) :: kvs) k = zX6 kvs k:=by simp [zX6,q]
   rw [this] at h;rw [zp5 (show ¬ (a,v).1 = k from q)];exact ih h
end
section
variable {X : Bc} {W : Wl} {k : KB}
theorem ze01 {j : Nat} {kvs : List (Key × El)} {x : Str} {e : El} (hu : X.A.units + 64 < cLine) (hj : W[j]? = some (.dK kvs)) (he : zX6 kvs (.inr x) = some e) (h : k e W) : IB X (.o j) (.d (.str x)) W k:=.of (ze93 (by omega)) fun F A H Q vx vy r zx zy q=>by
 refine za0 fun gG=>?_;obtain ⟨a,ha,rfl⟩:=zx;obtain ⟨u,hH,ws,rfl,p⟩:=r.obj j a _ ha hj;refine gG ?_;clear gG;obtain rfl:=Rq.zf7 zy;refine za0 fun gG=>?_;obtain ⟨v,h1,h2⟩:=zc24 p he;refine gG ?_;clear gG;exact ⟨a,ws,.inr x,v,rfl,rfl,hH,h1,q.same r h2 h⟩
end
def zI2 (h : Heap) (d : Addr) (es : Array my6) (ep : Nat) : Prop:=∃ o,h.get? d = some o /\ o.ExactDict /\ o.data = .dict es ep
section
variable {P : cy7} {w : World} {A : Around} {E : Value->Shared->Prop} {s : Shared} {it d : Addr} {i ep : Nat} {es : Array my6}
theorem zI2.move {h h' : Heap} (x : zI2 h d es ep) (k : ∀ o,h.get? d = some o->h'.get? d = some o) : zI2 h' d es ep:=by
 refine za0 fun gG=>?_;obtain ⟨o,c,r⟩:=x;refine gG ?_;clear gG;exact ⟨o,k o c,r⟩
theorem zQ3 {Q : Option Value->Shared->Prop} {en : my6} (hit : s.heap.IsKeyIter it d i es.size ep) (hm : zI2 s.heap d es ep) (hx : es[i]? = some en)
  (hQ : ∀ h',h'.IsKeyIter it d (i + 1) es.size ep->fy3 it s.heap h'->Q (some en.key) { s with heap:=h' }) : wpAny (model P w) A (pyNext (.ref it)) Q E s:=by
 refine za0 fun gG=>?_;obtain ⟨o,c1,c2,c3⟩:=id hit;obtain ⟨b,b1,b2,b3⟩:=hm;refine gG ?_;clear gG;have ty:=hit.typeIs
 have lt : i < es.size:=by
  rcases Nat.lt_or_ge i es.size with z | z
  ·exact z
  ·rw [my7 z] at hx; cases hx
 unfold pyNext;refine ay0 (qy5 (ey8 (name:=my3 "__next__") ty ly2 (dy4 ly2 ty F.entry_dict_keyiterator_next ?_ (F.args_dict_keyiterator_next_1 _))));refine ay0 (ay1 (ay0 (ay0 ?_)))
 first | refine ay0 (oy2 ty (ay1 ?_)) | refine ay0 (sy0 ty (ay1 ?_))
 refine ay0 (ty2 c1 c3 ?_);have own : gy6 "dict_keyiterator" = false:=by decide
 simp only [own,jy0,if_false];show wpAny _ _ (if (cy9 d == dy6) = true then _ else _) _ _ s;rw [if_neg (show ¬ ((cy9 d == dy6) = true) from by9)];refine ay0 (ay1 (ay0 (ky1 b1 b3 ?_)));rw [if_neg (by simp)];refine ay0 (ay1 (ay0 (ny8 b1 b3 ?_)));rw [if_neg (by simp)];refine ay1 ?_;simp only [show ¬ ((i : Int) < 0) from by omega,if_false,ky0,hx];refine ay0 ?_
 first | refine ay0 (oy2 ty (ay1 ?_)) | refine ay0 (sy0 ty (ay1 ?_))
 refine ay0 (wpAny_isOneOf_keyiter ty ?_);show wpAny _ _ (ty6 (.ref it) 1 (rawInt ((i : Int) + 1)) >>= _) _ _ s;refine ay0 (jy8 c1 c3 (by simp) ?_)
 have hit' : (s.heap.update it (vy3 (·.setIfInBounds 1 (rawInt ((i : Int) + 1))))).IsKeyIter it d (i + 1) es.size ep :=
  ⟨_,gy0 _ c1 (ny6 (hy0 c3 _)),(vy2 ..).trans c2,by rw [hy0 c3]; simp [rawInt]⟩
 refine ay0 (fy1 (ay0 (wpAny_isOneOf_keyiter (s:={ s with heap:=s.heap.update it (vy3 (·.setIfInBounds 1 (rawInt ((i : Int) + 1)))) }) hit'.typeIs ?_)));show wpAny _ _ (pure en.key) _ _ _;exact ay1 (ay1 ⟨_,rfl,ay1 (hQ _ hit' (hy1 ..))⟩)
theorem za48 {Q : Option Value->Shared->Prop} (hh : A.handled = none) (hit : s.heap.IsKeyIter it d i es.size ep) (hm : zI2 s.heap d es ep) (hx : es.size <= i)
  (hQ : ∀ h',Heap.ExtBut it s.heap h'->Q none { s with heap:=h' }) : wpAny (model P w) A (pyNext (.ref it)) Q E s:=by
 refine za0 fun gG=>?_;obtain ⟨o,c1,c2,c3⟩:=id hit;obtain ⟨b,b1,b2,b3⟩:=hm;refine gG ?_;clear gG;have ty:=hit.typeIs;unfold pyNext;refine ay0 (qy5 (ey8 (name:=my3 "__next__") ty ly2 (dy4 ly2 ty F.entry_dict_keyiterator_next ?_ (F.args_dict_keyiterator_next_1 _))));refine ay0 (ay1 (ay0 (ay0 ?_)))
 first | refine ay0 (oy2 ty (ay1 ?_)) | refine ay0 (sy0 ty (ay1 ?_))
 refine ay0 (ty2 c1 c3 ?_);have own : gy6 "dict_keyiterator" = false:=by decide
 simp only [own,jy0,if_false];show wpAny _ _ (if (cy9 d == dy6) = true then _ else _) _ _ s;rw [if_neg (show ¬ ((cy9 d == dy6) = true) from by9)];refine ay0 (ay1 (ay0 (ky1 b1 b3 ?_)));rw [if_neg (by simp)];refine ay0 (ay1 (ay0 (ny8 b1 b3 ?_)));rw [if_neg (by simp)];refine ay1 ?_;simp only [show ¬ ((i : Int) < 0) from by omega,if_false,ky0,my7 hx];refine ay0 ?_
 first | refine ay0 (oy2 ty (ay1 ?_)) | refine ay0 (sy0 ty (ay1 ?_))
 show wpAny _ _ (ty6 (.ref it) 0 .none >>= _) _ _ s;refine ay0 (jy8 c1 c3 (by simp) ?_);refine zk3 (by simpa using hh) fun h' e k te=>?_;refine ay0 (qy0 te isSubtype_stop ?_);exact ay1 (hQ _ fun b' o' hb q=>k _ _ ((dy5 _ _ (fy2 hb)).trans q))
theorem zQ4 {Q : Value->Shared->Prop} (hd : (d == ky7) = false) (hm : zI2 s.heap d es ep)
  (hQ : Q (.ref s.heap.objs.size) { s with heap:=s.heap.push { cls:=.type "dict_keyiterator",data:=.fields #[.ref d,.int 0 0,.int es.size 0,.int ep 0] } }) : wpAny (model P w) A (pyIter (.ref d)) Q E s:=by
 refine za0 fun gG=>?_;obtain ⟨b,b1,b2,b3⟩:=hm;refine gG ?_;clear gG;have ty : s.TypeIs (.ref d) "dict" := ⟨b,b1,b2.1⟩
 refine ry8 ty F.slot_dict_iter (dy4 F.slot_dict_iter ty F.entry_dict_iter ?_ (F.args_dict_iter_1 _));unfold Builtin.«dict.__iter__»;refine ay0 ?_;unfold Builtin.Dict.dictSlotNone;refine ay0 (qy3 ty (ay1 ?_));show wpAny _ _ (jy7 d >>= _) _ _ s;unfold Builtin.Dict.showsAll;rw [if_neg (by rw [hd]; exact by9)];refine ay0 (ay1 (ay0 (ky1 b1 b3 (ay0 (ny8 b1 b3 ?_)))));refine ay0 (ey5 (ay1 ⟨_,rfl, "dict_keyiterator",_,⟨_,ay7 _ rfl,rfl⟩,ly2.lookup,?_⟩));simpa [rawInt] using hQ
end
section
variable {X : Cx} {tg : Expr}
theorem Inv.frz {pins : List (Addr × Obj)} {σ : St} {H : Hp} {s : Shared} {d : Addr} {kvs : List (List Key × V)} (I : Inv X pins σ H s) (e : H d = some (.dT kvs)) : ∃ o,KeysIn H o (kvs.map (·.1)) /\ Inv X pins σ (upd H d (.frz o (.dT kvs))) s:=by
 refine za0 fun gG=>?_;obtain ⟨z,hs,xs,pr,o,es,ep,h1,h2,h3,h4,h5⟩:=I.hok d _ e;refine gG ?_;clear gG;refine ⟨o,⟨es,ep,h2,h3,?_,fun i k hk=>?_⟩,?_⟩
 ·have:=congrArg List.length h4;rw [ay3,jy2] at this;rw [this,ay3];exact pr.length.symm
 ·rw [by1] at hk;cases hi : kvs[i]? with
  | none=>rw [hi] at hk; cases hk
  | some p =>
   rw [hi] at hk;cases hk;refine za0 fun gG=>?_;obtain ⟨q,hq,e1,e2,e3⟩:=zh6 pr hi;refine gG ?_;clear gG;refine ⟨entryOfKey (tupleKind (zc5 X.prog X.w)) q,q.2.1,?_,rfl,e2⟩;rw [<- ly0,h4,by1,hq];rfl
 ·have ht : ∀ b ys,H b = some (.tup ys)->upd H d (.frz o (.dT kvs)) b = some (.tup ys):=fun b ys hb=>by
   rw [za8 (zJ8 hb e (by simp))]; exact hb
  refine I.write (x:=d) (e:=d) (h':=s.heap) (t':=s.toks) (o:=.frz o (.dT kvs)) (by rw [e]; trivial) (.inl rfl) (fun _ _ _ q=>q) ⟨o,h1⟩ ⟨h1,?_⟩;exact zc1.zS7 (I.hok d _ e) (fun _ _ _ q=>q) (fun b hb=>by rw [za8 (zJ8 hb e (by simp))]; exact hb) ht
theorem Inv.zV7 {pins : List (Addr × Obj)} {σ : St} {H : Hp} {s : Shared} {d : Addr} {o : Obj} {u : HO} (I : Inv X pins σ H s) (e : H d = some (.frz o u)) (h0 : ∀ o' u',X.H₀ d ≠ some (.frz o' u')) : Inv X pins σ (upd H d u) s:=by
 have hn : ∀ b,H b = none->upd H d u b = none:=fun b hb=>by rw [za8 (fun z=>by subst z; rw [e] at hb; cases hb)]; exact hb
 have hne : ∀ b v,H b = some v->v ≠ .frz o u->upd H d u b = some v:=fun b v hb hv=>by rw [za8 (zJ8 hb e hv)]; exact hb
 refine ⟨I.ok,I.os,I.bare,⟨I.base.keep,I.base.slot,fun b ob q n hx=>hn b (I.base.free b ob q n hx),I.base.there,fun b xs q=>hne b _ (I.base.tups b xs q) (by simp),fun b ob u' q=>?_,fun b ps q=>?_⟩,I.loc,I.cell,hn _ I.free,fun x c h=>hn _ (I.freeC x c h),fun p hp=>?_,fun b v q=>?_,I.len⟩
 ·have hb : b ≠ d:=fun z=>by subst z; exact h0 _ _ q
  rw [za8 hb];exact I.base.frzs b ob u' q
 ·obtain ⟨more,z⟩:=I.base.tbls b ps q;exact ⟨more,hne b _ z (by simp)⟩
 ·refine za0 fun gG=>?_;obtain ⟨a1,a2,a3⟩:=I.pin p hp;refine gG ?_;clear gG;exact ⟨a1,hn _ a2,a3⟩
 ·have st : ∀ {c v},zc1 X.prog X.w H s.heap c v->zc1 X.prog X.w (upd H d u) s.heap c v:=fun {c v} x =>
   x.zS7 (fun _ _ _ q=>q) (fun b' hb=>hne _ _ hb (by simp)) fun b' ys hb=>hne _ _ hb (by simp)
  by_cases hb : b = d
  ·subst hb;rw [zb5] at q;cases q;exact st (show zc1 X.prog X.w H s.heap b (.frz o u) from I.hok b _ e).2
  ·rw [za8 hb] at q;exact st (I.hok b v q)
theorem ze02 {e : Expr} {t : TE} (h : PE X e t) : PE X e fun σ H Q=>∃ d kvs,H d = some (.dT kvs) /\ ∀ o,KeysIn H o (kvs.map (·.1))->t σ (upd H d (.frz o (.dT kvs))) fun v H'=>∃ kvs',H' d = some (.frz o (.dT kvs')) /\ Q v (upd H' d (.dT kvs')):=by
 intro pins s σ H Q I ⟨d,kvs,hd,q⟩;refine za0 fun gG=>?_;obtain ⟨o,ki,I1⟩:=I.frz hd;refine gG ?_;clear gG
 have h0 : ∀ o' u',X.H₀ d ≠ some (.frz o' u'):=fun o' u' z=>by
  have:=I.base.frzs d o' u' z;rw [hd] at this;cases this
 refine thn (h pins s σ _ _ I1 (q o ki)) fun v s1 zR=>?_;refine za0 fun gG=>?_;obtain ⟨y,H1,I2,r,kvs',e1,q1⟩:=zR;refine gG ?_;clear gG;exact ⟨y,_,I2.zV7 e1 h0,r,q1⟩
end
theorem RW.zM0 {K : ay5} {A : List Addr} {W : Wl} {H : Hp} : ∀ (l : List (Addr × List V)) {F : Hp},RW K F A W H->(∀ p∈l,H p.1 = some (.tup p.2))->∃ F',zn2 F F' /\ (∀ p∈l,F' p.1 = some (.tup p.2)) /\ RW K F' A W H
 | [],F,r,_=>⟨F,.refl _,(fun p hp=>absurd hp (by simp)),r⟩
 | p :: l,F,r,h=>by
  refine za0 fun gG=>?_;obtain ⟨F1,s1,e1,r1⟩:=r.grew (.refl H) (h p ay9);obtain ⟨F2,s2,e2,r2⟩:=RW.zM0 l r1 fun q hq=>h q (by0 _ hq);refine gG ?_;clear gG;exact ⟨F2,s1.trans s2,fun q hq=>(by7.mp hq).elim (fun z=>by subst z; exact s2 _ _ e1) (e2 q),r2⟩
section
variable {X : Bc} {S : Sl} {W : Wl} {k : KB}
theorem ze03 {e : Expr} {j : Nat} {kvs : List (List Key × El)} (hj : W[j]? = some (.dT kvs)) (h : ∀ o,BE X S (W.set j (.fT o kvs)) e fun y W1=>W1[j]? = some (.fT o kvs) /\ k y (W1.set j (.dT kvs))) : BE X S W e k :=
 .of (ze02 zi1) fun F A σ H Q x0 r sr q=>by
  classical
  have hlW : j < W.length:=(ay4.mp hj).1;have hlA : j < A.length:=by rw [r.len]; exact hlW
  have hjA : A[j]? = some A[j]:=by simp [hlA]
  refine za0 fun gG=>?_;obtain ⟨ho,eH,vs,rfl,p⟩:=r.obj j _ _ hjA hj;refine gG ?_;clear gG
  have hkeys : vs.map (·.1) = kvs.map (·.1):=by
   clear eH hj h
   induction p with
   | nil=>rfl
   | cons a _ ih=>simp [ih,a.1]
  refine ⟨A[j],vs,eH,fun o ki=>?_⟩;rw [hkeys] at ki;refine za0 fun gG=>?_;obtain ⟨es,ep,k1,k2,k3,k4⟩:=id ki
  obtain ⟨F1,s1,e1,r1⟩:=r.zM0 ((es.toList.zip (kvs.map (·.1))).filterMap fun p=>match p.1.key with | .ref b=>if H b = some (.tup (p.2.map kV)) then some (b,p.2.map kV) else none | _=>none) fun q hq=>by
   obtain ⟨⟨en,kk⟩,_,hq⟩:=List.mem_filterMap.mp hq;simp only at hq
   split at hq
   ·split at hq
    ·cases hq; assumption
    ·cases hq
   ·cases hq
  refine gG ?_;clear gG
  have ki1 : KeysIn F1 o (kvs.map (·.1)):=by
   refine ⟨es,ep,k1,k2,k3,fun i kk hk=>?_⟩;refine za0 fun gG=>?_;obtain ⟨en,b,h1,h2,h3⟩:=k4 i kk hk;refine gG ?_;clear gG;refine ⟨en,b,h1,h2,e1 (b,kk.map kV) (List.mem_filterMap.mpr ⟨(en,kk),?_,?_⟩)⟩
   ·refine gy7.mpr ⟨i,?_⟩;rw [List.getElem?_zip_eq_some];exact ⟨by rw [ly0]; exact h1,hk⟩
   ·simp [h2,h3]
  have x1 : Ext F A F1 A:=⟨s1,sy6 _⟩
  have r2 : RW X.K F1 A (W.set j (.fT o kvs)) (upd H A[j] (.frz o (.dT vs))):=r1.put hjA ⟨vs,⟨rfl,ki1⟩,zg6 (fun _ _ z=>⟨z.1,z.2.ext x1⟩) p⟩;refine (h o).use (x0.trans x1) r2 (sr.ext x1) fun F2 A2 W2 H2 y v x2 r3 z3 zR=>?_;refine za0 fun gG=>?_;obtain ⟨hw,hk⟩:=zR;have hjA2 : A2[j]? = some A[j]:=zv4 x2.pre hjA;obtain ⟨h',e',vs',⟨rfl,_⟩,p'⟩:=r3.obj j _ _ hjA2 hw;refine gG ?_;clear gG;exact ⟨vs',e',q F2 A2 _ _ y v (x1.trans x2) (r3.put (o:=.dT kvs) hjA2 ⟨vs',rfl,p'⟩) z3 hk⟩
end
end L2
namespace L2
open PySem PySem.Spec PyProof.Rows
open PySem.W
def Pm (n : Nat) (p : Array Nat) : Prop:=p.Perm (jy9 n).toArray
theorem Pm.lt {n : Nat} {p : Array Nat} (h : Pm n p) (hn : 0 < n) (x : Nat) : Array.getD p x 0 < n:=by
 unfold Array.getD
 split
 ·rename_i hx
  have : p[x]∈p:=Array.getElem_mem hx;have:=h.mem_iff.mp this;simpa using this
 ·exact hn
theorem Pm.rev {n : Nat} {p : Array Nat} (h : Pm n p) (i j : Nat) : Pm n (kas_rev p i j):=(mirror_perm p i j _).trans h
section
variable {n : Nat} (hn : 0 < n)
include hn
end
section
variable {prog : cy7} {w : World} {A : Around} {E : Value->Shared->Prop} {s : Shared} {a : Addr} {vs : List Value} {n : Nat}
theorem zc82 (vs : List Value) : (Array.map (fun x : Keyed=>x.snd) (vs.toArray.zip vs.toArray)).toList = vs:=by
 simp only [List.zip_toArray,List.map_toArray];exact List.map_snd_zip (ay6 _)
end
section
variable {X : Cx}
end
section
variable {X : Bc} {W : Wl} {k : KB}
end
end L2
namespace L2
open PySem PySem.Spec PyProof.Rows
section
variable {prog : cy7} {w : World} {A : Around} {E : Value->Shared->Prop} {s : Shared}
theorem zM1 {a : Addr} {ks : List Str} {k : Str} {tk : Tok} {Q : Value->Shared->Prop} (hS : zo9 prog w s.heap a ks) (hr : ks.length + 1 < ry6)
  (h : ∀ h',fy3 a s.heap h'->zo9 prog w h' a (zw3 ks k)->Q .none { s with heap:=h',toks:=s.toks + 1 }) :
  wpAny (model prog w) A (call (.builtin "set.add") [.ref a,.str k tk]) Q E s:=by
 have hT : s.TypeIs (.ref a) "set" := by
  refine za0 fun gG=>?_;obtain ⟨o,es,ep,t,g1,g2,_⟩:=hS;refine gG ?_;clear gG;exact ⟨o,g1,g2.1⟩
 refine dy4 F.slot_set_add hT F.entry_set_add ?_ (F.args_set_add_2 _ _);unfold Builtin.«set.add»;refine ay0 (ay1 ?_);dsimp only;unfold setAdd;refine ay0 (fy1 (ay0 ((gy9 prog w).pyHash (k:=k) (PySem.strKind_is prog w k tk) ?_)));refine zP9 (s:={ s with toks:=s.toks + 1 }) hS hr fun b h' sb hs2=>?_;exact ay1 ⟨_,rfl,h h' sb hs2⟩
variable {R : Result->Shared->Prop}
theorem zh2 {elt : Expr} {gens : List Comprehension} {scope : Scope} {pos : Pos} {it acc : Value} {env : Env} {d : Nat} {g : Comprehension} (hg : gens[d]? = some g) (ha : g.is_async = 0)
  (h1 : ly4 (model prog w) A (.compLoop (.SetComp elt gens scope pos) d it acc env) R s)
  (h2 : wpAny (model prog w) A (pyIter it) (fun it' s'=>ly4 (model prog w) A (.compLoop (.SetComp elt gens scope pos) d it' acc env) R s') (fun _ _=>False) s) :
  ly4 (model prog w) A (.compStart (.SetComp elt gens scope pos) d it acc env) R s:=by
 refine codeAny_of_tree ?_;show wpAny _ A ((compStart (.SetComp elt gens scope pos) d it acc env).onRaise (fun x=>do noteFrame x env; standAt theWindowsPlace)) _ _ s;refine wpAny_notedAt ?_;unfold compStart;have e1 : (clausesOf (.SetComp elt gens scope pos))[d]? = some g:=hg;have e2 : ((some g).elim false (·.is_async != 0)) = false:=by simp [ha]
 rw [e1,e2];refine ay0 (wpAny_askSetting (wpAny_ite ?_))
 by_cases hq : ((model prog w).w.params.followText "comprehension-iter-twice") = true
 ·rw [if_pos hq];exact ay0 (ay1 (ay1 ⟨rfl,h1⟩))
 ·rw [if_neg hq];refine ay0 (oy6 (ay0 (ly3 (ay0 (fy6 h2 (fun it' s' h'=>ay1 ⟨rfl,h'⟩) fun _ _ h=>h.elim)))))
theorem zb58 {led : Bool} : zo9 prog w (s.heap.push { cls:=.type "set",dict:=none,data:=.set #[] 0 (.fresh 0 0 led) }) s.heap.objs.size [] :=
 ⟨_,#[],0,_,ay7 _ rfl,⟨rfl,rfl,rfl⟩,rfl,fun e he=>by simp at he,by decide,rfl,fun z=>absurd rfl z,by simp,by simp⟩
theorem zV8 {Q : Value->Shared->Prop} (h : ∀ led : Bool,Q (.ref s.heap.objs.size) { s with heap:=s.heap.push { cls:=.type "set",dict:=none,data:=.set #[] 0 (.fresh 0 0 led) } }) : wpAny (model prog w) A (newSet (.type "set")) Q E s :=
 wpAny_newSet_of (knd:=gy9 prog w) fun led _=>h led
theorem zI3 {elt t1 i1 t2 i2 : Expr} {scope : Scope} {pos : Pos} {it acc : Value} {env : Env} (hf : ∀ x,ey4 i2 env x = pure x) (J : Nat->Shared->Prop)
  (turn : ∀ n s,J n s->wpAny (model prog w) A (pyNext it) (fun r s1=>match r with
   | none=>R (.ok .next) s1
   | some v=>wpAny (model prog w) A (oy9 t1 it v) (fun _ s1'=>wpAny (model prog w) A (assign t1 env v) (fun _ s2 =>
     wpAny (model prog w) A (eval i2 env) (fun x s3=>wpAny (model prog w) A (pyIter x) (fun it2 s4 =>
      ly4 (model prog w) (A.mark none) (.compStart (.SetComp elt [⟨t1,i1,[],0⟩,⟨t2,i2,[],0⟩] scope pos) 1 it2 acc env) (fun r s5=>match r with | .ok _=>∃ m,m < n /\ J m s5 | .error _=>False) s4)
      (fun _ _=>False) s3) (fun _ _=>False) s2) (fun _ _=>False) s1') (fun _ _=>False) s1) (fun _ _=>False) s)
  (n : Nat) (h : J n s) : ly4 (model prog w) A (.compLoop (.SetComp elt [⟨t1,i1,[],0⟩,⟨t2,i2,[],0⟩] scope pos) 0 it acc env) R s:=by
 refine codeAny_loop rfl J (fun n s hI=>?_) n h;show wpAny _ A ((compTurn (.SetComp elt [⟨t1,i1,[],0⟩,⟨t2,i2,[],0⟩] scope pos) 0 it acc env).onRaise (fun x=>do noteFrame x env; theTreesLotGoes x)) _ _ s;refine wpAny_noted ?_;unfold compTurn;refine ay0 (ly3 (ay0 (fy6 (turn n s hI) (fun r s1 h1=>?_) fun _ _ h'=>h'.elim)));cases r with
 | none=>exact ay1 h1
 | some v =>
  refine ay0 (fy6 h1 (fun _ s1' h1'=>?_) fun _ _ h'=>h'.elim);refine ay0 (fy6 h1' (fun _ s2 h2=>?_) fun _ _ h'=>h'.elim);refine ay0 (ay1 ?_);refine ay0 (fy6 h2 (fun x s3 h3=>?_) fun _ _ h'=>h'.elim);refine ay0 (ly3 ?_);show wpAny _ A (ey4 i2 env x >>= _) _ _ s3;rw [hf x];refine ay0 (ay1 (ay0 (fy1 (fy6 h3 (fun it2 s4 h4=>?_) fun _ _ h'=>h'.elim))));refine ay0 (wpAny_runOwn (ty9 h4 fun r s5 h5=>?_));cases r with
  | error e=>exact h5.elim
  | ok f=>exact ay1 ⟨rfl,h5⟩
theorem zM2 {elt t1 i1 t2 i2 : Expr} {scope : Scope} {pos : Pos} {it acc : Value} {env : Env} (J : Nat->Shared->Prop)
  (turn : ∀ n s,J n s->wpAny (model prog w) A (pyNext it) (fun r s1=>match r with
   | none=>R (.ok .next) s1
   | some v=>wpAny (model prog w) A (oy9 t2 it v) (fun _ s1'=>wpAny (model prog w) A (assign t2 env v) (fun _ s2 =>
     wpAny (model prog w) A (eval elt env) (fun x s3=>wpAny (model prog w) A (call (.builtin "set.add") [acc,x]) (fun _ s5=>∃ m,m < n /\ J m s5)
      (fun _ _=>False) s3) (fun _ _=>False) s2) (fun _ _=>False) s1') (fun _ _=>False) s1) (fun _ _=>False) s)
  (n : Nat) (h : J n s) : ly4 (model prog w) A (.compLoop (.SetComp elt [⟨t1,i1,[],0⟩,⟨t2,i2,[],0⟩] scope pos) 1 it acc env) R s:=by
 refine codeAny_loop rfl J (fun n s hI=>?_) n h;show wpAny _ A ((compTurn (.SetComp elt [⟨t1,i1,[],0⟩,⟨t2,i2,[],0⟩] scope pos) 1 it acc env).onRaise (fun x=>do noteFrame x env; theTreesLotGoes x)) _ _ s;refine wpAny_noted ?_;unfold compTurn;refine ay0 (ly3 (ay0 (fy6 (turn n s hI) (fun r s1 h1=>?_) fun _ _ h'=>h'.elim)));cases r with
 | none=>exact ay1 h1
 | some v =>
  refine ay0 (fy6 h1 (fun _ s1' h1'=>?_) fun _ _ h'=>h'.elim);refine ay0 (fy6 h1' (fun _ s2 h2=>?_) fun _ _ h'=>h'.elim);refine ay0 (ay1 ?_);refine ay0 (ay0 (fy6 h2 (fun x s3 h3=>?_) fun _ _ h'=>h'.elim));refine ay0 (ly3 ?_);exact ay0 (fy6 h3 (fun _ s5 h5=>ay1 (ay1 ⟨rfl,h5⟩)) fun _ _ h'=>h'.elim)
end
section
variable {X : Cx} {scope : Scope}
theorem Inv.za49 {pins : List (Addr × Obj)} {σ σ' : St} {H H' : Hp} {s s4 : Shared} {N : List Str} {cl : List (Str × Addr)} {fp : List Addr} {C D : Addr} {h0 h' : Heap} {u0 : HO} (I : Inv X pins σ H s)
  (hf : ∀ b∈fp,zr9 X pins H b) (hs : s.heap.objs.size <= C) (hD : s.heap.objs.size <= D) (hDC : D < C)
  (k0 : ∀ b o,s.heap.get? b = some o->h0.get? b = some o)
  (I4 : Inv (zc2 X N scope cl C (D :: fp) { s with heap:=h0 } H) [] σ' H' s4) (fD : H' D = none) (new : zc1 X.prog X.w (upd H' D u0) h' D u0)
  (sb : fy3 C s4.heap h') : Inv X pins σ (upd H' D u0) { s4 with heap:=h' }:=by
 have kC : ∀ b o,b ≠ C->s4.heap.get? b = some o->h'.get? b = some o:=fun b o hb e=>(sb.2 b hb).trans e;have lt : ∀ b o,s.heap.get? b = some o->b < s.heap.objs.size:=fun b o e=>by2 e;have neD : ∀ b o,s.heap.get? b = some o->b ≠ D:=fun b o e=>by8 (by6 (lt b o e) hD);have neC : ∀ b o,s.heap.get? b = some o->b ≠ C:=fun b o e=>by8 (by6 (lt b o e) hs);have nin : ∀ b o,s.heap.get? b = some o->b ∉ fp->b ∉ D :: fp:=fun b o e h hb=>(by7.mp hb).elim (neD b o e) h;have HD : H D = none:=I.hok.fresh hD;have neDH : ∀ b u,H b = some u->b ≠ D:=fun b u e=>za5 e HD;have fC : H' C = none:=I4.free;have un : Un (frs X.stack) (D :: fp) H H' h0 s4.heap:=I4.base;refine I.zb13 (ch:=fp) (s':={ s4 with heap:=h' }) (H':=upd H' D u0) I4.os ⟨fun b o e n hb hx=>?_,fun b o e n hb hx=>?_,fun b o e n hx=>?_,fun b o e hx=>?_,fun b xs e=>?_,fun b o u e=>?_,fun b ps e=>?_⟩ (fun b u e=>?_) I4.bare (fun b hb=>?_)
 ·exact kC b o (neC b o e) (un.keep b o (k0 b o e) n hb (nin b o e hx))
 ·obtain ⟨sl,q⟩:=un.slot b o (k0 b o e) n hb (nin b o e hx);exact ⟨sl,kC b _ (neC b o e) q⟩
 ·rw [za8 (neD b o e)];exact un.free b o (k0 b o e) n (nin b o e hx)
 ·obtain ⟨o',q⟩:=un.there b o (k0 b o e) (nin b o e hx);exact ⟨o',kC b _ (neC b o e) q⟩
 ·rw [za8 (neDH b _ e)];exact un.tups b xs e
 ·rw [za8 (neDH b _ e)];exact un.frzs b o u e
 ·rw [za8 (neDH b _ e)];exact un.tbls b ps e
 ·by_cases hb : b = D
  ·subst hb;rw [zb5] at e;cases e;exact new
  ·rw [za8 hb] at e;refine (I4.hok b u e).zS7 (fun c v hc q=>kC c v ?_ q) (fun c q=>by rw [za8 (za5 q fD)]; exact q) fun c xs q=>by rw [za8 (za5 q fD)]; exact q
   rcases hc with q | q
   ·rw [q]; exact za5 e fC
   ·exact za5 q fC
 ·refine za0 fun gG=>?_;obtain ⟨_,h1,_,h2,h3,h4⟩:=hf b hb;refine gG ?_;clear gG;exact ⟨h2,h1,h3,h4⟩
end
section
variable {X : Cx} {t1 i1 i2 elt : Expr} {x2 : Str} {p2 : Pos} {scope : Scope} {pos : Pos} {te : TE} {j2 : Nat}
theorem zo9.obj {P : cy7} {w : World} {h : Heap} {a : Addr} {ks : List Str} (x : zo9 P w h a ks) : ∃ o,h.get? a = some o /\ ∀ v,o.data ≠ .cell v:=by
 refine za0 fun gG=>?_;obtain ⟨o,es,ep,t,g1,g2,g3,_⟩:=x;refine gG ?_;clear gG;exact ⟨o,g1,fun v z=>by rw [g3] at z; cases z⟩
theorem zr9.more {pins more : List (Addr × Obj)} {H : Hp} {b : Addr} (f : zr9 X pins H b) (h : ∀ p∈more,p.1 ≠ b) : zr9 X (pins++more) H b:=by
 refine za0 fun gG=>?_;obtain ⟨f0,f1,f2,f3,f4,f5⟩:=f;refine gG ?_;clear gG;refine ⟨f0,f1,f2,f3,f4,fun p hp=>?_⟩;rcases ey0.mp hp with z | z
 ·exact f5 p (ky3 _ z)
 ·rcases ey0.mp z with z | z
  ·exact f5 p (dy3 _ z)
  ·exact h p z
theorem Inv.zC8 {pins more : List (Addr × Obj)} {σ : St} {H : Hp} {s : Shared} (I : Inv X (pins++more) σ H s) : Inv X pins σ H s :=
 I.zl7 fun p hp=>I.pin p (dy3 _ (ky3 _ hp))
theorem Inv.zo3 {pins : List (Addr × Obj)} {fp : List Addr} {h : Heap} {σ : St} {H : Hp} {s : Shared} (I : Inv X (pins++zf2 fp h) σ H s) {b : Addr} {o : Obj} (hb : b∈fp) (e : h.get? b = some o) : s.heap.get? b = some o /\ H b = none:=by
 have:=I.pin (b,o) (dy3 _ (dy3 _ (ze6 hb e)));exact ⟨this.1,this.2.1⟩
theorem zV9 (hxe : X.xe = fun _ _=>False) (hcm : X.calm = true) (hg : PG X (.Name x2 p2) (zn9 j2)) (he : PE X elt te)
  {P0 : List (Addr × Obj)} {σ2 : St} {D it : Addr} {fp : List Addr} {tn : Nat->Heap->Prop} {J : It} (T : Turn X.prog X.w X.K (.Name x2 p2) J fp it tn)
  (fD : ∀ H,H D = none->zr9 X P0 H D) (ff : ∀ b∈fp,b ≠ D /\ ∀ H,H b = none->zr9 X P0 H b) (hσ : σ2[j2]? = some none)
  {W2 : Nat->Nat->List Str->Hp->Prop} {Fin : List Str->Hp->Prop}
  (hW : ∀ i m ks H,W2 i m ks H->ks.length + 1 < ry6 /\ ((J.stop i H /\ Fin ks H) \/ (J.go i H /\ ∀ y H5,J.yld i H y H5->te (σ2.set j2 (some y)) H5 fun z H7=>∃ k,z = .str k /\ ∃ m',m' < m /\ W2 (i + 1) m' (ks++[k]) H7)))
  {R : Result->Shared->Prop} (hR : ∀ ks H s',Inv X P0 σ2 H s'->zo9 X.prog X.w s'.heap D (zc9 ks)->H D = none->Fin ks H->R (.ok .next) s')
  {m : Nat} {ks : List Str} {H : Hp} {s : Shared} (I : Inv X P0 σ2 H s) (st : tn 0 s.heap) (hS : zo9 X.prog X.w s.heap D (zc9 ks)) (h0 : H D = none) (hf : ∀ b∈fp,H b = none) (w : W2 0 m ks H) :
  ly4 (model X.prog X.w) X.A (.compLoop (.SetComp elt [⟨t1,i1,[],0⟩,⟨.Name x2 p2,i2,[],0⟩] scope pos) 1 (.ref it) (.ref D) X.env) R s:=by
 refine zM2 (fun n s=>∃ i ks H,Inv X P0 σ2 H s /\ tn i s.heap /\ zo9 X.prog X.w s.heap D (zc9 ks) /\ H D = none /\ (∀ b∈fp,H b = none) /\ W2 i n ks H) ?_ m ⟨0,ks,H,I,st,hS,h0,hf,w⟩;clear I st hS h0 hf w;intro n s gX;refine za0 fun gG=>?_;obtain ⟨i,ks,H,I,st,hS,h0,hf,w⟩:=gX;obtain ⟨hlen,step⟩:=hW i n ks H w;obtain ⟨oD,gD,cD⟩:=hS.obj;refine gG ?_;clear gG;have I1 : Inv X (P0++zf2 [D] s.heap) σ2 H s:=I.pinned (fp:=[D]) (fun b hb=>by simp at hb; subst hb; exact fD H h0) fun b hb=>by simp at hb; subst hb; exact ⟨oD,gD,cD⟩
 have f1 : ∀ b∈fp,zr9 X (P0++zf2 [D] s.heap) H b:=fun b hb=>((ff b hb).2 H (hf b hb)).more fun p hp=>by
  have:=(zg5 hp).1;simp at this;rw [this];exact (ff b hb).1.symm
 rcases step with ⟨stop,fin⟩ | ⟨go,step⟩
 ·refine thn (T.done X rfl rfl rfl hcm i _ s σ2 H _ I1 f1 st stop) fun r s1 zR=>?_;refine za0 fun gG=>?_;obtain ⟨hr,I2⟩:=zR;subst hr;refine gG ?_;clear gG;have g2:=I2.zo3 (b:=D) (by simp) gD;exact hR ks H s1 I2.zC8 (hS.move fun o e=>by rw [gD] at e; cases e; exact g2.1) h0 fin
 ·refine thn (T.item X rfl rfl rfl hcm i _ s σ2 H _ I1 f1 st go) fun r s1 zR=>?_;refine za0 fun gG=>?_;obtain ⟨u,hr,h1⟩:=zR;subst hr;refine gG ?_;clear gG;refine thn h1 fun _ s5 zR=>?_;refine za0 fun gG=>?_;obtain ⟨x,H5,I5,r5,y5,st5,fr5⟩:=zR;refine gG ?_;clear gG;have g5:=I5.zo3 (b:=D) (by simp) gD;have hS5 : zo9 X.prog X.w s5.heap D (zc9 ks):=hS.move fun o e=>by rw [gD] at e; cases e; exact g5.1
  have I6 : Inv X (P0++zf2 (D :: fp) s5.heap) σ2 H5 s5:=I5.zC8.pinned (fp:=D :: fp) (fun b hb=>by
   rcases by7.mp hb with e | hb
   ·subst e; exact fD H5 g5.2
   ·exact (ff b hb).2 H5 (fr5 b hb)) fun b hb=>by
   rcases by7.mp hb with e | hb
   ·subst e; exact ⟨oD,g5.1,cD⟩
   ·exact T.obj _ _ st5 b hb
  have a6:=hg _ s5 σ2 H5 x u (fun σ' H'=>σ' = σ2.set j2 (some x) /\ H' = H5) I6 r5 ⟨rfl,rfl⟩;rw [hxe] at a6;refine thn a6 fun _ s6 zR=>?_;refine za0 fun gG=>?_;obtain ⟨σ6,H6,I7,e1,e2⟩:=zR;refine gG ?_;clear gG;subst e1 e2;have a7:=he _ s6 _ H6 _ I7 (step x H6 y5);rw [hxe] at a7;refine thn a7 fun y s7 zR=>?_;refine za0 fun gG=>?_;obtain ⟨z,H7,I8,r7,k,hz,m',hm',w'⟩:=zR;subst hz;obtain ⟨t,rfl⟩:=r7;refine gG ?_;clear gG;have g8:=I8.zo3 (b:=D) ay9 g5.1;have hS8 : zo9 X.prog X.w s7.heap D (zc9 ks):=hS5.move fun o e=>by rw [g5.1] at e; cases e; exact g8.1
  have hlen' : (zc9 ks).length + 1 < ry6:=ly7 (Nat.succ_le_succ (zH5 ks)) hlen;refine zM1 hS8 hlen' fun h' sb hS9=>?_;rw [<- zz1] at hS9
  have I9 : Inv X P0 σ2 H7 s7:=I8.zC8.weak (by simp) fun j v e=>by
   have : j ≠ j2:=fun z=>by subst z; rw [hσ] at e; cases e
   rw [cy6 (fy2 this)];exact e
  refine za0 fun gG=>?_;obtain ⟨q0,q1,q2,q3,q4,q5⟩:=fD H7 g8.2;refine gG ?_;clear gG;refine ⟨m',hm',i + 1,ks++[k],H7,I9.turned (t':=s7.toks + 1) (fun b o hb e=>(sb.2 b hb).trans e) q0 q1 q3 q4 q5,?_,hS9,g8.2,fun b hb=>?_,w'⟩
  ·refine T.keep _ _ _ st5 fun b hb o e=>(sb.2 b (ff b hb).1).trans (I8.zo3 (by0 _ hb) e).1
  ·refine za0 fun gG=>?_;obtain ⟨o,e,_⟩:=T.obj _ _ st5 b hb;refine gG ?_;clear gG;exact (I8.zo3 (by0 _ hb) e).2
end
def tSC2 (wi : TI) (O : List Str) (cap : List Nat) (j1 : Nat) (wi2 : TI) (j2 : Nat) (te : TE) : TE:=fun σ H Q=>wi σ H fun J1 H1=>∃ W : Nat->Nat->List Str->Hp->Prop,(∃ m,W 0 m [] H1) /\ ∀ i m ks H,W i m ks H ->
  ((J1.stop i H /\ ∀ l,H l = none->Q (.ref l) (upd H l (setO l (zc9 ks)))) \/
   (J1.go i H /\ ∀ x H',J1.yld i H x H'->wi2 ((zc3 O cap σ).set j1 (some x)) H' fun J2 H3=>∃ W2 : Nat->Nat->List Str->Hp->Prop,(∃ m',W2 0 m' ks H3) /\ ∀ i2 m2 ks2 H4,W2 i2 m2 ks2 H4->ks2.length + 1 < ry6 /\
     ((J2.stop i2 H4 /\ ∃ m',m' < m /\ W (i + 1) m' ks2 H4) \/ (J2.go i2 H4 /\ ∀ y H5,J2.yld i2 H4 y H5->te (((zc3 O cap σ).set j1 (some x)).set j2 (some y)) H5 fun z H7=>∃ k,z = .str k /\ ∃ m',m' < m2 /\ W2 (i2 + 1) m' (ks2++[k]) H7))))
section
variable {X : Cx} {iter i2 elt : Expr} {x1 x2 : Str} {p1 p2 : Pos} {scope : Scope} {pos : Pos} {wi wi2 : TI} {te : TE} {O F : List Str} {cap : List Nat} {j1 j2 : Nat}
theorem za50 (hc : X.calm = true) (S : zb3 X.N X.env.scope O F cap scope) (hj1 : j1 < O.length) (hj2 : j2 < O.length) (hj : j1 ≠ j2) (hi : PI X (.Name x1 p1) iter wi)
  (hg1 : ∀ cl C ex s H,PG (zc2 X (O++F) scope cl C ex s H) (.Name x1 p1) (zn9 j1)) (hg2 : ∀ cl C ex s H,PG (zc2 X (O++F) scope cl C ex s H) (.Name x2 p2) (zn9 j2))
  (hi2 : ∀ cl C ex s H,PI (zc2 X (O++F) scope cl C ex s H) (.Name x2 p2) i2 wi2) (he : ∀ cl C ex s H,PE (zc2 X (O++F) scope cl C ex s H) elt te)
  (hs : ∀ x,ey4 iter X.env x = pure x:=by intro _; rfl) (hs2 : ∀ env x,ey4 i2 env x = pure x:=by intro _ _; rfl) :
  PE X (.SetComp elt [⟨.Name x1 p1,iter,[],0⟩,⟨.Name x2 p2,i2,[],0⟩] scope pos) (tSC2 wi O cap j1 wi2 j2 te):=by
 intro pins s σ H Q I h;have hfr : ∀ y∈scope.names,y.2 = .free->∃ c,X.env.cells.lookup y.1 = some c:=fun y hy e=>I.ok.has y.1 (S.frees y hy e);rw [arm_eval_SetComp];refine wpAny_comprehension_free (use:=none) rfl hs (zq6 hfr) S.kind S.names (thn (hi pins s σ H _ I h) fun v s1 h1=>thn h1 fun itv s2 h2=>?_);refine zF0 h2 fun it fp tn J H2 e I2 T st2 f2 qR=>?_;refine za0 fun gG=>?_;obtain ⟨W,⟨m0,w0⟩,turn⟩:=qR;subst e;refine gG ?_;clear gG;refine zV8 fun led=>wpAny_newFunctionEnv S.nocell (by intro y hy; simp at hy) (fun h1 hns1 hsb1=>?_) S.kind;dsimp only at hns1 hsb1 ⊢;have hS0 : zo9 X.prog X.w (s2.heap.push { cls:=.type "set",dict:=none,data:=.set #[] 0 (.fresh 0 0 led) }) s2.heap.objs.size []:=zb58;generalize hH0 : s2.heap.push { cls:=.type "set",dict:=none,data:=.set #[] 0 (.fresh 0 0 led) } = h0 at hns1 hsb1 hS0 ⊢;have h0s : h0.objs.size = s2.heap.objs.size + 1:=by rw [<- hH0,ny2]
 have k0 : ∀ b o,s2.heap.get? b = some o->h0.get? b = some o:=fun b o e=>hH0 ▸ ay2 _ e;have k1 : ∀ b o,h0.get? b = some o->h1.get? b = some o:=fun b o e=>hsb1.extBut b o (by8 (by2 e)) (ay2 _ e);have hDC : s2.heap.objs.size < h0.objs.size:=by rw [h0s]; exact ky6 _
 have hsC : s2.heap.objs.size <= h0.objs.size:=ky8 hDC
 have flt : ∀ b∈fp,b < s2.heap.objs.size:=fun b hb=>by
  refine za0 fun gG=>?_;obtain ⟨o,e,_⟩:=T.obj _ _ st2 b hb;refine gG ?_;clear gG;exact by2 e
 have Dfp : s2.heap.objs.size ∉ fp:=fun z=>ny1 _ (flt _ z)
 have I3 : Inv (zc2 X (O++F) scope (zt6 X.env.cells scope.names []) h0.objs.size (s2.heap.objs.size :: fp) { s2 with heap:=h0 } H2) [] (zc3 O cap σ) H2 { s2 with heap:=h1,toks:=s2.toks + ([] : List (Str × Value)).length } :=
  I2.comp S f2 (T.obj _ _ st2) hsC s2.heap.objs.size (ay6 _) hDC rfl k0 k1 hns1
 generalize hX' : zc2 X (O++F) scope (zt6 X.env.cells scope.names []) h0.objs.size (s2.heap.objs.size :: fp) { s2 with heap:=h0 } H2 = X' at I3;have hg1' : PG X' (.Name x1 p1) (zn9 j1):=hX' ▸ hg1 _ _ _ _ _;have hg2' : PG X' (.Name x2 p2) (zn9 j2):=hX' ▸ hg2 _ _ _ _ _;have hi2' : PI X' (.Name x2 p2) i2 wi2:=hX' ▸ hi2 _ _ _ _ _;have he' : PE X' elt te:=hX' ▸ he _ _ _ _ _;have epn : X'.pn = []:=by rw [<- hX']; rfl
 have fpok : ∀ {H' : Hp} {b : Addr},b∈s2.heap.objs.size :: fp->H' b = none->zr9 X' [] H' b:=fun {H' b} hb hn=>by
  have hex : b∈X'.ex:=by rw [<- hX']; exact hb
  refine ⟨hn,(I3.ok.exf b hex).1,I3.ok.exfs b hex,.inl hex,(I3.ok.exf b hex).2,fun p hp=>?_⟩;rw [epn] at hp;exact absurd (show p∈([] : List (Addr × Obj)) from hp) (by simp)
 have eP : X'.prog = X.prog:=by rw [<- hX']; rfl
 have eW : X'.w = X.w:=by rw [<- hX']; rfl
 have eK : X'.K = X.K:=by rw [<- hX']; rfl
 have eA : X'.A = X.A:=by rw [<- hX']; rfl
 have eC : X'.calm = true:=by rw [<- hX']; exact hc
 have eE : X'.env = compEnvC scope (zt6 X.env.cells scope.names []) h0.objs.size X.env:=by rw [<- hX']; rfl
 have eX : X'.xe = fun _ _=>False:=by rw [<- hX']; rfl
 have loop : ∀ s3 : Shared,s3 = { s2 with heap:=h1,toks:=s2.toks + ([] : List (Str × Value)).length } ->
   ly4 (model X.prog X.w) X.A (.compLoop (.SetComp elt [⟨.Name x1 p1,iter,[],0⟩,⟨.Name x2 p2,i2,[],0⟩] scope pos) 0 (.ref it) (.ref s2.heap.objs.size) (compEnvC scope (zt6 X.env.cells scope.names []) h0.objs.size X.env))
    (compPost (model X.prog X.w) X.A X.xe none (EP X pins σ Q) (.ref s2.heap.objs.size) h0.objs.size) s3:=by
  rintro s3 rfl
  refine zI3 (hs2 _) (fun n s'=>∃ i ks H',Inv X' [] (zc3 O cap σ) H' s' /\ tn i s'.heap /\ (∀ b∈s2.heap.objs.size :: fp,H' b = none) /\ zo9 X.prog X.w s'.heap s2.heap.objs.size (zc9 ks) /\ W i n ks H') ?_ m0
   ⟨0,[],H2,I3,T.keep _ _ _ st2 (fun b _ o e=>k1 b o (k0 b o e)),fun b hb=>?_,hS0.move fun o e=>k1 _ _ e,w0⟩
  ·intro n s3 gX;refine za0 fun gG=>?_;obtain ⟨i,ks,H3,I3',st3,fr3,hS3,w3⟩:=gX;have step:=turn i n ks H3 w3;obtain ⟨oD,gD,cD⟩:=hS3.obj;refine gG ?_;clear gG;have hD3 : H3 s2.heap.objs.size = none:=fr3 _ ay9
   have J3 : Inv X' ([]++zf2 [s2.heap.objs.size] s3.heap) (zc3 O cap σ) H3 s3:=I3'.pinned (fp:=[s2.heap.objs.size]) (fun b hb=>by
    have e : b = s2.heap.objs.size:=by simpa using hb
    subst e; exact fpok ay9 hD3) fun b hb=>by
    have e : b = s2.heap.objs.size:=by simpa using hb
    subst e; exact ⟨oD,gD,cD⟩
   have fpJ : ∀ b∈fp,zr9 X' ([]++zf2 [s2.heap.objs.size] s3.heap) H3 b:=fun b hb=>(fpok (by0 _ hb) (fr3 b (by0 _ hb))).more fun p hp=>by
    have:=(zg5 hp).1;have e : p.1 = s2.heap.objs.size:=by simpa using this
    rw [e];exact fun z=>Dfp (z ▸ hb)
   rcases step with ⟨stop,q⟩ | ⟨go,step⟩
   ·have fin:=T.done X' eP eW eK eC i _ s3 (zc3 O cap σ) H3 (fun _ _=>False) J3 fpJ st3 stop;rw [eA] at fin;refine thn fin fun r s4 zR=>?_;refine za0 fun gG=>?_;obtain ⟨hr,J4⟩:=zR;subst hr;refine gG ?_;clear gG;have g4:=J4.zo3 (b:=s2.heap.objs.size) (by simp) gD;have hS4 : zo9 X.prog X.w s4.heap s2.heap.objs.size (zc9 ks):=hS3.move fun o e=>by rw [gD] at e; cases e; exact g4.1
    have I4 : Inv X' [] (zc3 O cap σ) H3 s4:=J4.zC8;refine za0 fun gG=>?_;obtain ⟨m,hm,_⟩:=id I4.loc;refine gG ?_;clear gG;rw [eE] at hm;refine ⟨m,hm,fun h' sb=>⟨.ref s2.heap.objs.size,upd H3 s2.heap.objs.size (setO s2.heap.objs.size (zc9 ks)),?_,rfl,q _ hD3⟩⟩;rw [<- hX'] at I4;refine I2.za49 f2 hsC (ay6 _) hDC k0 I4 hD3 (za44 (hS4.move fun o e=>?_).x) sb;exact (sb.2 _ (by8 hDC)).trans e
   ·have it3:=T.item X' eP eW eK eC i _ s3 (zc3 O cap σ) H3 (fun _ _=>False) J3 fpJ st3 go;rw [eA] at it3;refine thn it3 fun r s4 zR=>?_;refine za0 fun gG=>?_;obtain ⟨u,hr,h4⟩:=zR;subst hr;refine gG ?_;clear gG;refine thn h4 fun _ s5 zR=>?_;refine za0 fun gG=>?_;obtain ⟨x,H5,I5,r5,y5,st5,fr5⟩:=zR;refine gG ?_;clear gG;have g5:=I5.zo3 (b:=s2.heap.objs.size) (by simp) gD;have hS5 : zo9 X.prog X.w s5.heap s2.heap.objs.size (zc9 ks):=hS3.move fun o e=>by rw [gD] at e; cases e; exact g5.1
    have fr5' : ∀ b∈s2.heap.objs.size :: fp,H5 b = none:=fun b hb=>(by7.mp hb).elim (fun z=>by rw [z]; exact g5.2) (fr5 b)
    have ob5 : ∀ b∈s2.heap.objs.size :: fp,∃ o,s5.heap.get? b = some o /\ ∀ v,o.data ≠ .cell v:=fun b hb=>by
     rcases by7.mp hb with e | hb
     ·subst e; exact ⟨oD,g5.1,cD⟩
     ·exact T.obj _ _ st5 b hb
    have I5' : Inv X' ([]++zf2 (s2.heap.objs.size :: fp) s5.heap) (zc3 O cap σ) H5 s5:=I5.zC8.pinned (fp:=s2.heap.objs.size :: fp) (fun b hb=>fpok hb (fr5' b hb)) ob5;have a5:=hg1' _ s5 (zc3 O cap σ) H5 x u (fun σ' H'=>σ' = (zc3 O cap σ).set j1 (some x) /\ H' = H5) I5' r5 ⟨rfl,rfl⟩;rw [eP,eW,eA,eE,eX] at a5;refine thn a5 fun _ s6 zR=>?_;refine za0 fun gG=>?_;obtain ⟨σ6,H6,I6,e1,e2⟩:=zR;refine gG ?_;clear gG;subst e1 e2;have a6:=hi2' _ s6 _ H6 _ I6 (step x H6 y5);rw [eP,eW,eA,eE,eX] at a6;refine thn a6 fun v s7 h7=>thn h7 fun itv s8 h8=>?_;refine zF0 h8 fun it2 fp2 tn2 J2 H8 e I8 T2 st8 f8 qR=>?_;refine za0 fun gG=>?_;obtain ⟨W2,⟨m2,w8⟩,turn2⟩:=qR;subst e;refine gG ?_;clear gG
    have none_cmp : (zc3 O cap σ)[j2]? = some none:=by
     unfold zc3;rw [ay8 (by simpa using hj2),by1,by5 hj2];rfl
    have wk : ∀ (j : Nat) v,(zc3 O cap σ)[j]? = some (some v)->((zc3 O cap σ).set j1 (some x))[j]? = some (some v):=fun j v e=>by
     by_cases hjj : j1 = j
     ·subst hjj;exfalso;unfold zc3 at e;rw [ay8 (by simpa using hj1),by1,by5 hj1] at e;cases e
     ·rw [cy6 hjj]; exact e
    have I8' : Inv X' ([]++zf2 fp s5.heap) ((zc3 O cap σ).set j1 (some x)) H8 s8:=I8.zl7 fun p hp=>by
     obtain ⟨hb,e⟩:=zg5 (show p∈zf2 fp s5.heap from by simpa using hp);exact I8.pin p (dy3 _ (dy3 _ (ze6 (by0 _ hb) e)))
    have g8:=I8.zo3 (b:=s2.heap.objs.size) ay9 g5.1;have hS8 : zo9 X.prog X.w s8.heap s2.heap.objs.size (zc9 ks):=hS5.move fun o e=>by rw [g5.1] at e; cases e; exact g8.1
    have inner : ∀ {s9 : Shared},s9 = s8->ly4 (model X'.prog X'.w) X'.A (.compLoop (.SetComp elt [⟨.Name x1 p1,iter,[],0⟩,⟨.Name x2 p2,i2,[],0⟩] scope pos) 1 (.ref it2) (.ref s2.heap.objs.size) X'.env)
      (fun r s5=>match r with | .ok _=>∃ m,m < n /\ ∃ i ks H',Inv X' [] (zc3 O cap σ) H' s5 /\ tn i s5.heap /\ (∀ b∈s2.heap.objs.size :: fp,H' b = none) /\ zo9 X.prog X.w s5.heap s2.heap.objs.size (zc9 ks) /\ W i m ks H' | .error _=>False) s9:=by
     rintro s9 rfl;refine zV9 eX eC hg2' he' T2 (fun H' hn=>(fpok ay9 hn).more fun p hp=>?_) (fun b hb=>⟨fun z=>?_,fun H' hn=>?_⟩) ?_ turn2 (fun ks2 H9 s9 I9 hS9 hD9 fin=>?_) I8' st8 (by rw [eP,eW]; exact hS8) g8.2 (fun b hb=>(f8 b hb).1) w8
     ·have:=(zg5 hp).1;exact fun z=>Dfp (z ▸ this)
     ·refine za0 fun gG=>?_;obtain ⟨_,_,_,_,_,q⟩:=f8 b hb;refine gG ?_;clear gG;exact q (s2.heap.objs.size,oD) (dy3 _ (dy3 _ (ze6 ay9 g5.1))) z.symm
     ·refine za0 fun gG=>?_;obtain ⟨_,q1,q2,q3,q4,q5⟩:=f8 b hb;refine gG ?_;clear gG;refine ⟨hn,q1,q2,q3,q4,fun p hp=>?_⟩;rcases ey0.mp hp with z | z
      ·exact q5 p (ky3 _ z)
      ·obtain ⟨hb,e⟩:=zg5 (show p∈zf2 fp s5.heap from by simpa using z);exact q5 p (dy3 _ (dy3 _ (ze6 (by0 _ hb) e)))
     ·rw [cy6 hj]; exact none_cmp
     ·refine za0 fun gG=>?_;obtain ⟨m',hm',w9⟩:=fin;refine gG ?_;clear gG;rw [eP,eW] at hS9;refine ⟨m',hm',i + 1,ks2,H9,I9.zC8.weak (by simp) wk,T.keep _ _ _ st5 fun b hb o e=>(I9.zo3 hb e).1,fun b hb=>?_,hS9,w9⟩;rcases by7.mp hb with e | hb'
      ·rw [e]; exact hD9
      ·refine za0 fun gG=>?_;obtain ⟨o,e,_⟩:=T.obj _ _ st5 b hb';refine gG ?_;clear gG;exact (I9.zo3 hb' e).2
    rw [Around.mark_none];have in1:=inner (s9:=s8) rfl;rw [eP,eW,eA,eE] at in1;refine zh2 (g:=⟨.Name x2 p2,i2,[],0⟩) rfl rfl in1 ?_;have sf:=T2.self X.A 0 s8 (fun it' s'=>ly4 (model X.prog X.w) X.A (.compLoop (.SetComp elt [⟨.Name x1 p1,iter,[],0⟩,⟨.Name x2 p2,i2,[],0⟩] scope pos) 1 it' (.ref s2.heap.objs.size) (compEnvC scope (zt6 X.env.cells scope.names []) h0.objs.size X.env)) _ s') (fun _ _=>False) st8 in1;rw [eP,eW] at sf;exact sf
  ·rcases by7.mp hb with e | hb
   ·rw [e]; exact I2.hok.fresh (ay6 _)
   ·exact (f2 b hb).1
 exact zh2 (g:=⟨.Name x1 p1,iter,[],0⟩) rfl rfl (loop _ rfl) (T.self _ 0 _ _ _ (T.keep _ _ _ st2 (fun b _ o e=>k1 b o (k0 b o e))) (loop _ rfl))
end
theorem za51 {K : ay5} {F1 : Hp} {A1 : List Addr} {a : Addr} {vs : List V} {ds : List PyData} (hv : SqT K F1 a vs) (z : Paired (fun d v=>Rq K F1 v d) ds vs) : Walks K 0 F1 A1 GT (Itt K a) ds:=by
 have hl : ∀ {F' A' W' H'},Ex1 0 F1 A1 F' A'->RW K F' A' W' H'->SqT K H' a vs:=fun x r'=>r'.sub.zt3 (x.same.zt3 hv);refine ⟨fun i F' A' W' H' hi x r' _=>?_,fun i F' A' W' H' y H'' hi x r' _ hy=>?_,fun F' A' W' H' x r' _=>?_⟩
 ·have hi' : i < vs.length:=by rw [<- zb2 z]; exact hi
  exact ⟨vs,vs[i],hl x r',by simp [hi']⟩
 ·refine za0 fun gG=>?_;obtain ⟨e,hy⟩:=hy;obtain ⟨d,h1,h2⟩:=ze8 z (hy vs (hl x r'));refine gG ?_;clear gG;exact ⟨e,d,h1,Rq.same x.same _ h2⟩
 ·exact ⟨vs,hl x r',by rw [<- zb2 z]; exact ay6 _⟩
section
variable {X : Bc} {S : Sl} {W : Wl} {k : KB} {iter i2 elt : Expr} {x1 x2 : Str} {p1 p2 : Pos} {scope : Scope} {O Fv : List Str} {cap : List Nat} {j1 j2 : Nat}
theorem zW0 {pn pos1 pos2 : Pos} (hc : X.calm = true) (hg : Gl X "sorted") (hm : X.mg "sorted" = none) (hv : fy0 "sorted" = some (.builtin "sorted")) (cs : zb3 X.N X.env.scope O Fv cap scope) (hN : (O++Fv).Nodup)
  (n1 : (O++Fv)[j1]? = some x1) (n2 : (O++Fv)[j2]? = some x2) (hj1 : j1 < O.length) (hj2 : j2 < O.length) (hj : j1 ≠ j2)
  (l1 : ∀ cl C ex s H,(zc2 X (O++Fv) scope cl C ex s H).env.scope.names.lookup x1 = some .local) (l2 : ∀ cl C ex s H,(zc2 X (O++Fv) scope cl C ex s H).env.scope.names.lookup x2 = some .local)
  (h : BI X S W (.Name x1 p1) iter fun m G ds W1=>G W1 /\ ∃ f : PyData->List Str,(∀ d∈ds,BEc X (O++Fv) scope ((zP2 O cap S).set j1 (some (.d d))) W1 i2 fun y W2=>W2 = W1 /\ y = .d (.tuple ((f d).map .str))) /\
   (∀ d∈ds,∀ z∈f d,BEc X (O++Fv) scope (((zP2 O cap S).set j1 (some (.d d))).set j2 (some (.d (.str z)))) W1 elt fun y W2=>W2 = W1 /\ y = .d (.str z)) /\ (ds.flatMap f).length + 1 < ry6 /\
   (zc9 (ds.flatMap f)).length < 64 /\ (zc9 (ds.flatMap f)).length ≠ 1 /\ ∀ ss' : List Str,ss'.Perm (zc9 (ds.flatMap f))->sortedS ss' = true->k (.o W1.length) (W1++[.lst (zb4 (ss'.map .str))]))
  (hs : ∀ x,ey4 iter X.env x = pure x:=by intro _; rfl) (hs2 : ∀ env x,ey4 i2 env x = pure x:=by intro _ _; rfl)
  (he : fy4 [.SetComp elt [⟨.Name x1 p1,iter,[],0⟩,⟨.Name x2 p2,i2,[],0⟩] scope pos2] X.env = [(false,eval (.SetComp elt [⟨.Name x1 p1,iter,[],0⟩,⟨.Name x2 p2,i2,[],0⟩] scope pos2) X.env)]:=by rfl) :
  BE X S W (.Call (.Name "sorted" pn) [.SetComp elt [⟨.Name x1 p1,iter,[],0⟩,⟨.Name x2 p2,i2,[],0⟩] scope pos2] [] pos1) k :=
 .of (zp0 (zt1 hc) hg hm hv (zl8 (za50 (wi2:=iTup X.K (zL1 X (O++Fv) scope i2)) (te:=zL1 X (O++Fv) scope elt) hc cs hj1 hj2 hj pi_U
   (fun cl C ex s H=>zu7 hN n1 (.inl (l1 cl C ex s H)) (.inr (l1 cl C ex s H))) (fun cl C ex s H=>zu7 hN n2 (.inl (l2 cl C ex s H)) (.inr (l2 cl C ex s H)))
   (fun cl C ex s H=>zc00 fun pins s' σ' H' Q I zR=>by obtain ⟨t,h,q⟩:=zR; exact h cl C ex s H pins s' σ' H' Q I q) (fun cl C ex s H=>fun pins s' σ' H' Q I zR=>by obtain ⟨t,h,q⟩:=zR; exact h cl C ex s H pins s' σ' H' Q I q) hs hs2) zu9 he) (by decide) (by decide) he rfl) fun F A σ H Q x0 r sr q=>by
  refine h F A σ H _ x0 r sr fun m G F1 A1 W1 H1 ds J e1 r1 hm1 wk zR=>?_;refine za0 fun gG=>?_;obtain ⟨hG,f,hi2,hel,few,h64,hn1,hk⟩:=zR;refine gG ?_;clear gG
  have flen : ∀ i,((ds.take i).flatMap f).length <= (ds.flatMap f).length:=fun i=>by
   conv=>rhs; rw [<- uy8 i ds,List.flatMap_append,cy5]
   omega
  refine ⟨fun i μ ks H'=>μ = ds.length - i /\ i <= ds.length /\ ks = (ds.take i).flatMap f /\ ∃ F' A',Ext F1 A1 F' A' /\ RW X.K F' A' W1 H',⟨_,rfl,dy9 _,rfl,F1,A1,.refl,r1⟩,?_⟩;intro i μ ks H' gX;refine za0 fun gG=>?_;obtain ⟨rfl,hi,rfl,F',A',x,r'⟩:=gX;refine gG ?_;clear gG
  by_cases hlt : i < ds.length
  ·refine .inr ⟨wk.go i F' A' W1 H' hlt (x.ex1 hm1) r' hG,fun v H'' hy=>?_⟩;refine za0 fun gG=>?_;obtain ⟨rfl,d,hd',zd⟩:=wk.yld i F' A' W1 H' v H'' hlt (x.ex1 hm1) r' hG hy;refine gG ?_;clear gG;have hdm : d∈ds:=cy8 hd';have sr1 : SR X.K F' A' ((zP2 O cap S).set j1 (some (.d d))) ((zc3 O cap σ).set j1 (some v)):=((sr.ext (e1.trans x)).cmp).set (ElR.dd zd) j1;refine ⟨tD X _ W1 _,fun cl C ex s H=>hi2 d hdm cl C ex s H,F',A',(x0.trans e1).trans x,r',sr1,fun F2 A2 W2 H2 y vy e2 r2 z2 ⟨hW2,hy2⟩=>?_⟩;subst hW2 hy2;refine za0 fun gG=>?_;obtain ⟨a,vs,rfl,hq,zz⟩:=Rq.zg7 z2;refine gG ?_;clear gG;have wk2 : Walks X.K 0 F2 A2 GT (Itt X.K a) ((f d).map .str):=za51 hq zz;refine ⟨a,rfl,⟨vs,r2.sub.zt3 hq⟩,fun i2 μ2 ks2 H4=>μ2 = (f d).length - i2 /\ i2 <= (f d).length /\ ks2 = (ds.take i).flatMap f++(f d).take i2 /\ ∃ F' A',Ext F2 A2 F' A' /\ RW X.K F' A' W2 H4,⟨_,rfl,dy9 _,by simp,F2,A2,.refl,r2⟩,?_⟩;intro i2 μ2 ks2 H4 gX;refine za0 fun gG=>?_;obtain ⟨rfl,hi2',rfl,F4,A4,x4,r4⟩:=gX;refine gG ?_;clear gG
   have hsn : (ds.take (i + 1)).flatMap f = (ds.take i).flatMap f++f d:=by
    rw [fy5,hd',List.flatMap_append];simp
   refine ⟨?_,?_⟩
   ·have:=flen (i + 1);rw [hsn,cy5] at this;rw [cy5,dy1];omega
   ·by_cases hlt2 : i2 < (f d).length
    ·refine .inr ⟨wk2.go i2 F4 A4 W2 H4 (by simpa using hlt2) (x4.ex1 (dy9 _)) r4 trivial,fun u H5 hu=>?_⟩;refine za0 fun gG=>?_;obtain ⟨rfl,d2,hd2,zd2⟩:=wk2.yld i2 F4 A4 W2 H4 u H5 (by simpa using hlt2) (x4.ex1 (dy9 _)) r4 trivial hu;refine gG ?_;clear gG;rw [by1,by5 hlt2] at hd2;cases hd2;have sr2:=(sr1.ext (e2.trans x4)).set (ElR.dd zd2) j2;refine ⟨tD X _ W2 _,fun cl C ex s H=>hel d hdm _ (py9 hlt2) cl C ex s H,F4,A4,(((x0.trans e1).trans x).trans e2).trans x4,r4,sr2,fun F6 A6 W6 H6 y vy e6 r6 z6 ⟨hW6,hy6⟩=>?_⟩;subst hW6 hy6;obtain rfl:=Rq.zf7 z6;refine ⟨(f d)[i2],rfl,_,by omega,rfl,hlt2,?_,F6,A6,x4.trans e6,r6⟩;rw [fy5,by5 hlt2,iy7];rfl
    ·have hie : i2 = (f d).length:=by omega
     subst hie;refine .inl ⟨?_,_,?_,rfl,hlt,?_,F4,A4,(x.trans e2).trans x4,r4⟩
     ·have:=wk2.stop F4 A4 W2 H4 (x4.ex1 (dy9 _)) r4 trivial;simpa using this
     ·omega
     ·rw [hsn,hy5]
  ·have hie : i = ds.length:=by omega
   subst hie;refine .inl ⟨wk.stop F' A' W1 H' (x.ex1 hm1) r' hG,fun p hp=>?_⟩;rw [hy5];obtain ⟨r2,e2⟩:=r'.newF hp (setO p (zc9 (ds.flatMap f)));refine ⟨p,_,rfl,zb5,h64,hn1,fun l ss' hl p1 p2=>?_⟩;exact (((q.ext e1).ext x).ext e2).zX4 r2 hl (o:=.lst (zb4 (ss'.map .str))) ⟨_,rfl,zg8 zB2⟩ (hk ss' p1 p2)
end
section
variable {X : Cx}
theorem set_dict (hu : X.A.units + 1 < cLine) : PSet X fun o i v H Q=>∃ a H',o = .ref a /\ DPut H a i v H' /\ Q H':=by
 intro pins s σ H o i v ov iv u Q I r1 r2 r3 ⟨a,H',e,g,q⟩;subst e;obtain rfl : ov = cy9 a:=r1;exact za37 hu I g r2 r3 fun s' I'=>⟨H',I',q⟩
theorem Inv.ze94 {pins : List (Addr × Obj)} {σ : St} {H : Hp} {s : Shared} {h' : Heap} {a : Addr} {o : HO} {t' : Nat} (I : Inv X pins σ H s) (k : ∀ b u,s.heap.get? b = some u->h'.get? b = some u) (hn : s.heap.get? a = none) (new : zc1 X.prog X.w (upd H a o) h' a o) :
  H a = none /\ Inv X pins σ (upd H a o) { s with heap:=h',toks:=t' }:=by
 have hH : H a = none:=by
  cases e : H a with
  | none=>rfl
  | some u =>
   obtain ⟨ob,z⟩:=zc1.at (I.hok a u e)
   rw [hn] at z;cases z
 have ne : ∀ b u,s.heap.get? b = some u->b ≠ a:=fun b u q z=>by rw [z,hn] at q; cases q
 refine ⟨hH,I.un ⟨fun b u q _ _ _=>k b u q,fun b u q _ _ _=>⟨u.slots,k b u q⟩,fun b u q n _=>by rw [za8 (ne b u q)]; exact n,fun b u q _=>⟨u,k b u q⟩,fun b xs q=>by rw [za8 (za5 q hH)]; exact q,fun b u xs q=>by rw [za8 (za5 q hH)]; exact q,fun b ps q=>⟨#[],by rw [za8 (za5 q hH),q]; simp⟩⟩ fun b u e=>?_⟩
 by_cases hb : b = a
 ·subst hb; rw [zb5] at e; cases e; exact new
 ·rw [za8 hb] at e;exact (I.hok b u e).zS7 (fun c v _ q=>k c v q) (fun c q=>by rw [za8 (za5 q hH)]; exact q) fun c xs q=>by rw [za8 (za5 q hH)]; exact q
end
def zz2 {κ : Type} [DecidableEq κ] (kvs : List (κ × El)) (k : κ) (e : El) : List (κ × El):=if (kvs.any fun kv=>decide (kv.1 = k)) = true then kvs.map (fun kv=>if kv.1 = k then (kv.1,e) else kv) else kvs++[(k,e)]
section
variable {K : ay5} {F : Hp} {A : List Addr} {κ : Type} [DecidableEq κ]
theorem ze04 {k : κ} {kvs : List (κ × El)} {vs : List (κ × V)} (p : Paired (fun p q=>p.1 = q.1 /\ ElR K F A p.2 q.2) kvs vs) : (kvs.any fun kv=>decide (kv.1 = k)) = (vs.any fun kv=>decide (kv.1 = k)):=by
 induction p with
 | nil=>rfl
 | cons h t ih=>simp only [sy3]; rw [ih,h.1]
theorem ze05 {k : κ} {e : El} {v : V} (he : ElR K F A e v) {kvs : List (κ × El)} {vs : List (κ × V)} (p : Paired (fun p q=>p.1 = q.1 /\ ElR K F A p.2 q.2) kvs vs) : Paired (fun p q=>p.1 = q.1 /\ ElR K F A p.2 q.2) (kvs.map fun kv=>if kv.1 = k then (kv.1,e) else kv) (vs.map fun kv=>if kv.1 = k then (kv.1,v) else kv):=by
 induction p with
 | nil=>exact .nil
 | @cons p q _ _ h t ih =>
  refine .cons ?_ ih
  by_cases hk : p.1 = k
  ·have hq : q.1 = k:=h.1 ▸ hk;simp only [hk,hq,if_true];exact ⟨trivial,he⟩
  ·have hq : ¬ q.1 = k:=h.1 ▸ hk;simp only [hk,hq,if_false];exact h
theorem zQ5 {k : κ} {e : El} {v : V} (he : ElR K F A e v) {kvs : List (κ × El)} {vs : List (κ × V)} (h : Paired (fun p q=>p.1 = q.1 /\ ElR K F A p.2 q.2) kvs vs) : Paired (fun p q=>p.1 = q.1 /\ ElR K F A p.2 q.2) (zz2 kvs k e) (putK vs k v):=by
 unfold zz2 putK;rw [ze04 h]
 split
 ·exact ze05 he h
 ·exact zy6 h (.cons ⟨rfl,he⟩ .nil)
end
section
variable {X : Bc} {S : Sl} {W : Wl} {k : KB}
theorem zb59 {pos : Pos} (h : k (.o W.length) (W++[.dK []])) : BE X S W (.Dict [] [] pos) k :=
 .of zb31 fun F A σ H Q x0 r sr q=>fun p hp=>q.zX4 r hp (o:=.dK []) ⟨[],rfl,.nil⟩ h
theorem ze95 {j : Nat} {kvs : List (Key × El)} {x : Str} {v : El} {k : Wl->Prop} (hu : X.A.units + 64 < cLine) (hj : W[j]? = some (.dK kvs)) (hl : kvs.length < by3) (h : k (W.set j (.dK (zz2 kvs (.inr x) v)))) : SB X (.o j) (.d (.str x)) v W k :=
 fun F A H vo vi vv Q r zo zi zv q=>by
  refine za0 fun gG=>?_;obtain ⟨a,ha,rfl⟩:=zo;obtain ⟨u,e,ws,rfl,p⟩:=r.obj j a _ ha hj;refine gG ?_;clear gG;obtain rfl:=Rq.zf7 zi;exact ⟨_,set_dict (by omega),a,_,rfl,DPut.k (k:=.inr x) e (by rw [<- zb2 p]; exact hl),q F A _ _ .refl (r.put ha (o:=.dK (zz2 kvs (.inr x) v)) ⟨_,rfl,zQ5 zv p⟩) h⟩
theorem zb60 {j : Nat} {kvs : List (List Key × El)} {ks : List Key} {v : El} {k : Wl->Prop} (hu : X.A.units + 64 < cLine) (hj : W[j]? = some (.dT kvs)) (hl : kvs.length < by3) (h : k (W.set j (.dT (zz2 kvs ks v)))) : SB X (.o j) (.p ks) v W k :=
 fun F A H vo vi vv Q r zo zi zv q=>by
  refine za0 fun gG=>?_;obtain ⟨a,ha,rfl⟩:=zo;obtain ⟨u,e,ws,rfl,p⟩:=r.obj j a _ ha hj;obtain ⟨b,rfl,hb⟩:=zi;refine gG ?_;clear gG;exact ⟨_,set_dict (by omega),a,_,rfl,DPut.t (k:=ks) e (r.sub _ _ hb) (by rw [<- zb2 p]; exact hl),q F A _ _ .refl (r.put ha (o:=.dT (zz2 kvs ks v)) ⟨_,rfl,zQ5 zv p⟩) h⟩
end
section
variable {X : Bc} {n : Nat} {S : Sl} {W : Wl} {D : DB}
end
section
variable {X : Bc} {S : Sl} {W : Wl} {k : KB}
end
section
variable {X : Bc} {n : Nat} {S : Sl} {W : Wl} {D : DB} {tg : Expr}
end
section
variable {X : Cx} {e st : Expr} {te ts : TE} {p2 pos : Pos}
end
section
variable {X : Bc} {S : Sl} {W : Wl} {k : KB}
end
section
variable {X : Cx}
end
section
variable {X : Bc} {S : Sl} {W : Wl} {k : KB}
end
theorem zQ6 (k j : List Key) (v : El) : ∀ kvs : List (List Key × El),zn4 (kvs.map fun kv=>if kv.1 = k then (kv.1,v) else kv) j = (zn4 kvs j).map fun x=>if j = k then v else x
 | []=>rfl
 | a :: kvs=>by
  have ih:=zQ6 k j v kvs;unfold zn4 at ih ⊢;rw [ey9,iy5,iy5]
  by_cases ha : a.1 = k
  ·rw [if_pos ha]
   by_cases hj : a.1 = j
   ·have hjk : j = k:=hj.symm.trans ha;have d1 : decide ((a.1,v).1 = j) = true:=decide_eq_true hj;have d2 : decide (a.1 = j) = true:=decide_eq_true hj;rw [d1];show some v = some (if j = k then v else a.2);rw [if_pos hjk]
   ·simp only [hj,decide_false];exact ih
  ·rw [if_neg ha]
   by_cases hj : a.1 = j
   ·have : ¬ j = k:=fun z=>ha (hj.trans z);simp [hj,this]
   ·simp only [hj,decide_false];exact ih
theorem zQ7 (k : List Key) : ∀ kvs : List (List Key × El),(kvs.any fun kv=>decide (kv.1 = k)) = (zn4 kvs k).isSome
 | []=>rfl
 | a :: kvs=>by
  have ih:=zQ7 k kvs;unfold zn4 at ih ⊢;rw [sy3,iy5,ih]
  by_cases ha : a.1 = k
  ·simp [ha]
  ·simp [ha]
theorem zQ8 (kvs : List (List Key × El)) (k j : List Key) (v : El) : zn4 (zz2 kvs k v) j = if j = k then some v else zn4 kvs j:=by
 unfold zz2;rw [zQ7]
 split
 ·rename_i h
  rw [zQ6]
  by_cases hj : j = k
  ·subst hj;obtain ⟨x,hx⟩:=Option.isSome_iff_exists.mp h;rw [hx]; simp
  ·simp [hj]
 ·rename_i h
  have hn : zn4 kvs k = none:=by
   cases e : zn4 kvs k with
   | none=>rfl
   | some x=>rw [e] at h; exact absurd rfl h
  by_cases hj : j = k
  ·subst hj;rw [if_pos rfl];unfold zn4 at hn ⊢;rw [List.find?_append];cases e : kvs.find? fun kv=>decide (kv.1 = j) with
   | none=>simp
   | some x=>rw [e] at hn; cases hn
  ·rw [if_neg hj];unfold zn4;rw [List.find?_append];have : ([(k,v)] : List (List Key × El)).find? (fun kv=>decide (kv.1 = j)) = none:=by simp [fy2 hj]
   rw [this];simp
theorem zb61 (kvs : List (List Key × El)) (k : List Key) (v : El) : (zz2 kvs k v).length <= kvs.length + 1:=by
 unfold zz2
 split <;> simp
end L2
namespace L2
open PySem PySem.Spec PyProof.Rows
open PySem.W
def Lr {α : Type} (n : Nat) (lt : Nat->Nat->Bool) : KasT α->(α->Prop)->Prop
 | .ret a,P=>P a
 | .ask i j k,P=>i < n /\ j < n /\ i ≠ j /\ Lr n lt (k (lt i j)) P
theorem Lr.mono {α : Type} {n : Nat} {lt : Nat->Nat->Bool} : ∀ {t : KasT α} {P Q : α->Prop},Lr n lt t P->(∀ a,P a->Q a)->Lr n lt t Q
 | .ret a,P,Q,h,f=>f a h
 | .ask i j k,P,Q,h,f=>⟨h.1,h.2.1,h.2.2.1,h.2.2.2.mono f⟩
theorem Lr.bind {α β : Type} {n : Nat} {lt : Nat->Nat->Bool} {f : α->KasT β} {Q : β->Prop} : ∀ {t : KasT α},Lr n lt t (fun a=>Lr n lt (f a) Q)->Lr n lt (KasT.bind t f) Q
 | .ret a,h=>h
 | .ask i j k,h=>⟨h.1,h.2.1,h.2.2.1,h.2.2.2.bind⟩
theorem Lr.wp {α : Type} {n : Nat} {lt : Nat->Nat->Bool} {cmp : Nat->Nat->(Bool->Shared->Prop)->Shared->Prop} {s : Shared} (hc : ∀ i j C,i < n->j < n->i ≠ j->C (lt i j) s->cmp i j C s) : ∀ {t : KasT α} {G : α->Shared->Prop},Lr n lt t (fun a=>G a s)->KasT.kasWp cmp t G s
 | .ret a,G,h=>h
 | .ask i j k,G,h=>by
  rw [KasT.kasWp.eq_2];exact hc i j _ h.1 h.2.1 h.2.2.1 (h.2.2.2.wp hc)
structure Ord (n : Nat) (lt : Nat->Nat->Bool) : Prop where
 asym : ∀ i j,i < n->j < n->lt i j = true->lt j i = false
 trans : ∀ i j k,i < n->j < n->k < n->lt i j = true->lt j k = true->lt i k = true
 tot : ∀ i j,i < n->j < n->i ≠ j->lt i j = false->lt j i = true
section
variable {n : Nat} {lt : Nat->Nat->Bool} {p : Array Nat}
abbrev gp (p : Array Nat) (x : Nat) : Nat:=Array.getD p x 0
theorem zo4 (p : Array Nat) (x : Nat) : gp p x = (p[x]?).getD 0:=by simp [gp,Array.getD_eq_getD_getElem?]
theorem Pm.size (h : Pm n p) : p.size = n:=by
 have:=h.size_eq;simpa using this
theorem Pm.inj (h : Pm n p) {x y : Nat} (hx : x < n) (hy : y < n) (e : gp p x = gp p y) : x = y:=by
 have hz:=h.size;have nd : p.toList.Nodup:=(Array.perm_iff_toList_perm.mp h).nodup_iff.mpr (by simpa using List.nodup_range);have e1 : ∀ z (hz' : z < n),gp p z = p.toList[z]'(by simpa [hz] using hz'):=fun z hz'=>by simp [gp,Array.getD,hz,hz']
 rw [e1 x hx,e1 y hy] at e;exact (iy4 nd).mp e
def Up (lt : Nat->Nat->Bool) (p : Array Nat) (m : Nat) : Prop:=∀ i j,i < j->j < m->lt (gp p i) (gp p j) = true
def Dn (lt : Nat->Nat->Bool) (p : Array Nat) (m : Nat) : Prop:=∀ i j,i < j->j < m->lt (gp p j) (gp p i) = true
theorem zc25 (h : Pm n p) {m : Nat} (hm : m <= n) (x : Nat) : gp (kas_rev p 0 m) x = if x < m then gp p (m - 1 - x) else gp p x:=by
 rw [zo4,zo4,zo4];unfold kas_rev;rw [getElem?_mirror_all (by rw [h.size]; exact hm)]
 by_cases hx : x < m
 ·rw [if_pos ⟨dy9 _,hx⟩,if_pos hx,show 0 + m - 1 - x = m - 1 - x by omega]
 ·rw [if_neg (fun z=>hx z.2),if_neg hx]
variable (hn : 0 < n) (O : Ord n lt)
include hn O
theorem za52 (h : Pm n p) : ∀ f x,1 <= x->x + f = n->Up lt p x->Lr n lt (kas_asc p f x) fun m=>x <= m /\ m <= n /\ Up lt p m /\ (m < n->lt (gp p m) (gp p (m - 1)) = true)
 | 0,x,h1,h2,hu=>by
  rw [kas_asc.eq_1];exact ⟨ay6 _,by omega,hu,fun z=>by omega⟩
 | f + 1,x,h1,h2,hu=>by
  rw [kas_asc.eq_2];have hne : gp p x ≠ gp p (x - 1):=fun z=>by have:=h.inj (by omega) (by omega) z; omega
  refine ⟨h.lt hn _,h.lt hn _,hne,?_⟩;dsimp only;cases hc : lt (gp p x) (gp p (x - 1)) with
  | true =>
   rw [if_pos rfl];exact ⟨ay6 _,by omega,hu,fun _=>hc⟩
  | false =>
   rw [if_neg (by decide)];have hup : lt (gp p (x - 1)) (gp p x) = true:=O.tot _ _ (h.lt hn _) (h.lt hn _) hne hc;refine (za52 h f (x + 1) (by omega) (by omega) fun i j a b=>?_).mono fun m zR=>by obtain ⟨m1,m2,m3,m4⟩:=zR; exact ⟨by omega,m2,m3,m4⟩
   by_cases hj : j < x
   ·exact hu i j a hj
   ·obtain rfl : j = x:=by omega
    by_cases hi : i = j - 1
    ·rw [hi]; exact hup
    ·exact O.trans _ _ _ (h.lt hn _) (h.lt hn _) (h.lt hn _) (hu i (j - 1) (by omega) (by omega)) hup
theorem za53 (h : Pm n p) : ∀ f x,2 <= x->x + f = n->Dn lt p x->Lr n lt (kas_desc f p x 0) fun r=>r.1 = p /\ r.2.2 = 0 /\ x <= r.2.1 /\ r.2.1 <= n /\ Dn lt p r.2.1
 | 0,x,h1,h2,hu=>by
  rw [kas_desc.eq_1];exact ⟨rfl,rfl,ay6 _,by show x <= n; omega,hu⟩
 | f + 1,x,h1,h2,hu=>by
  rw [kas_desc.eq_2];have hne : gp p x ≠ gp p (x - 1):=fun z=>by have:=h.inj (by omega) (by omega) z; omega
  refine ⟨h.lt hn _,h.lt hn _,hne,?_⟩;dsimp only;cases hc : lt (gp p x) (gp p (x - 1)) with
  | true =>
   rw [if_pos rfl,if_neg (by decide)];refine (za53 h f (x + 1) (by omega) (by omega) fun i j a b=>?_).mono fun r zR=>by obtain ⟨r1,r2,r3,r4,r5⟩:=zR; exact ⟨r1,r2,by omega,r4,r5⟩
   by_cases hj : j < x
   ·exact hu i j a hj
   ·obtain rfl : j = x:=by omega
    by_cases hi : i = j - 1
    ·rw [hi]; exact hc
    ·exact O.trans _ _ _ (h.lt hn _) (h.lt hn _) (h.lt hn _) hc (hu i (j - 1) (by omega) (by omega))
  | false =>
   rw [if_neg (by decide)];have hup : lt (gp p (x - 1)) (gp p x) = true:=O.tot _ _ (h.lt hn _) (h.lt hn _) hne hc;refine ⟨h.lt hn _,h.lt hn _,fy2 hne,?_⟩;dsimp only;rw [if_pos hup];exact ⟨rfl,rfl,ay6 _,by show x <= n; omega,hu⟩
theorem zb62 (h : Pm n p) {m : Nat} (hm : m <= n) (h1 : 1 <= m) (hd : Dn lt p m) : Lr n lt (kas_tail3 m n p) fun q=>Pm n q.2 /\ 1 <= q.1 /\ q.1 <= n /\ Up lt q.2 q.1:=by
 unfold kas_tail3;have hp:=h.rev 0 m;refine ((za52 hn O hp (n - m) m h1 (by omega) fun i j a b=>?_).mono fun l zR=>by obtain ⟨l1,l2,l3,_⟩:=zR; exact ⟨hp,by show 1 <= l; omega,l2,l3⟩).bind;rw [zc25 h hm,zc25 h hm,if_pos (by omega),if_pos b];exact hd _ _ (by omega) (by omega)
theorem zb63 (h : Pm n p) : Lr n lt (kas_count n p) fun q=>Pm n q.2 /\ 1 <= q.1 /\ q.1 <= n /\ Up lt q.2 q.1:=by
 unfold kas_count;refine ((za52 hn O h (n - 1) 1 (ay6 _) (by omega) fun i j a b=>by omega).mono fun m ⟨m1,m2,m3,m4⟩=>?_).bind
 split
 ·exact ⟨h,m1,m2,m3⟩
 ·rename_i hmn
  have hmn : m ≠ n:=by simpa using hmn
  split
  ·rename_i hm1
   refine ⟨h.lt hn _,h.lt hn _,fun z=>by have:=h.inj (by omega) (by omega) z; omega,?_⟩;dsimp only;rw [if_pos (m3 0 (m - 1) (by omega) (by omega))];exact ⟨h,m1,m2,m3⟩
  ·rename_i hm1
   obtain rfl : m = 1:=by omega
   unfold kas_descPart;refine ((za53 hn O h (n - (1 + 1)) (1 + 1) (by omega) (by omega) fun i j a b=>?_).mono fun r ⟨r1,r2,r3,r4,r5⟩=>?_).bind
   ·obtain rfl : i = 0:=by omega
    obtain rfl : j = 1:=by omega
    exact m4 (by omega)
   ·rw [if_neg (by rw [r2]; decide),r1];exact zb62 hn O h r4 (by omega) r5
theorem zC9 (h : Pm n p) {k : Nat} (hk : k < n) (hu : Up lt p k) : ∀ f l r,l <= r->r <= k->r - l <= f->(∀ i,i < l->lt (gp p i) (gp p k) = true)->(∀ i,r <= i->i < k->lt (gp p k) (gp p i) = true) ->
  Lr n lt (kas_place p k f l r) fun m=>m <= k /\ (∀ i,i < m->lt (gp p i) (gp p k) = true) /\ ∀ i,m <= i->i < k->lt (gp p k) (gp p i) = true
 | 0,l,r,h1,h2,h3,h4,h5=>by
  rw [kas_place.eq_1];obtain rfl : l = r:=by omega
  exact ⟨h2,h4,h5⟩
 | f + 1,l,r,h1,h2,h3,h4,h5=>by
  rw [kas_place.eq_2]
  split
  ·obtain rfl : l = r:=by omega
   exact ⟨h2,h4,h5⟩
  ·have hmid : l <= (l + r) / 2 /\ (l + r) / 2 < r:=by omega
   have hne : gp p k ≠ gp p ((l + r) / 2):=fun z=>by have:=h.inj hk (by omega) z; omega
   refine ⟨h.lt hn _,h.lt hn _,hne,?_⟩;dsimp only;cases hc : lt (gp p k) (gp p ((l + r) / 2)) with
   | true =>
    rw [if_pos rfl];refine zC9 h hk hu f l _ hmid.1 (by omega) (by omega) h4 fun i hi hik=>?_
    by_cases e : i = (l + r) / 2
    ·rw [e]; exact hc
    ·exact O.trans _ _ _ (h.lt hn _) (h.lt hn _) (h.lt hn _) hc (hu _ i (by omega) hik)
   | false =>
    rw [if_neg (by decide)];have hup : lt (gp p ((l + r) / 2)) (gp p k) = true:=O.tot _ _ (h.lt hn _) (h.lt hn _) hne hc;refine zC9 h hk hu f _ r (by omega) h2 (by omega) (fun i hi=>?_) h5
    by_cases e : i = (l + r) / 2
    ·rw [e]; exact hup
    ·exact O.trans _ _ _ (h.lt hn _) (h.lt hn _) (h.lt hn _) (hu i _ (by omega) (by omega)) hup
theorem zc26 : ∀ f {p : Array Nat} k,Pm n p->k + f = n->Up lt p k->Lr n lt (kas_bin f p k) fun q=>Pm n q /\ Up lt q n
 | 0,p,k,h,hk,hu=>by
  rw [kas_bin.eq_1];exact ⟨h,by rw [<- hk]; exact hu⟩
 | f + 1,p,k,h,hk,hu=>by
  rw [kas_bin.eq_2];have hkn : k < n:=by omega
  refine ((zC9 hn O h hkn hu k 0 k (dy9 _) (ay6 _) (by omega) (fun i hi=>by omega) (fun i a b=>by omega)).mono fun l ⟨l1,l2,l3⟩=>?_).bind;have hq : Pm n (bubble p k (k - l)):=(bubble_perm _ _ _).trans h
  have gb : ∀ x,gp (bubble p k (k - l)) x = if x = l then gp p k else if l < x /\ x <= k then gp p (x - 1) else gp p x:=fun x=>by
   rw [zo4,zo4,zo4,zo4,getElem?_bubble (by rw [h.size]; exact hkn) (k - l) (by omega)];rw [show k - (k - l) = l by omega]
   split
   ·rfl
   ·split <;> rfl
  refine zc26 f (k + 1) hq (by omega) fun i j a b=>?_;rw [gb,gb]
  by_cases e1 : i = l
  ·rw [if_pos e1,if_neg (show ¬ j = l by omega),if_pos (show l < j /\ j <= k by omega)];exact l3 (j - 1) (by omega) (by omega)
  ·rw [if_neg e1]
   by_cases e2 : l < i
   ·rw [if_pos (show l < i /\ i <= k by omega),if_neg (show ¬ j = l by omega),if_pos (show l < j /\ j <= k by omega)];exact hu _ _ (by omega) (by omega)
   ·rw [if_neg (show ¬ (l < i /\ i <= k) by omega)]
    by_cases e3 : j = l
    ·rw [if_pos e3];exact l2 i (by omega)
    ·rw [if_neg e3]
     by_cases e4 : l < j
     ·rw [if_pos (show l < j /\ j <= k by omega)];exact hu _ _ (by omega) (by omega)
     ·rw [if_neg (show ¬ (l < j /\ j <= k) by omega)];exact hu _ _ a (by omega)
theorem zc83 : Lr n lt (kas_sort n) fun q=>Pm n q /\ Up lt q n:=by
 unfold kas_sort;refine ((zb63 hn O (Array.Perm.refl _)).mono fun q ⟨q1,q2,q3,q4⟩=>?_).bind
 split
 ·rw [Nat.max_eq_left q2];exact zc26 hn O _ _ q1 (by omega) q4
 ·rename_i hq
  exact ⟨q1,by rw [show n = q.1 by omega]; exact q4⟩
end
section
variable {prog : cy7} {w : World} {A : Around} {E : Value->Shared->Prop} {s : Shared} {a : Addr} {vs : List Value} {n : Nat}
theorem za54 (vs : List Value) : (jy9 vs.length).map (fun i=>vs.getD i dy6) = vs:=by
 refine oy8 fun i=>?_;rw [by1]
 by_cases h : i < vs.length
 ·rw [List.getElem?_range h,by5 h];simp [ly8,h]
 ·rw [ny7 (by simpa using h),ny7 (by omega)];rfl
theorem ze96 {lt : Nat->Nat->Bool} {p : Array Nat} {n : Nat} (hz : p.size = n) (h : Up lt p n) : p.toList.Pairwise fun i j=>lt i j = true:=by
 rw [List.pairwise_iff_getElem];intro i j hi hj hij;have:=h i j hij (by rw [<- hz]; simpa using hj)
 have e : ∀ k (hk : k < p.toList.length),gp p k = p.toList[k]:=fun k hk=>by
  have hk' : k < p.size:=by simpa using hk
  simp [gp,Array.getD,hk']
 rw [e i hi,e j hj] at this;exact this
theorem zz3 {κ : SortKind} {lt : Nat->Nat->Bool} {P : PySem.Fin->Shared->Prop} (O : Ord vs.length lt) (ho : s.heap.get? a = some (seqObj "list" vs.toArray n)) (h64 : vs.length < 64)
    (hk : 2 <= vs.length->∀ (s' : Shared) (Q : SortKind->Shared->Prop),(∀ b o,b ≠ a->s.heap.get? b = some o->s'.heap.get? b = some o)->Q κ s'->wpAny (model prog w) A (keyKind' vs.toArray) Q E s')
    (hc : 2 <= vs.length->∀ (s' : Shared) i j (C : Bool->Shared->Prop),(∀ b o,b ≠ a->s.heap.get? b = some o->s'.heap.get? b = some o)->i < vs.length->j < vs.length->i ≠ j->C (lt i j) s'->kas_ask prog w A κ vs i j C s')
    (h : ∀ q : List Nat,q.Perm (jy9 vs.length)->q.Pairwise (fun i j=>lt i j = true)->P (Fin.done (Flow.ret dy6)) { s with heap:=sortedHeap s.heap a vs (q.map fun i=>vs.getD i dy6).toArray }) :
    wpAny (model prog w) A (ry5.«list.sort» { pos:=[cy9 a] }) P E s:=by
  rw [list_sort_plain a];have ha:=by2 ho;refine ay0 (listItems_at ho rfl (ay0 (listUpdate_at ho rfl ?_ (by rw [my9]; simp; omega))));obtain ⟨e1,ho1⟩ : ∃ e1,(s.heap.update a (hy9 fun _=>#[])).get? a = some (seqObj "list" #[] e1):=⟨_,get?_update_seq ho fun _=>#[]⟩
  refine ay0 (seqEpoch_at ho1 rfl (ay0 (wpAny_newTuple (ay0 (wpAny_newList (fy1 ?_))))))
  have ho6 : (((s.heap.update a (hy9 fun x=>#[])).push (seqObj "tuple" vs.toArray 0)).push (seqObj "list" #[] 0)).get? a = some (seqObj "list" #[] e1):=by
    rw [Heap.get?_push_ne _ _ _ (by rw [size_push',Heap.size_update]; exact by8 (ly1 ha)),Heap.get?_push_ne _ _ _ (by rw [Heap.size_update]; exact by8 ha)];exact ho1
  have hkp : ∀ b o,b ≠ a->s.heap.get? b = some o->(((s.heap.update a (hy9 fun x=>#[])).push (seqObj "tuple" vs.toArray 0)).push (seqObj "list" #[] 0)).get? b = some o:=fun b o hb q =>
    ay2 _ (ay2 _ ((dy5 _ _ (fy2 hb)).trans q))
  generalize hS : ({ s with heap:=((s.heap.update a (hy9 fun x=>#[])).push (seqObj "tuple" vs.toArray 0)).push (seqObj "list" #[] 0) } : Shared) = S
  have last : ∀ (st' : SortSt) (R : PySem.Fin->Shared->Prop),failedOf st' = none->(arrOf st').size = vs.length->R (Fin.done (Flow.ret dy6)) { s with heap:=sortedHeap s.heap a vs (Array.map (fun x=>x.snd) (arrOf st')) } ->
     wpAny (model prog w) A (do
         let __do_lift <- seqEpoch a
         Builtin.List.listUpdate (cy9 a) fun x=>Array.map (fun x=>x.snd) (arrOf st')
         match failedOf st' with
           | some e=>do
             rule "list.sort.comparison-raised"
             throw e
             if (__do_lift != e1) = true then do
                 rule "list.sort.modified"
                 raiseErrorWords "ValueError" "list modified during sort"
                 ret dy6
               else ret dy6
           | x =>
             if (__do_lift != e1) = true then do
               rule "list.sort.modified"
               raiseErrorWords "ValueError" "list modified during sort"
               ret dy6
             else ret dy6) R E S:=by
    intro st' R hf hsz hR;subst hS;refine ay0 (seqEpoch_at ho6 rfl (ay0 (listUpdate_at ho6 rfl ?_ (by simp) (by rw [Array.size_map,hsz,my9]; omega))));rw [hf];simp only [bne_self_eq_false,jy0,if_false];exact ay1 hR
  have hkp' : ∀ b o,b ≠ a->s.heap.get? b = some o->S.heap.get? b = some o:=by subst hS; exact hkp
  by_cases h2 : vs.toArray.size < 2
  · show wpAny _ _ (if vs.toArray.size < 2 then _ else _) _ _ S
    rw [if_pos h2];refine ay0 (ay1 ?_);rw [if_pos h2];show wpAny _ _ (StateT.run (pure ()) (SortSt.mk' general' (vs.toArray.zip vs.toArray) #[] 7 none) >>= _) _ _ S;rw [StateT.run_pure];refine ay0 (ay1 ?_);refine last (SortSt.mk' general' (vs.toArray.zip vs.toArray) #[] 7 none) _ rfl ?_ ?_
    · show (vs.toArray.zip vs.toArray).size = _
      simp
    · have e : Array.map (fun x : Keyed=>x.snd) (vs.toArray.zip vs.toArray) = ((jy9 vs.length).map fun i=>vs.getD i dy6).toArray:=by
        rw [za54];have:=congrArg List.toArray (zc82 vs)
        rwa [Array.toArray_toList] at this
      show P _ { s with heap:=sortedHeap s.heap a vs (Array.map (fun x : Keyed=>x.snd) (vs.toArray.zip vs.toArray)) };rw [e];refine h _ (.refl _) ?_;have h2' : vs.length < 2:=by simpa using h2
      rw [List.pairwise_iff_getElem];intro i j hi hj hij;simp at hj;omega
  · have h2' : 2 <= vs.length:=by simpa using h2
    show wpAny _ _ (if vs.toArray.size < 2 then _ else _) _ _ S;rw [if_neg h2];refine ay0 (hk h2' S _ hkp' ?_);rw [if_neg h2];refine ay0 (thn (kat_run (ks:=vs) (Q:=fun st' s'=>s' = S /\ failedOf st' = none /\ (arrOf st').size = vs.length /\ ∃ q : List Nat,q.Perm (jy9 vs.length) /\ q.Pairwise (fun i j=>lt i j = true) /\ Array.map (fun x=>x.snd) (arrOf st') = (q.map fun i=>vs.getD i dy6).toArray) (G:=fun p s'=>s' = S /\ Pm vs.length p /\ Up lt p vs.length) rfl h2' h64 (fun p st' s' hp harr hf hG=>?_) ((zc83 (by omega) O).mono (fun p hp=>⟨rfl,hp⟩) |>.wp fun i j C hi hj hij hC=>hc h2' S i j C hkp' hi hj hij hC)) fun r s' q=>?_)
    rotate_left
    · refine za0 fun gG=>?_
      obtain ⟨⟨⟩,st'⟩:=r;obtain ⟨rfl,q1,q2,q,q3,q4,q5⟩:=q;refine gG ?_;clear gG;refine last st' _ q1 q2 ?_;rw [q5];exact h q q3 q4
    refine za0 fun gG=>?_;obtain ⟨rfl,hG,hU⟩:=hG;refine gG ?_;clear gG;refine ⟨rfl,hf,by rw [harr,Array.size_map,hp],p.toList,by simpa using Array.perm_iff_toList_perm.mp hG,ze96 hp hU,?_⟩;rw [harr]
    have e : (Array.map (fun x=>x.snd) (Array.map (kas_item (vs.toArray.zip vs.toArray)) p)).toList = p.toList.map fun i=>vs.getD i dy6:=by
      simp only [Array.toList_map,ey6];refine ny0 fun i _=>?_;show (kas_item (vs.toArray.zip vs.toArray) i).2 = _;rw [kat_item rfl]
    rw [<- e]
theorem zI4 {κ : SortKind} {lt : Nat->Nat->Bool} {l : Addr} {Q : Value->Shared->Prop} (O : Ord vs.length lt) (hl : s.heap.IsList l vs.toArray) (h64 : vs.length < 64)
  (hk : 2 <= vs.length->∀ (s' : Shared) (Q : SortKind->Shared->Prop),(∀ b o,s.heap.get? b = some o->s'.heap.get? b = some o)->Q κ s'->wpAny (model prog w) A.in1.in1 (keyKind' vs.toArray) Q E s')
  (hc : 2 <= vs.length->∀ (s' : Shared) i j (C : Bool->Shared->Prop),(∀ b o,s.heap.get? b = some o->s'.heap.get? b = some o)->i < vs.length->j < vs.length->i ≠ j->C (lt i j) s'->kas_ask prog w A.in1.in1 κ vs i j C s')
  (h : ∀ q : List Nat,q.Perm (jy9 vs.length)->q.Pairwise (fun i j=>lt i j = true)->Q (cy9 (s.heap.objs.size + 1)) { s with heap:=sortedAll s.heap vs (q.map fun i=>vs.getD i dy6).toArray }) :
  wpAny (model prog w) A (call (Value.builtin "sorted") [cy9 l]) Q E s:=by
 refine Calls.call_function_entry kind_sorted plain_sorted entry_sorted (args_sorted1 (cy9 l)) ?_;refine ay0 (ay1 (ay0 (collect_list hl (ay0 (wpAny_newList ?_ (by rw [my9]; omega))) (by rw [my9]; omega))))
 have hsz : ((s.heap.push (seqObj "list" #[] 0)).update s.heap.objs.size (hy9 fun x=>x++vs.toArray)).objs.size = s.heap.objs.size + 1:=by
  rw [Heap.size_update,size_push']
 have hoL : (((s.heap.push (seqObj "list" #[] 0)).update s.heap.objs.size (hy9 fun x=>x++vs.toArray)).push (seqObj "list" vs.toArray 0)).get? (s.heap.objs.size + 1) = some (seqObj "list" vs.toArray 0):=by
  rw [<- hsz]; exact ay7 _ rfl
 have hold : ∀ b o,s.heap.get? b = some o->(((s.heap.push (seqObj "list" #[] 0)).update s.heap.objs.size (hy9 fun x=>x++vs.toArray)).push (seqObj "list" vs.toArray 0)).get? b = some o:=fun b o q =>
  ay2 _ ((dy5 _ _ (my2 (by2 q))).trans (ay2 _ q))
 show wpAny (model prog w) A.in1 _ _ E _;rw [hsz];refine ay0 (fy1 (dy4 slot_list_sort ⟨_,hoL,rfl⟩ entry_list_sort (zz3 (κ:=κ) O hoL h64 (fun h2 s' Q hb q=>?_) (fun h2 s' i j C hb=>?_) fun q q1 q2=>?_) (args_list_sort _)))
 ·exact hk h2 s' Q (fun b o q=>hb b o (by8 (ly1 (by2 q))) (hold b o q)) q
 ·exact hc h2 s' i j C (fun b o q=>hb b o (by8 (ly1 (by2 q))) (hold b o q))
 ·exact ⟨.none,rfl,ay1 ⟨_,rfl,h q q1 q2⟩⟩
end
def ltS (a b : Str) : Bool:=decide (a.cps.toList < b.cps.toList)
def ltQ (a b : Str × Str) : Bool:=if a.1 = b.1 then ltS a.2 b.2 else ltS a.1 b.1
theorem zD0 {a b : Str} (h : ltS a b = true) : ltS b a = false:=by
 unfold ltS at *;exact decide_eq_false fun z=>List.lt_asymm (of_decide_eq_true h) z
theorem zw8 {a b c : Str} (h : ltS a b = true) (h' : ltS b c = true) : ltS a c = true:=by
 unfold ltS at *;exact decide_eq_true (List.lt_trans (of_decide_eq_true h) (of_decide_eq_true h'))
theorem zM3 {a b : Str} (h : a ≠ b) (h' : ltS a b = false) : ltS b a = true:=by
 unfold ltS at *;have h1 : b.cps.toList <= a.cps.toList:=List.not_lt.mp (of_decide_eq_false h')
 by_cases h2 : b.cps.toList < a.cps.toList
 ·exact decide_eq_true h2
 ·exact absurd (zb53 (a:=a) (b:=b) h2 (of_decide_eq_false h')) h
theorem za55 (a : Str) : ltS a a = false:=by
 cases h : ltS a a with
 | false=>rfl
 | true=>rw [zD0 h] at h; cases h
theorem zb64 {a b : Str × Str} (h : ltQ a b = true) : ltQ b a = false:=by
 unfold ltQ at *
 by_cases e : a.1 = b.1
 ·rw [if_pos e] at h; rw [if_pos e.symm]; exact zD0 h
 ·rw [if_neg e] at h; rw [if_neg (fy2 e)]; exact zD0 h
theorem za56 {a b c : Str × Str} (h : ltQ a b = true) (h' : ltQ b c = true) : ltQ a c = true:=by
 unfold ltQ at *
 by_cases e : a.1 = b.1
 ·rw [if_pos e] at h
  by_cases e' : b.1 = c.1
  ·rw [if_pos e'] at h'; rw [if_pos (e.trans e')]; exact zw8 h h'
  ·rw [if_neg e'] at h'; rw [if_neg (by rw [e]; exact e'),e]; exact h'
 ·rw [if_neg e] at h
  by_cases e' : b.1 = c.1
  ·rw [if_pos e'] at h'; rw [if_neg (by rw [<- e']; exact e),<- e']; exact h
  ·rw [if_neg e'] at h';have h3:=zw8 h h';have : a.1 ≠ c.1:=fun z=>by rw [z,za55] at h3; cases h3
   rw [if_neg this]; exact h3
theorem zc84 {a b : Str × Str} (h : a ≠ b) (h' : ltQ a b = false) : ltQ b a = true:=by
 unfold ltQ at *
 by_cases e : a.1 = b.1
 ·rw [if_pos e] at h'; rw [if_pos e.symm];exact zM3 (fun z=>h (Prod.ext e z)) h'
 ·rw [if_neg e] at h'; rw [if_neg (fy2 e)];exact zM3 e h'
theorem zc85 {ks : List (Str × Str)} (nd : ks.Nodup) : Ord ks.length fun i j=>ltQ (ks.getD i default) (ks.getD j default) where
 asym:=fun i j _ _ h=>zb64 h
 trans:=fun i j k _ _ _ h h'=>za56 h h'
 tot:=fun i j hi hj hij h=>zc84 (fun z=>hij (by
  have e : ∀ k (hk : k < ks.length),ks.getD k default = ks[k]:=fun k hk=>by simp [ly8,hk]
  rw [e i hi,e j hj] at z
  exact (iy4 nd).mp z)) h
section
variable {prog : cy7} {w : World} {A : Around} {E : Value->Shared->Prop} {s : Shared}
theorem zc86 {x1 x2 y1 y2 : Str} {t1 t2 u1 u2 : Tok} {fin : Bool} {r : List (Value × Value)} {Q : Bool->Shared->Prop} (hne : (x1,x2) ≠ (y1,y2)) (h : Q (ltQ (x1,x2) (y1,y2)) s) : KatLex prog w A true fin Q ((.str x1 t1,.str y1 u1) :: (.str x2 t2,.str y2 u2) :: r) 0 s:=by
 rw [KatLex.eq_2];refine py5 ?_
 by_cases e : x1 = y1
 ·rw [decide_eq_true e,if_pos rfl,KatLex.eq_2];refine py5 ?_;have e2 : x2 ≠ y2:=fun z=>hne (by rw [e,z]);rw [decide_eq_false e2,if_neg (by decide)];refine kat_one _ _ (PySem.P.lt_str ?_);unfold ltQ at h;rw [if_pos e] at h;exact h
 ·rw [decide_eq_false e,if_neg (by decide)];refine strKind_oneLt prog w A _ s _ _ x1.cps.toList y1.cps.toList rfl rfl ?_;unfold ltQ at h;rw [if_neg e] at h;have : strKind.blt x1.cps.toList y1.cps.toList = ltS x1 y1:=rfl;rw [this];exact h
end
section
variable {P : cy7} {w : World} {A : Around} {E : Value->Shared->Prop} {s : Shared} {it d : Addr} {i ep : Nat} {es : Array my6}
def ItAt (h : Heap) (it d S : Addr) (i n ep : Nat) : Prop :=
 (∃ ok ov,IsItemIter h it d i n ep ok ov) \/ ∃ ok ov a f oa,KdxIt h it d i n ep ok ov a f /\ h.get? a = some oa /\ a ≠ it /\ a ≠ S
theorem zb65 {S : Addr} {Q : Option Value->Shared->Prop} (hh : A.handled = none) (hit : ItAt s.heap it d S i es.size ep) (hm : zI2 s.heap d es ep) (hx : es.size <= i)
  (hQ : ∀ h',Heap.ExtBut it s.heap h'->Q none { s with heap:=h' }) : wpAny (model P w) A (pyNext (.ref it)) Q E s:=by
 refine za0 fun gG=>?_;obtain ⟨ob,b1,b2,b3⟩:=hm;refine gG ?_;clear gG
 obtain ⟨f0,f1,ok,ov,hI⟩ : ∃ f0 f1 ok ov,s.heap.get? it = some { cls:=.type "dict_itemiterator",dict:=none,data:=.fields #[f0,f1,.ref d,.int i 0,.int es.size 0,.int ep 0,ok,ov],slots:=#[] }:=by
  rcases hit with ⟨ok,ov,x⟩ | ⟨ok,ov,a,f,oa,x,y,z,u⟩
  ·exact ⟨_,_,ok,ov,x⟩
  ·exact ⟨_,_,ok,ov,x⟩
 have ty : s.TypeIs (.ref it) "dict_itemiterator" := ⟨_,hI,rfl⟩
 have own : gy6 "dict_itemiterator" = true:=by decide
 unfold pyNext;refine ay0 (qy5 (ey8 (name:=my3 "__next__") ty iy6 (dy4 iy6 ty F.entry_dict_itemiterator_next ?_ (F.args_dict_itemiterator_next_1 _))));refine ay0 (ay1 (ay0 (ay0 ?_)))
 first | refine ay0 (ny9 ty (ay1 ?_)) | refine ay0 (ry1 ty (ay1 ?_))
 refine ay0 (ty2 hI rfl ?_);simp only [own,if_true];show wpAny _ _ (if (cy9 d == dy6) = true then _ else _) _ _ s;rw [if_neg (show ¬ ((cy9 d == dy6) = true) from by9)];refine ay0 (ay1 (ay0 (ky1 b1 b3 ?_)));rw [if_neg (by simp)];refine ay0 (ay1 (ay0 (ny8 b1 b3 ?_)));rw [if_neg (by simp)];refine ay1 ?_;simp only [show ¬ ((i : Int) < 0) from by omega,if_false,ky0,my7 hx];refine ay0 ?_
 first | refine ay0 (ny9 ty (ay1 ?_)) | refine ay0 (ry1 ty (ay1 ?_))
 show wpAny _ _ (ty6 (.ref it) 2 .none >>= _) _ _ s;refine ay0 (jy8 hI rfl (by simp) ?_);refine zk3 (by simpa using hh) fun h' e k te=>?_;refine ay0 (qy0 te isSubtype_stop ?_);exact ay1 (hQ _ fun b' o' hb q=>k _ _ ((dy5 _ _ (fy2 hb)).trans q))
theorem za57 {v : Addr} {Q : Value->Shared->Prop} (hv : s.heap.IsItemsView v d) (hm : zI2 s.heap d es ep)
  (hQ : Q (.ref s.heap.objs.size) { s with heap:=s.heap.push { cls:=.type "dict_itemiterator",data:=.fields #[.none,.bool false,.ref d,.int 0 0,.int es.size 0,.int ep 0,.none,.none] } }) : wpAny (model P w) A (pyIter (.ref v)) Q E s:=by
 refine za0 fun gG=>?_;obtain ⟨vo,v1,v2,v3⟩:=id hv;obtain ⟨ob,b1,b2,b3⟩:=hm;refine gG ?_;clear gG;refine ry8 hv.typeIs F.slot_dict_items_iter (dy4 F.slot_dict_items_iter hv.typeIs F.entry_dict_items_iter ?_ (F.args_dict_items_iter_1 _));unfold Builtin.«dict_items.__iter__»;refine ay0 (ay1 (ay0 ?_));unfold Builtin.Dict_items.dictOf;refine ay0 (jy5 v1 v3 (x:=.ref d) rfl (ay1 (ay0 ?_)));unfold Builtin.Dict_items.newIterator;refine ay0 (ky1 b1 b3 (ay0 (ny8 b1 b3 ?_)));have own : gy6 "dict_itemiterator" = true:=by decide
 simp only [own,if_true];refine ey5 (ay1 ⟨_,rfl, "dict_itemiterator",_,⟨_,ay7 _ rfl,rfl⟩,iy6.lookup,?_⟩) (by simp only [sizeOk,wy5,cy1,cy5,py7,List.length_nil,my9]; omega);simpa [rawInt,wy5] using hQ
end
section
variable {P : cy7} {w : World} {A : Around} {E : Value->Shared->Prop} {s : Shared} {d : Addr} {ep : Nat} {es : Array my6}
abbrev zp7 (acc : Array Value) (c : Nat) : Obj:={ cls:=.type "list",dict:=none,data:=.seq acc c,slots:=#[] }
end
def za58 (v d : Addr) : HO:=.ext fun h=>h.IsItemsView v d
def IsT2 (h : Heap) (b : Addr) (p : Str × Str) : Prop:=∃ o n t u,h.get? b = some o /\ o.cls = .type "tuple" /\ o.data = .seq #[.str p.1 t,.str p.2 u] n
theorem IsT2.move {h h' : Heap} {b : Addr} {p : Str × Str} (x : IsT2 h b p) (k : ∀ o,h.get? b = some o->h'.get? b = some o) : IsT2 h' b p:=by
 refine za0 fun gG=>?_;obtain ⟨o,n,t,u,e,r⟩:=x;refine gG ?_;clear gG;exact ⟨o,n,t,u,k o e,r⟩
section
variable {prog : cy7} {w : World} {A : Around} {E : Value->Shared->Prop} {s : Shared}
end
section
variable {X : Cx}
end
section
variable {X : Cx}
end
section
variable {α : Type}
theorem zz4 [Inhabited α] {L : List α} {q : List Nat} (h : q.Perm (jy9 L.length)) : (q.map fun i=>L.getD i default).Perm L:=by
 have e : (jy9 L.length).map (fun i=>L.getD i default) = L:=by
  refine oy8 fun i=>?_;rw [by1]
  by_cases hi : i < L.length
  ·rw [List.getElem?_range hi,by5 hi];simp [ly8,hi]
  ·rw [ny7 (by simpa using hi),ny7 (by omega)];rfl
 exact (h.map _).trans (.of_eq e)
end
instance : Inhabited PyData:=⟨.none⟩
section
variable {X : Bc} {S : Sl} {W : Wl} {k : KB}
theorem RW.grown {K : ay5} {F : Hp} {A : List Addr} {W : Wl} {H H1 : Hp} (r : RW K F A W H) (s : zn2 H H1) : RW K F A W H1:=⟨r.sub.trans s,r.len,r.nd,r.out,fun k a o hk ho=>by
 refine za0 fun gG=>?_;obtain ⟨u,e,q⟩:=r.obj k a o hk ho;refine gG ?_;clear gG
 exact ⟨u,s _ _ e,q⟩⟩
end
end L2
namespace L2
open PySem PySem.Spec PyProof.Rows
section
variable {K : ay5} {F : Hp} {A : List Addr} {W : Wl} {H : Hp}
end
section
variable {X : Bc} {n : Nat} {S : Sl} {W : Wl} {D : DB}
end
section
variable {X : Bc} {S : Sl} {W : Wl} {scope : Scope}
end
section
variable {X : Bc} {S : Sl} {W : Wl} {k : KB}
theorem za59 {a : Expr} {pos : Pos} (h : BE X S W a fun x W1=>∃ i,x = .d (.int i) /\ k (.d (.int (-i))) W1) : BE X S W (.UnaryOp .USub a pos) k :=
 .of (ze68 zd55 zi1) fun F A σ H Q x0 r sr q=>h.use x0 r sr fun F1 A1 W1 H1 x vx e1 r1 z1 zR=>by
  refine za0 fun gG=>?_;obtain ⟨i,hi,h1⟩:=zR;subst hi;refine gG ?_;clear gG;obtain rfl:=Rq.ze3 z1;exact ⟨i,rfl,(q.ext e1).same r1 (.dd (Rq.int _)) h1⟩
end
section
variable {prog : cy7} {w : World} {A : Around} {E : Value->Shared->Prop} {s : Shared}
end
section
variable {X : Cx} {e st : Expr} {te ts : TE} {p2 pos : Pos}
end
section
variable {X : Bc} {S : Sl} {W : Wl} {k : KB}
end
end L2
namespace L2
open PySem PySem.Spec PyProof.Rows
open PySem.W
section
variable {P : cy7} {w : World} {A : Around} {E : Value->Shared->Prop} {s : Shared} {it d : Addr} {i ep : Nat} {es : Array my6}
theorem zD1 {Q : Option Value->Shared->Prop} {en : my6} (hit : s.heap.IsValIter it d i es.size ep) (hm : zI2 s.heap d es ep) (hx : es[i]? = some en)
  (hQ : ∀ h',h'.IsValIter it d (i + 1) es.size ep->fy3 it s.heap h'->Q (some en.val) { s with heap:=h' }) : wpAny (model P w) A (pyNext (.ref it)) Q E s:=by
 refine za0 fun gG=>?_;obtain ⟨o,c1,c2,c3⟩:=id hit;obtain ⟨b,b1,b2,b3⟩:=hm;refine gG ?_;clear gG;have ty:=hit.typeIs;unfold pyNext;refine ay0 (qy5 (ey8 (name:=my3 "__next__") ty ky4 (dy4 ky4 ty F.entry_dict_valueiterator_next ?_ (F.args_dict_valueiterator_next_1 _))));refine ay0 (ay1 (ay0 (ay0 ?_)))
 first | refine ay0 (oy3 ty (ay1 ?_)) | refine ay0 (sy1 ty (ay1 ?_))
 refine ay0 (ty2 c1 c3 ?_);have own : gy6 "dict_valueiterator" = false:=by decide
 simp only [own,jy0,if_false];show wpAny _ _ (if (cy9 d == dy6) = true then _ else _) _ _ s;rw [if_neg (show ¬ ((cy9 d == dy6) = true) from by9)];refine ay0 (ay1 (ay0 (ky1 b1 b3 ?_)));rw [if_neg (by simp)];refine ay0 (ay1 (ay0 (ny8 b1 b3 ?_)));rw [if_neg (by simp)];refine ay1 ?_;simp only [show ¬ ((i : Int) < 0) from by omega,if_false,ky0,hx];refine ay0 ?_
 first | refine ay0 (oy3 ty (ay1 ?_)) | refine ay0 (sy1 ty (ay1 ?_))
 refine ay0 (wpAny_isOneOf_valiter ty ?_);show wpAny _ _ (ty6 (.ref it) 1 (rawInt ((i : Int) + 1)) >>= _) _ _ s;refine ay0 (jy8 c1 c3 (by simp) ?_)
 have hit' : (s.heap.update it (vy3 (·.setIfInBounds 1 (rawInt ((i : Int) + 1))))).IsValIter it d (i + 1) es.size ep :=
  ⟨_,gy0 _ c1 (ny6 (hy0 c3 _)),(vy2 ..).trans c2,by rw [hy0 c3]; simp [rawInt]⟩
 have ty' : Shared.TypeIs { s with heap:=s.heap.update it (vy3 (·.setIfInBounds 1 (rawInt ((i : Int) + 1)))) } (.ref it) "dict_valueiterator" := hit'.typeIs;refine ay0 (fy1 (ay0 (wpAny_isOneOf_valiter ty' (ay0 (wpAny_isOneOf_valiter ty' ?_)))));show wpAny _ _ (pure en.val) _ _ _;exact ay1 (ay1 ⟨_,rfl,ay1 (hQ _ hit' (hy1 ..))⟩)
theorem zM4 {Q : Option Value->Shared->Prop} (hh : A.handled = none) (hit : s.heap.IsValIter it d i es.size ep) (hm : zI2 s.heap d es ep) (hx : es.size <= i)
  (hQ : ∀ h',Heap.ExtBut it s.heap h'->Q none { s with heap:=h' }) : wpAny (model P w) A (pyNext (.ref it)) Q E s:=by
 refine za0 fun gG=>?_;obtain ⟨o,c1,c2,c3⟩:=id hit;obtain ⟨b,b1,b2,b3⟩:=hm;refine gG ?_;clear gG;have ty:=hit.typeIs;unfold pyNext;refine ay0 (qy5 (ey8 (name:=my3 "__next__") ty ky4 (dy4 ky4 ty F.entry_dict_valueiterator_next ?_ (F.args_dict_valueiterator_next_1 _))));refine ay0 (ay1 (ay0 (ay0 ?_)))
 first | refine ay0 (oy3 ty (ay1 ?_)) | refine ay0 (sy1 ty (ay1 ?_))
 refine ay0 (ty2 c1 c3 ?_);have own : gy6 "dict_valueiterator" = false:=by decide
 simp only [own,jy0,if_false];show wpAny _ _ (if (cy9 d == dy6) = true then _ else _) _ _ s;rw [if_neg (show ¬ ((cy9 d == dy6) = true) from by9)];refine ay0 (ay1 (ay0 (ky1 b1 b3 ?_)));rw [if_neg (by simp)];refine ay0 (ay1 (ay0 (ny8 b1 b3 ?_)));rw [if_neg (by simp)];refine ay1 ?_;simp only [show ¬ ((i : Int) < 0) from by omega,if_false,ky0,my7 hx];refine ay0 ?_
 first | refine ay0 (oy3 ty (ay1 ?_)) | refine ay0 (sy1 ty (ay1 ?_))
 show wpAny _ _ (ty6 (.ref it) 0 .none >>= _) _ _ s;refine ay0 (jy8 c1 c3 (by simp) ?_);refine zk3 (by simpa using hh) fun h' e k te=>?_;refine ay0 (qy0 te isSubtype_stop ?_);exact ay1 (hQ _ fun b' o' hb q=>k _ _ ((dy5 _ _ (fy2 hb)).trans q))
theorem zD2 {v : Addr} {Q : Value->Shared->Prop} (hv : s.heap.IsValuesView v d) (hm : zI2 s.heap d es ep)
  (hQ : Q (.ref s.heap.objs.size) { s with heap:=s.heap.push { cls:=.type "dict_valueiterator",data:=.fields #[.ref d,.int 0 0,.int es.size 0,.int ep 0] } }) : wpAny (model P w) A (pyIter (.ref v)) Q E s:=by
 refine za0 fun gG=>?_;obtain ⟨vo,v1,v2,v3⟩:=id hv;obtain ⟨b,b1,b2,b3⟩:=hm;refine gG ?_;clear gG;refine ry8 hv.typeIs F.slot_dict_values_iter (dy4 F.slot_dict_values_iter hv.typeIs F.entry_dict_values_iter ?_ (F.args_dict_values_iter_1 _));unfold Builtin.«dict_values.__iter__»;refine ay0 (ay1 (ay0 ?_));unfold Builtin.Dict_items.dictOf;refine ay0 (jy5 v1 v3 (x:=.ref d) rfl (ay1 (ay0 ?_)));unfold Builtin.Dict_items.newIterator;refine ay0 (ky1 b1 b3 (ay0 (ny8 b1 b3 ?_)));have own : gy6 "dict_valueiterator" = false:=by decide
 simp only [own,jy0,if_false];refine ey5 (ay1 ⟨_,rfl, "dict_valueiterator",_,⟨_,ay7 _ rfl,rfl⟩,ky4.lookup,?_⟩);simpa [rawInt] using hQ
end
def zj4 (v d : Addr) : HO:=.ext fun h=>h.IsValuesView v d
def ItV (d : Addr) (o : Obj) : It:=⟨fun i H=>∃ vs,H d = some (.frz o (.dT vs)) /\ i < vs.length,fun i H x H'=>H' = H /\ ∀ vs,H d = some (.frz o (.dT vs))->∃ p,vs[i]? = some p /\ x = p.2,fun i H=>∃ vs,H d = some (.frz o (.dT vs)) /\ vs.length <= i⟩
theorem zk9 {P : cy7} {w : World} {H : Hp} {h : Heap} {d : Addr} {o : Obj} {vs : List (List Key × V)} (x : zc1 P w H h d (.frz o (.dT vs))) : h.get? d = some o /\ (d == ky7) = false /\ ∃ es ep,o.ExactDict /\ o.data = .dict es ep /\ es.size = vs.length /\ ∀ (i : Nat) p,vs[i]? = some p->∃ en,es[i]? = some en /\ RelV p.2 en.val:=by
 refine za0 fun gG=>?_;obtain ⟨hg,_,hs,xs,pr,o',es,ep,h1,h2,h3,h4,h5⟩:=x;refine gG ?_;clear gG;rw [hg] at h1;cases h1;refine ⟨hg,hs,es,ep,h2,h3,by rw [size_of_entries h4,pr.length],fun i p hp=>?_⟩;refine za0 fun gG=>?_;obtain ⟨q,hq,_,_,e3⟩:=zh6 pr hp;refine gG ?_;clear gG;exact ⟨_,by rw [entry_at h4,hq]; rfl,e3⟩
theorem za60 {P : cy7} {w : World} {K : ay5} {tg : Expr} {d : Addr} {o : Obj} {es : Array my6} {ep : Nat} (it : Addr) (hd : o.data = .dict es ep) :
  Turn P w K tg (ItV d o) [it] it (fun i h=>h.IsValIter it d i es.size ep) where
 mem:=by simp
 obj:=fun i h st b hb=>by
  have e : b = it:=by simpa using hb
  subst e;refine za0 fun gG=>?_;obtain ⟨o,e,c,d⟩:=st;refine gG ?_;clear gG;exact ⟨o,e,fun v z=>by rw [d] at z; cases z⟩
 keep:=fun i h h' st k=>by
  refine za0 fun gG=>?_;obtain ⟨o,e,r⟩:=st;refine gG ?_;clear gG;exact ⟨o,k it (by simp) o e,r⟩
 item:=by
  intro X hP hw hK hcm i pins s σ H E I hf st hg;subst hP hw hK;refine za0 fun gG=>?_;obtain ⟨f0,f1,f2,f3,f4,f5⟩:=hf it (by simp);obtain ⟨vs,hu,hi⟩:=hg;obtain ⟨hget,hs,es',ep',g1,g2,g3,g4⟩:=zk9 (show zc1 X.prog X.w H s.heap d (.frz o (.dT vs)) from I.hok d _ hu);refine gG ?_;clear gG;rw [hd] at g2;cases g2;refine za0 fun gG=>?_;obtain ⟨en,hen,rv⟩:=g4 i vs[i] (by5 hi);refine gG ?_;clear gG;refine zD1 st ⟨o,hget,g1,hd⟩ hen fun h' hit' hs'=>?_;have I1 : Inv X pins σ H { s with heap:=h' }:=I.turned (t':=s.toks) (fun b o hb e=>hs'.extBut b o hb e) f0 f1 f3 f4 f5;refine za0 fun gG=>?_;obtain ⟨o',e,c,dd⟩:=id hit';refine gG ?_;clear gG
  exact ⟨_,rfl,zJ9 (s:={ s with heap:=h' }) e c dd (by decide) ⟨vs[i].2,H,I1,rv,⟨rfl,fun vs' hv'=>by
   rw [hu] at hv';cases hv'
   exact ⟨_,by5 hi,rfl⟩⟩,hit',fun b hb=>(hf b hb).1⟩⟩
 done:=by
  intro X hP hw hK hcm i pins s σ H E I hf st hg;subst hP hw hK;refine za0 fun gG=>?_;obtain ⟨f0,f1,f2,f3,f4,f5⟩:=hf it (by simp);obtain ⟨vs,hu,hi⟩:=hg;obtain ⟨hget,hs,es',ep',g1,g2,g3,g4⟩:=zk9 (show zc1 X.prog X.w H s.heap d (.frz o (.dT vs)) from I.hok d _ hu);refine gG ?_;clear gG;rw [hd] at g2;cases g2;exact zM4 (I.ok.hd hcm) st ⟨o,hget,g1,hd⟩ (by omega) fun h' eb=>⟨rfl,I.turned (t':=s.toks) (fun b o hb e=>eb b o hb e) f0 f1 f3 f4 f5⟩
 self:=fun _ _ _ _ _ st h=>wpAny_pyIter_valiter st h
section
variable {X : Cx} {tg : Expr}
theorem zc88 {o : Expr} {to : TE} {apos cpos : Pos} (ho : PE X o to) (hbase : oy4 o "values" X.env (eval o X.env) = eval o X.env:=by rfl) (hline : (apos.endLine == cpos.line) = true:=by rfl) :
  PE X (.Call (.Attribute o "values" apos) [] [] cpos) (fun σ H Q=>to σ H fun x H1=>∃ d ob vs,x = .ref d /\ H1 d = some (.frz ob (.dT vs)) /\ ∀ v,H1 v = none->Q (.ref v) (upd H1 v (zj4 v d))):=by
 intro pins s σ H Q I h;refine wpAny_Call_method0_late hbase hline (thn (ho pins s σ H _ I h) fun v s1 ⟨x,H1,I1,r1,d,ob,vs,hx,hd,q⟩=>?_);subst hx;cases r1;refine za0 fun gG=>?_;obtain ⟨hget,hs,es,ep,g1,g2,_⟩:=zk9 (show zc1 X.prog X.w H1 s1.heap d (.frz ob (.dT vs)) from I1.hok d _ hd);refine gG ?_;clear gG;have ty : s1.TypeIs (.ref d) "dict" := ⟨ob,hget,g1.1⟩
 refine ⟨"dict", "dict.values",iy3,sy2,PySem.F.type_dict_values,ty,fun a e=>by cases e; exact ⟨ob,hget,g1.2.1⟩,ty3 rfl (PySem.evalArgs_none ?_)⟩;refine dy4 sy2 ty PySem.F.entry_dict_values ?_ (PySem.F.args_dict_values_1 _);refine ay0 ?_;unfold Builtin.Dict.noArgs;refine ay0 (qy3 ty ?_);show wpAny _ _ (pure d) _ _ s1;refine ay1 ?_;show wpAny _ _ (jy7 d >>= _) _ _ s1;unfold Builtin.Dict.showsAll;rw [if_neg (by rw [hs]; exact by9)];refine ay0 (ay1 (ay0 (ey5 (ay1 ⟨_,rfl,?_⟩))));refine ⟨.ref s1.heap.objs.size,_,I1.laid (t':=s1.toks) (o:=zj4 s1.heap.objs.size d) (fun b u q=>ay2 _ q) (ay6 _) ?_,rfl,q _ (I1.hok.fresh (ay6 _))⟩;exact ⟨⟨_,ay7 _ rfl,rfl,rfl⟩,⟨_,ay7 _ rfl⟩,fun h1 h2 ⟨o,a,b,c⟩ k=>⟨o,k o a,b,c⟩⟩
theorem zc89 {l : Expr} {tl : TE} (hl : PE X l tl) : PI X tg l (fun σ H R=>tl σ H fun v H1=>∃ vw d o vs,v = .ref vw /\ H1 vw = some (zj4 vw d) /\ H1 d = some (.frz o (.dT vs)) /\ R (ItV d o) H1):=by
 intro pins s σ H R I h;refine thn (hl pins s σ H _ I h) fun v s1 zR=>?_;refine za0 fun gG=>?_;obtain ⟨y,H1,I1,r1,vw,d,o,vs,hy,hv,hd,q⟩:=zR;subst hy;refine gG ?_;clear gG;cases r1;refine za0 fun gG=>?_;obtain ⟨hvw,_,_⟩:=(show zc1 X.prog X.w H1 s1.heap vw (zj4 vw d) from I1.hok vw _ hv)
 obtain ⟨hget,hs,es,ep,g1,g2,_⟩:=zk9 (show zc1 X.prog X.w H1 s1.heap d (.frz o (.dT vs)) from I1.hok d _ hd);refine gG ?_;clear gG;refine zD2 hvw ⟨o,hget,g1,g2⟩ ?_;refine ⟨s1.heap.objs.size,[s1.heap.objs.size],_,_,H1,rfl,I1.kept (t':=s1.toks) fun b o e=>ay2 _ e,za60 _ g2,⟨_,ay7 _ rfl,rfl,rfl⟩,fun b hb=>?_,q⟩;have e : b = s1.heap.objs.size:=by simpa using hb
 subst e;exact I1.zY7 (ay6 _) (I1.hok.fresh (ay6 _))
end
section
variable {X : Bc} {S : Sl} {W : Wl} {k : KB}
theorem zc90 {tg o : Expr} {apos cpos : Pos} {ki : Nat->(Wl->Prop)->List PyData->Wl->Prop} (h : BE X S W o fun y W1=>∃ (j : Nat) (ob : Obj) (L : List (List Key × PyData)),y = .o j /\ W1[j]? = some (.fT ob (L.map fun e=>(e.1,El.d e.2))) /\ ki (j + 1) (fun W'=>W'[j]? = some (.fT ob (L.map fun e=>(e.1,El.d e.2)))) (L.map (·.2)) W1)
  (hbase : oy4 o "values" X.env (eval o X.env) = eval o X.env:=by rfl) (hline : (apos.endLine == cpos.line) = true:=by rfl) : BI X S W tg (.Call (.Attribute o "values" apos) [] [] cpos) ki:=fun F A σ H R x0 r sr q =>
 ⟨_,zc89 (zc88 zi1 hbase hline),h.use x0 r sr fun F1 A1 W1 H1 y vy e1 r1 z1 zR=>by
  refine za0 fun gG=>?_;obtain ⟨j,ob,L,hy,hj,h1⟩:=zR;subst hy;obtain ⟨a,ha,rfl⟩:=z1;have hja : j < A1.length:=(ay4.mp ha).1
  have ha' : ∀ {F' A'},Ex1 (j + 1) F1 A1 F' A'->A'[j]? = some a:=fun {F' A'} x=>by
   have e:=zm8 x.pre (by omega);have:=congrArg (fun l=>l[j]?) e;simp only [gy2 (ky6 j)] at this;rw [this]; exact ha
  obtain ⟨u0,e0,vs0,⟨rfl,ki0⟩,p0⟩:=r1.obj j a _ ha hj;refine gG ?_;clear gG;refine ⟨a,ob,vs0,rfl,e0,fun v hv=>⟨v,a,ob,vs0,rfl,zb5,by rw [za8 (za5 e0 hv)]; exact e0,?_⟩⟩;have r2 : RW X.K F1 A1 W1 (upd H1 v (zj4 v a)):=r1.grown (zj9 hv)
  have key : ∀ {F' A' W' H'},Ex1 (j + 1) F1 A1 F' A'->RW X.K F' A' W' H'->W'[j]? = some (.fT ob (L.map fun e=>(e.1,El.d e.2)))->∃ vs,H' a = some (.frz ob (.dT vs)) /\ Paired (fun p q=>p.1 = q.1 /\ ElR X.K F' A' p.2 q.2) (L.map fun e=>(e.1,El.d e.2)) vs:=fun x r' hG=>by
   refine za0 fun gG=>?_;obtain ⟨u,e,vs,⟨rfl,_⟩,p⟩:=r'.obj j a _ (ha' x) hG;refine gG ?_;clear gG;exact ⟨vs,e,p⟩
  refine q (j + 1) _ F1 A1 W1 _ _ _ e1 r2 hja ⟨fun i F' A' W' H' hi x r' hG=>?_,fun i F' A' W' H' y H'' hi x r' hG hy=>?_,fun F' A' W' H' x r' hG=>?_⟩ h1
  ·refine za0 fun gG=>?_;obtain ⟨vs,e,p⟩:=key x r' hG;refine gG ?_;clear gG;refine ⟨vs,e,?_⟩;have:=zb2 p;rw [ay3] at this hi;omega
  ·refine za0 fun gG=>?_;obtain ⟨vs,e,p⟩:=key x r' hG;obtain ⟨e',hy⟩:=hy;obtain ⟨pp,hp,rfl⟩:=hy vs e;obtain ⟨b,hb,zb⟩:=ze8 p hp;rw [by1] at hb;obtain ⟨l,hl,rfl⟩:=fy7.mp hb;refine gG ?_;clear gG;exact ⟨e',l.2,by rw [by1,hl]; rfl,zb.2⟩
  ·refine za0 fun gG=>?_;obtain ⟨vs,e,p⟩:=key x r' hG;refine gG ?_;clear gG;refine ⟨vs,e,?_⟩;have:=zb2 p;rw [ay3] at this ⊢
   omega⟩
end
section
variable {P : cy7} {w : World} {A : Around} {E : Value->Shared->Prop} {s : Shared} {d : Addr} {ep : Nat} {es : Array my6}
theorem zb66 {S I : Addr} {R : Result->Shared->Prop} (hh : A.handled = none) (hSI : S ≠ I) (hSd : d ≠ S) (hId : d ≠ I) (hn : es.size <= by3) (res : Value) {h1 : Heap}
  (hR : ∀ h' tk c,(∀ b o,b ≠ S->b ≠ I->h1.get? b = some o->h'.get? b = some o)->h'.get? S = some (zp7 (es.toList.map (·.key)).toArray c)->R (.ok (.ret res)) { s with heap:=h',toks:=tk }) :
  ∀ (k i : Nat) (h : Heap) (tk c : Nat),i + k = es.size->h.IsKeyIter I d i es.size ep->zI2 h d es ep->(∀ b o,b ≠ S->b ≠ I->h1.get? b = some o->h.get? b = some o) ->
   h.get? S = some (zp7 ((es.toList.take i).map (·.key)).toArray c)->ly4 (model P w) A (.builtin "list.extend.loop" ⟨[.ref S,.ref I,res],[]⟩) R { s with heap:=h,toks:=tk }:=by
 intro k
 induction k with
 | zero =>
  intro i h tk c hk hst hD hkeep hS;refine iy0 PySem.F.entry_extend_loop ?_;rw [fy8 iy8 _];show wpAny _ A.in1 (pyNext (.ref I) >>= _) _ _ _;refine ay0 (za48 (s:={ s with heap:=h,toks:=tk }) (A:=A.in1) hh hst hD (by omega) fun h' he=>?_);rw [my8 (by rw [jy2]; omega)] at hS;exact ay1 (hR h' tk c (fun b o z1 z2 e=>he b o z2 (hkeep b o z1 z2 e)) (he S _ hSI hS))
 | succ k ih =>
  intro i h tk c hk hst hD hkeep hS;have hlt : i < es.size:=by omega
  obtain ⟨en,hx⟩ : ∃ p,es[i]? = some p:=⟨es[i],qy9 hlt⟩
  refine iy0 PySem.F.entry_extend_loop ?_;rw [fy8 iy8 _];show wpAny _ A.in1 (pyNext (.ref I) >>= _) _ _ _;refine ay0 (zQ3 (s:={ s with heap:=h,toks:=tk }) hst hD hx fun h' hst' hs'=>?_);have hkp : ∀ b o,b ≠ I->h.get? b = some o->h'.get? b = some o:=fun b o hb e=>hs'.extBut b o hb e;have hS':=hkp S _ hSI hS;have up : ∀ b o,b ≠ S->h'.get? b = some o->(h'.update S (hy9 (·.push en.key))).get? b = some o:=fun b o hb e=>(dy5 _ _ (fy2 hb)).trans e;show wpAny _ A.in1 (updateSeq S (·.push en.key) >>= _) _ _ _;refine ay0 ?_;have hsz : (((es.toList.take i).map (·.key)).toArray).size = i:=by simp; omega
  obtain ⟨c',eS⟩ : ∃ c',(h'.update S (hy9 (·.push en.key))).get? S = some (zp7 ((es.toList.take (i + 1)).map (·.key)).toArray c'):=⟨_,by
   have:=get?_update_seq (n:=c) (c := "list") (xs:=((es.toList.take i).map (·.key)).toArray) hS' (fun x=>x.push en.key)
   rw [show ((es.toList.take (i + 1)).map (·.key)).toArray = (((es.toList.take i).map (·.key)).toArray).push en.key by
    rw [fy5,ly0,hx]
    simp]
   exact this⟩
  refine py3 hS' rfl (ay1 ⟨ky2 iy8 _,ih (i + 1) _ tk c' (by omega) ?_ (hD.move fun o e=>up d o hSd (hkp d o hId e)) (fun b o z1 z2 e=>up b o z1 (hkp b o z2 (hkeep b o z1 z2 e))) eS⟩) (by rw [hsz]; omega) (by rw [Array.size_push,hsz]; omega);refine za0 fun gG=>?_;obtain ⟨oi,e1,e2⟩:=hst';refine gG ?_;clear gG;exact ⟨oi,up I oi (fy2 hSI) e1,e2⟩
theorem zM5 {R : List Value->Shared->Prop} (hh : A.handled = none) (hsm : (d == ky7) = false) (hm : zI2 s.heap d es ep) (hn : es.size <= by3)
  (h : ∀ (h' : Heap) (tk : Nat),(∀ b o,s.heap.get? b = some o->h'.get? b = some o)->R (es.toList.map (·.key)) { s with heap:=h',toks:=tk }) :
  wpAny (model P w) A (collect (.ref d)) R E s:=by
 refine za0 fun gG=>?_;obtain ⟨od,d1,d2,d3⟩:=id hm;refine gG ?_;clear gG;have hd : d < s.heap.objs.size:=by2 d1;unfold collect;refine ay0 (wpAny_runValue (iy0 entry_proto_collect' ?_));rw [fy8 PySem.F.plain_proto_collect _];show wpAny _ A.in1 (newList [] >>= fun l=>again (.builtin "list.__iadd__" ⟨[l,.ref d],[]⟩)) _ _ s;refine ay0 (ey5 ?_);refine ay1 ⟨ky2 sy4 _,iy0 entry_list_iadd' ?_⟩;rw [fy8 sy4 _];have hS1 : (s.heap.push { cls:=.type "list",data:=.seq ([] : List Value).toArray }).get? s.heap.objs.size = some (zp7 #[] 0):=ay7 _ rfl;show wpAny _ A.in1 (jy6 (.ref s.heap.objs.size) (.ref d) (.ref s.heap.objs.size)) _ _ _;generalize hs0 : ({ s with heap:=s.heap.push { cls:=.type "list",data:=.seq ([] : List Value).toArray } } : Shared) = s0;have hh0 : s0.heap = s.heap.push { cls:=.type "list",data:=.seq ([] : List Value).toArray }:=by rw [<- hs0]
 have hm0 : zI2 s0.heap d es ep:=hm.move fun o e=>by rw [hh0]; exact ay2 _ e
 have ty : s0.TypeIs (.ref d) "dict" := ⟨od,by rw [hh0]; exact ay2 _ d1,d2.1⟩
 have key : ∀ (h : Heap) (c1 tk : Nat),(∀ b o,b ≠ s.heap.objs.size->(s0.heap.push { cls:=.type "dict_keyiterator",data:=.fields #[.ref d,.int 0 0,.int es.size 0,.int ep 0] }).get? b = some o->h.get? b = some o) ->
   h.get? s.heap.objs.size = some (zp7 #[] c1)->ly4 (model P w) A (.builtin "list.extend.loop" ⟨[.ref s.heap.objs.size,.ref s0.heap.objs.size,.ref s.heap.objs.size],[]⟩)
    (fun (q : Result) (s' : Shared)=>∃ (h' : Heap) (tk : Nat) (c' : Nat),q = .ok (.ret (.ref s.heap.objs.size)) /\ s' = { s with heap:=h',toks:=tk } /\ (∀ b o,s.heap.get? b = some o->h'.get? b = some o) /\ h'.get? s.heap.objs.size = some (zp7 (es.toList.map (·.key)).toArray c')) { s with heap:=h,toks:=tk }:=by
  intro h c1 tk hk hS1;have hz : s0.heap.objs.size = s.heap.objs.size + 1:=by rw [hh0,ny2]
  have hI:=hk s0.heap.objs.size _ (by omega) (ay7 _ rfl);have hSI : s.heap.objs.size ≠ s0.heap.objs.size:=by omega
  have hdI : d ≠ s0.heap.objs.size:=by8 (by6 hd (by rw [hz]; exact uy2 _))
  exact zb66 (s:=s) (h1:=s.heap) hh hSI (by8 hd) hdI hn _ (fun h' tk' c hk' hS'=>⟨h',tk',c,rfl,rfl,fun b o e=>hk' b o (by8 (by2 e)) (by8 (by6 (by2 e) (by rw [hz]; exact uy2 _))) e,hS'⟩)
   es.size 0 h tk c1 (by omega) ⟨_,hI,rfl,rfl⟩ (hm.move fun o e=>hk d o (by8 hd) (ay2 _ (by rw [hh0]; exact ay2 _ e))) (fun b o hb _ e=>hk b o hb (ay2 _ (by rw [hh0]; exact ay2 _ e))) (by simpa using hS1)
 have hS0 : s0.heap.get? s.heap.objs.size = some (zp7 #[] 0):=by rw [hh0]; exact hS1
 have ext : wpAny (model P w) A.in1 (jy6 (.ref s.heap.objs.size) (.ref d) (.ref s.heap.objs.size))
   (fun fin s'=>match fin with | .done f=>∃ (h' : Heap) (tk : Nat) (c' : Nat),f = .ret (.ref s.heap.objs.size) /\ s' = { s with heap:=h',toks:=tk } /\ (∀ b o,s.heap.get? b = some o->h'.get? b = some o) /\ h'.get? s.heap.objs.size = some (zp7 (es.toList.map (·.key)).toArray c') | .again c'=>c'.quiet = true /\ ly4 (model P w) A c' (fun (q : Result) (s' : Shared)=>∃ (h' : Heap) (tk : Nat) (c' : Nat),q = .ok (.ret (.ref s.heap.objs.size)) /\ s' = { s with heap:=h',toks:=tk } /\ (∀ b o,s.heap.get? b = some o->h'.get? b = some o) /\ h'.get? s.heap.objs.size = some (zp7 (es.toList.map (·.key)).toArray c')) s') (fun _ _=>False) s0:=by
  unfold Builtin.List.listExtendWith;refine ay0 (uy1 (T := "dict") ty ?_);have g1 : ry9 (.ref s.heap.objs.size) (.ref d) = false:=by simp [ry9,my2 hd]
  have g2 : (py6 "dict" == py6 "list") = false:=by decide
  have g3 : (py6 "dict" == py6 "tuple") = false:=by decide
  simp only [g1,g2,g3,Bool.or_false,jy0,if_false];refine ay0 (zQ4 hsm hm0 ?_);have hS2:=ay2 { cls:=.type "dict_keyiterator",data:=.fields #[.ref d,.int 0 0,.int es.size 0,.int ep 0] } hS0;have es0 : ∀ (h : Heap),({ s0 with heap:=h } : Shared) = { s with heap:=h,toks:=s0.toks }:=fun h=>by rw [<- hs0]
  refine ay0 (fy1 (kdl_hint_dict (let ⟨o,ho,hc⟩:=ty; ⟨o,ay2 _ ho,hc⟩) ?_));refine ry7 (fun _=>?_) (fun _=>ay1 ⟨ky2 iy8 _,by rw [es0]; exact key _ 0 _ (fun b o _ e=>e) hS2⟩);refine ay0 (oy6 (ay0 ?_));show wpAny _ _ (updateSeq s.heap.objs.size (·.push .none) >>= fun _=>updateSeq s.heap.objs.size (·.pop)) _ _ _;refine ay0 (py3 hS2 rfl ?_);have hS3:=gy0 (hy9 (·.push dy6)) hS2 rfl;refine py3 (hz:=by seq_fits) hS3 rfl ?_;have hS4:=gy0 (hy9 (·.pop)) hS3 rfl;refine ay1 ⟨ky2 iy8 _,?_⟩;have:=key _ _ s0.toks (fun b o hb e=>(dy5 _ _ (fy2 hb)).trans ((dy5 _ _ (fy2 hb)).trans e)) hS4;rw [<- es0] at this;exact this
 refine fy6 ext (fun f s' x=>?_) fun e s' x=>x.elim;cases f with
 | done f =>
  refine za0 fun gG=>?_;obtain ⟨h',tk,c',e,rfl,hk,hS'⟩:=x;refine gG ?_;clear gG;cases e;show wpAny _ A (load s.heap.objs.size >>= _) _ _ _;refine ay0 (wpAny_load hS' (ay1 ?_));simpa using h h' tk hk
 | again c1 =>
  refine ⟨x.1,ty9 x.2 fun q s2 y=>?_⟩;refine za0 fun gG=>?_;obtain ⟨h',tk,c',rfl,rfl,hk,hS'⟩:=y;refine gG ?_;clear gG;show wpAny _ A (load s.heap.objs.size >>= _) _ _ _;refine ay0 (wpAny_load hS' (ay1 ?_));simpa using h h' tk hk
end
section
variable {X : Cx}
theorem zD3 (hc : X.calm = true) : zj8 X (.builtin "sorted") fun xs H Q=>∃ (d : Addr) (kvs : List (List Key × V)) (ps : List (Str × Str)),xs = [.ref d] /\ H d = some (.dT kvs) /\ kvs.map (·.1) = ps.map (fun p=>[.inr p.1,.inr p.2]) /\ ps.Nodup /\ ps.length < 64 /\
  ∀ (l : Addr) (bs : List Addr) (q : List Nat),H l = none->bs.length = ps.length->(∀ (j : Nat) b p,bs[j]? = some b->ps[j]? = some p->H b = some (.tup ([xy3 p.1,xy3 p.2].map kV)))->q.Perm (jy9 ps.length)->q.Pairwise (fun i j=>ltQ (ps.getD i default) (ps.getD j default) = true)->Q (.ref l) (upd H l (.lst (q.map fun i=>V.ref (bs.getD i 0)))):=by
 intro pins s σ H xs us Q I r ⟨d,kvs,ps,e,hd,hks,nd,h64,q⟩;subst e;refine za0 fun gG=>?_;obtain ⟨u,rfl,rx⟩:=vals1 r;refine gG ?_;clear gG;cases rx;refine za0 fun gG=>?_;obtain ⟨hz,hs,xs,pr,o,es,ep,g1,g2,g3,g4,g5⟩:=I.hok d _ hd;refine gG ?_;clear gG;have hkl : kvs.length = ps.length:=by have:=congrArg List.length hks; simpa using this
 have hxl : xs.length = ps.length:=by rw [<- pr.length,hkl]
 have hel : es.size = ps.length:=by rw [size_of_entries g4,hxl]
 generalize hbs : xs.map (fun x=>x.2.1) = bs;have hbl : bs.length = ps.length:=by rw [<- hbs,ay3,hxl]
 have hkey : es.toList.map (·.key) = bs.map cy9:=by rw [g4,<- hbs,ey6,ey6]; rfl
 have tup : ∀ (j : Nat) b p,bs[j]? = some b->ps[j]? = some p->H b = some (.tup ([xy3 p.1,xy3 p.2].map kV)):=fun j b p hb hp=>by
  rw [<- hbs,by1] at hb;refine za0 fun gG=>?_;obtain ⟨x,hx,rfl⟩:=fy7.mp hb;obtain ⟨kv,hkv,z1,z2,z3⟩:=ze8 pr hx;refine gG ?_;clear gG;have : (kvs.map (·.1))[j]? = some kv.1:=by rw [by1,hkv]; rfl
  rw [hks,by1,hp] at this;rw [<- (jy1 this)] at z2;exact z2
 have at2 : ∀ i,i < ps.length->∃ b,(bs.map cy9).getD i dy6 = .ref b /\ IsT2 s.heap b (ps.getD i default):=fun i hi=>by
  have hib : i < bs.length:=by omega
  have hp : ps[i]? = some ps[i]:=by5 hi;have z2:=tup i bs[i] ps[i] (by5 hib) hp;refine ⟨bs[i],by simp [ly8,hib],?_⟩;rw [show ps.getD i default = ps[i] by simp [ly8,hi]];refine za0 fun gG=>?_;obtain ⟨ws,rw',⟨o,g1,g2,n,g3⟩,_⟩:=I.tuple (SqT.of z2);refine gG ?_;clear gG
  obtain ⟨w1,w2,rfl,⟨t1,rfl⟩,⟨t2,rfl⟩⟩ : ∃ w1 w2,ws = [w1,w2] /\ RelV (.str ps[i].1) w1 /\ RelV (.str ps[i].2) w2:=by
   cases rw' with
   | cons a t=>cases t with
    | cons b t=>cases t; exact ⟨_,_,rfl,a,b⟩
  exact ⟨o,n,t1,t2,g1,g2,g3⟩
 refine Calls.call_function_entry kind_sorted plain_sorted entry_sorted (args_sorted1 _) ?_;unfold Builtin.«sorted»;refine ay0 (m:=checkCount "sorted" 1 1 _) (ay1 ?_);refine ay0 (zM5 (A:=X.A.in1) (by simpa using I.ok.hd hc) hs ⟨o,g1,g2,g3⟩ (by rw [hel,my9]; omega) fun h' tk k=>?_);rw [hkey];have hvl : (bs.map cy9).length = ps.length:=by rw [ay3,hbl]
 refine ay0 (wpAny_newList ?_ (by rw [hvl,my9]; omega));have hL : (h'.push (seqObj "list" (bs.map cy9).toArray 0)).get? h'.objs.size = some (seqObj "list" (bs.map cy9).toArray 0):=ay7 _ rfl;have mv : ∀ (h2 : Heap),(∀ b o,b ≠ h'.objs.size->(h'.push (seqObj "list" (bs.map cy9).toArray 0)).get? b = some o->h2.get? b = some o)->∀ {b p},IsT2 s.heap b p->IsT2 h2 b p:=fun h2 kp {b p} x=>x.move fun o z=>kp _ _ (by8 (by2 (k _ _ z))) (ay2 _ (k _ _ z));have O:=zc85 nd;rw [<- hvl] at O;refine ay0 (fy1 (dy4 slot_list_sort ⟨_,hL,rfl⟩ entry_list_sort (zz3 (κ:=tuples' true) O hL (by rw [hvl]; exact h64) (fun h2 s' Q' kp hQ=>?_) (fun h2 s' i j C kp hi hj hij hC=>?_) fun qq q1 q2=>⟨_,rfl,?_⟩) (args_list_sort _)))
 ·obtain ⟨fs,k1,k2,k3⟩ : ∃ fs,KatTups s'.heap (bs.map cy9) fs /\ fs.length = (bs.map cy9).length /\ ∀ v∈fs,∃ x t,v = .str x t:=by
   have : ∀ (l : List Value),(∀ v∈l,∃ b p,v = .ref b /\ IsT2 s'.heap b p)->∃ fs,KatTups s'.heap l fs /\ fs.length = l.length /\ ∀ v∈fs,∃ x t,v = .str x t:=by
    intro l
    induction l with
    | nil=>intro _; exact ⟨[],.nil,rfl,fun v hv=>absurd hv (by simp)⟩
    | cons a l ih =>
     intro h;refine za0 fun gG=>?_;obtain ⟨b,p,rfl,o,n,t,u,e1,e2,e3⟩:=h a ay9;obtain ⟨fs,f1,f2,f3⟩:=ih fun a ha=>h a (by0 _ ha);refine gG ?_;clear gG;refine ⟨.str p.1 t :: fs,.cons e1 e2 e3 rfl f1,by simp [f2],fun v hv=>?_⟩;rcases by7.mp hv with rfl | hv
     ·exact ⟨_,_,rfl⟩
     ·exact f3 v hv
   refine this _ fun v hv'=>?_;refine za0 fun gG=>?_;obtain ⟨i,hi,rfl⟩:=vy5.mp hv';obtain ⟨b,e1,e2⟩:=at2 i (by omega);refine gG ?_;clear gG;refine ⟨b,_,?_,mv s'.heap kp e2⟩;have hib : i < bs.length:=by simpa using hi
   simpa [ly8,hib] using e1
  refine kat_kind (T:=.type "str") k1 (by omega) (fun v hv'=>?_) (by decide) hQ;refine za0 fun gG=>?_;obtain ⟨x,t,rfl⟩:=k3 v hv';refine gG ?_;clear gG;exact fun A Q E s _ q=>uy1 rfl q
 ·rw [hvl] at hi hj;refine za0 fun gG=>?_;obtain ⟨b1,e1,x1⟩:=at2 i hi;obtain ⟨b2,e2,x2⟩:=at2 j hj;obtain ⟨o1,m1,t1,u1,f1,c1,d1⟩:=mv s'.heap kp x1;obtain ⟨o2,m2,t2,u2,f2,c2,d2⟩:=mv s'.heap kp x2;refine gG ?_;clear gG;unfold kas_ask;rw [e1,e2];refine kat_lt f1 d1 f2 d2 ?_;show KatLex _ _ _ _ _ _ [(.str (ps.getD i default).1 t1,.str (ps.getD j default).1 t2),(.str (ps.getD i default).2 u1,.str (ps.getD j default).2 u2)] 0 s';refine zc86 (fun z=>hij ?_) hC;have e : ∀ k (hk : k < ps.length),ps.getD k default = ps[k]:=fun k hk=>by simp [ly8,hk]
  have z' : ps.getD i default = ps.getD j default:=z;rw [e i hi,e j hj] at z';exact (iy4 nd).mp z'
 ·rw [hvl] at q1;refine za0 fun gG=>?_;obtain ⟨e,he⟩:=sortedHeap_at (out:=(qq.map fun i=>(bs.map cy9).getD i dy6).toArray) hL
  have hn : s.heap.get? h'.objs.size = none:=by
   cases z : s.heap.get? h'.objs.size with
   | none=>rfl
   | some o'=>exact absurd (by2 (k _ _ z)) (ny1 _)
  have hvq : Vals (qq.map fun i=>V.ref (bs.getD i 0)) (qq.map fun i=>(bs.map cy9).getD i dy6):=by
   have : ∀ l : List Nat,(∀ i∈l,i < bs.length)->Vals (l.map fun i=>V.ref (bs.getD i 0)) (l.map fun i=>(bs.map cy9).getD i dy6):=by
    intro l
    induction l with
    | nil=>intro _; exact .nil
    | cons i l ih =>
     intro hl;have hi:=hl i ay9;refine .cons ?_ (ih fun j hj=>hl j (by0 _ hj));show (bs.map cy9).getD i dy6 = cy9 (bs.getD i 0);simp [ly8,hi]
   exact this qq fun i hi=>by
    have:=q1.mem_iff.mp hi;rw [hbl];simpa using this
  obtain ⟨hH,I'⟩:=I.ze94 (a:=h'.objs.size) (o:=.lst (qq.map fun i=>V.ref (bs.getD i 0))) (h':=sortedHeap (h'.push (seqObj "list" (bs.map cy9).toArray 0)) h'.objs.size (bs.map cy9) (qq.map fun i=>(bs.map cy9).getD i dy6).toArray) (t':=tk) (fun b o' z=>by
   have hb:=by2 (k _ _ z);rw [sortedHeap_old (by8 hb) (by rw [size_push']; exact ly1 hb)]
   exact ay2 _ (k _ _ z)) hn (show zc1 X.prog X.w _ _ _ (.lst (qq.map fun i=>V.ref (bs.getD i 0))) from ⟨by rw [ay3,q1.length_eq,List.length_range,my9]; omega,_,e,hvq,by simpa [seqObj] using he⟩)
  refine gG ?_;clear gG;exact ay1 ⟨_,rfl,.ref h'.objs.size,_,I',rfl,q _ bs qq hH hbl tup q1 q2⟩
end
section
variable {X : Bc} {W : Wl} {k : KB}
theorem zM6 {j : Nat} {kvs : List (List Key × El)} {ps : List (Str × Str)} (hc : X.calm = true) (hj : W[j]? = some (.dT kvs)) (hk : kvs.map (·.1) = ps.map fun p=>[.inr p.1,.inr p.2]) (nd : ps.Nodup) (h64 : ps.length < 64)
  (h : ∀ ps' : List (Str × Str),ps'.Perm ps->ps'.Pairwise (fun a b=>ltQ a b = true)->k (.o W.length) (W++[.lst (zb4 (ps'.map fun p=>tupK [.inr p.1,.inr p.2]))])) : CB X (.builtin "sorted") [.o j] W k:=.of (zD3 hc) fun F A H Q vs r zs q=>by
 refine za0 fun gG=>?_;obtain ⟨v,rfl,a,ha,rfl⟩:=zi3 zs;obtain ⟨u,e,ws,rfl,p⟩:=r.obj j a _ ha hj;refine gG ?_;clear gG
 have hkeys : ws.map (·.1) = kvs.map (·.1):=by
  clear e hj hk h
  induction p with
  | nil=>rfl
  | cons a _ ih=>simp [ih,a.1]
 refine ⟨a,ws,ps,rfl,e,hkeys.trans hk,nd,h64,fun l bs qq hl hbl tup q1 q2=>?_⟩;have hql : ∀ i∈qq,i < ps.length:=fun i hi=>by have:=q1.mem_iff.mp hi; simpa using this
 refine za0 fun gG=>?_
 obtain ⟨F2,sF,eF,r2⟩:=r.zM0 ((jy9 ps.length).map fun i=>(bs.getD i 0,[xy3 (ps.getD i default).1,xy3 (ps.getD i default).2].map kV)) fun pp hpp=>by
  obtain ⟨i,hi,rfl⟩:=cy3.mp hpp;have hi : i < ps.length:=by simpa using hi
  have hib : i < bs.length:=by omega
  refine tup i _ _ ?_ ?_
  ·simp [ly8,hib]
  ·simp [ly8,hi]
 refine gG ?_;clear gG;have ext : Ext F A F2 A:=⟨sF,sy6 _⟩
 refine (q.ext ext).zX4 r2 hl (o:=.lst (zb4 ((qq.map fun i=>ps.getD i default).map fun p=>tupK [.inr p.1,.inr p.2]))) ⟨_,rfl,zg8 ?_⟩ (h _ (zz4 q1) (by
  rw [List.pairwise_map]
  exact q2))
 have : ∀ l : List Nat,(∀ i∈l,i < ps.length)->Paired (fun d v=>Rq X.K F2 v d) ((l.map fun i=>ps.getD i default).map fun p=>tupK [.inr p.1,.inr p.2]) (l.map fun i=>V.ref (bs.getD i 0)):=by
  intro l
  induction l with
  | nil=>intro _; exact .nil
  | cons i l ih =>
   intro hl';have hi:=hl' i ay9;refine .cons ?_ (ih fun j hj=>hl' j (by0 _ hj));exact Rq.tup (SqT.of (eF _ (cy3.mpr ⟨i,by simpa using hi,rfl⟩))) (Rqs.of zB8)
 exact this qq hql
theorem zc91 {ds : List PyData} {lo hi : Option Int} {ks : List Key} (hk : zm1 ds lo hi = ks.map zE7) (hl : ks.length < ds.length) (h : k (.p ks) W) : LB X (.d (.tuple ds)) lo hi W k:=.of zc05 fun F A H Q vx r zx q=>by
 refine za0 fun gG=>?_;obtain ⟨a,vs,rfl,hs,z⟩:=Rq.zg7 zx;refine gG ?_;clear gG;refine ⟨a,vs,rfl,r.sub.zt3 hs,fun hw=>?_,fun p hp=>?_⟩
 ·have h1:=congrArg List.length hk;rw [ay3] at h1;unfold zm1 at h1;rw [zb2 z,hw.1,hw.2] at h1;simp at h1;have:=zb2 z;omega
 ·have z':=zG6 z lo hi;rw [hk] at z'
  have ev : zK1 vs lo hi = ks.map kV:=by
   have : ∀ {ks : List Key} {vs : List V},Paired (fun d v=>Rq X.K F v d) (ks.map zE7) vs->vs = ks.map kV:=by
    intro ks
    induction ks with
    | nil=>intro vs h; cases h; rfl
    | cons a ks ih =>
     intro vs h;cases h with
     | cons x t =>
      rw [ih t,ey9]
      congr 1
      cases a with
      | inl i=>exact Rq.ze3 x
      | inr y=>exact Rq.zf7 x
   exact this z'
  rw [ev];obtain ⟨r',x⟩:=r.newF hp (.tup (ks.map kV));exact q _ _ _ _ (.p ks) _ x r' ⟨p,rfl,zb5⟩ h
end
end L2
namespace K1
open PySem L2
def top (i : Nat) : Stmt:=PySem.Challenge.pw_talehands_k16_beginnings_and_rests.main.body.getD i (.Pass ⟨0,0,0,0⟩)
abbrev zw9 : Stmt:=top 3
abbrev zI5 : Stmt:=top 6
abbrev zl0 : Stmt:=top 7
abbrev sCan : Stmt:=top 12
abbrev sDo : Stmt:=top 13
abbrev zo5 : Stmt:=top 14
abbrev zx0 : Stmt:=top 15
abbrev zh8 : Stmt:=top 17
abbrev zy4 : Stmt:=top 18
abbrev zi6 : Stmt:=top 20
abbrev ze1 : Stmt:=top 22
abbrev zD4 : Stmt:=top 23
abbrev zM7 : Stmt:=top 24
abbrev zt2 : Stmt:=top 26
abbrev zM8 : Stmt:=top 27
abbrev zx1 : Stmt:=top 28
abbrev zx2 : Stmt:=top 29
abbrev zh9 : Stmt:=top 30
abbrev zl1 : Stmt:=top 31
abbrev zM9 : Stmt:=top 32
abbrev sRow : Stmt:=top 33
abbrev zp8 : Stmt:=top 34
abbrev zp9 : Stmt:=top 35
abbrev zx3 : Stmt:=top 36
abbrev zD5 : Stmt:=top 37
abbrev zN0 : Stmt:=top 38
abbrev zo6 : Stmt:=top 39
abbrev zq0 : Stmt:=top 40
abbrev zx4 : Stmt:=top 41
abbrev sLaw : Stmt:=top 42
theorem zW1 : fy0 "isinstance" = some (.builtin "isinstance"):=by decide +kernel
theorem ze97 : fy0 "int" = some (.type "int"):=by decide +kernel
theorem zl2 : fy0 "tuple" = some (.type "tuple"):=by decide +kernel
theorem zl5 : fy0 "len" = some (.builtin "len"):=by decide +kernel
theorem zc92 : fy0 "all" = some (.builtin "all"):=by decide +kernel
theorem zb67 : fy0 "divmod" = some (.builtin "divmod"):=by decide +kernel
theorem ze98 : fy0 "sum" = some (.builtin "sum"):=by decide +kernel
theorem zt9 : fy0 "sorted" = some (.builtin "sorted"):=by decide +kernel
theorem ze06 : fy0 "str" = some (.type "str"):=by decide +kernel
theorem ze99 : fy0 "set" = some (.type "set"):=by decide +kernel
theorem za64 : fy0 "list" = some (.type "list"):=by decide +kernel
theorem ze07 : fy0 "bool" = some (.type "bool"):=by decide +kernel
theorem zf00 : fy0 "any" = some (.builtin "any"):=by decide +kernel
theorem zf01 : fy0 "min" = some (.builtin "min"):=by decide +kernel
structure Txt (mg : Str->Option Value) : Prop where
 isi : mg "isinstance" = none
 int_ : mg "int" = none
 tuple_ : mg "tuple" = none
 len_ : mg "len" = none
 all_ : mg "all" = none
 abs_ : mg "abs" = none
 range_ : mg "range" = none
 divmod_ : mg "divmod" = none
 sum_ : mg "sum" = none
 sorted_ : mg "sorted" = none
 str_ : mg "str" = none
 enum_ : mg "enumerate" = none
 max_ : mg "max" = none
 set_ : mg "set" = none
 bool_ : mg "bool" = none
 dict_ : mg "dict" = none
 list_ : mg "list" = none
 any_ : mg "any" = none
 min_ : mg "min" = none
structure Def (K : ay5) (mg : Str->Option Value) (x : Str) (st : Stmt) (f : Addr) (fd : ey7) (ps : List Str) : Prop where
 fn : Fun K x x st f fd
 bd : Binds K fd ps []
 at_ : mg x = some (.ref f)
def zN1 : Scope:={ kind:=.function,names:=[],isGenerator:=false,isCoroutine:=false }
theorem zb6 {n : Nat} (h : n <= 100000) : n <= by3:=ey1 h (by decide)
theorem zu0 {W : Wl} {a b : OD} : (W++[a]).set W.length b = W++[b]:=by simp
theorem zd7 {W : Wl} {a : OD} : (W++[a])[W.length]? = some a:=by simp
abbrev bits (n : Int) : Nat:=gy8 n
theorem zN2 {n : Int} {B : Nat} (h : n.natAbs < 2 ^ B) : bits n <= B:=by
 unfold bits gy8
 by_cases h0 : n = 0
 ·subst h0; simp
 ·rw [if_neg (by simpa using h0)];have hn : n.natAbs ≠ 0:=by omega
  have:=(Nat.log2_lt hn).mpr h;omega
def wl (n : Int) : OD:=.lst [.d (.int n)]
def zf4 (W : Wl) (p : Nat) : Prop:=∃ n,W[p]? = some (wl n) /\ 0 <= n
def zg1 (W : Wl) (p : Nat) (W' : Wl) : Prop:=∃ n,W' = W.set p (wl n) /\ 0 <= n
theorem zf4.lt {W : Wl} {p : Nat} (h : zf4 W p) : p < W.length:=by
 refine za0 fun gG=>?_;obtain ⟨n,h,_⟩:=h;refine gG ?_;clear gG;exact (ay4.mp h).1
theorem zg1.at {W W' : Wl} {p : Nat} (h : zg1 W p W') (hp : p < W.length) : zf4 W' p:=by
 refine za0 fun gG=>?_;obtain ⟨n,rfl,q⟩:=h;refine gG ?_;clear gG;exact ⟨n,by rw [gy3 hp],q⟩
theorem zf4.self {W : Wl} {p : Nat} (h : zf4 W p) : zg1 W p W:=by
 refine za0 fun gG=>?_;obtain ⟨n,e,q⟩:=h;refine gG ?_;clear gG;refine ⟨n,?_,q⟩;obtain ⟨hl,e⟩:=ay4.mp e;rw [<- e];exact (List.set_getElem_self hl).symm
theorem zg1.trans {W W1 W2 : Wl} {p : Nat} (h : zg1 W p W1) (h' : zg1 W1 p W2) : zg1 W p W2:=by
 refine za0 fun gG=>?_;obtain ⟨n,rfl,_⟩:=h;obtain ⟨n',rfl,q⟩:=h';refine gG ?_;clear gG;exact ⟨n',by rw [List.set_set],q⟩
theorem zg1.len {W W' : Wl} {p : Nat} (h : zg1 W p W') : W'.length = W.length:=by
 refine za0 fun gG=>?_;obtain ⟨n,rfl,_⟩:=h;refine gG ?_;clear gG;simp
theorem zg1.get {W W' : Wl} {p j : Nat} (h : zg1 W p W') (hj : j ≠ p) : W'[j]? = W[j]?:=by
 refine za0 fun gG=>?_;obtain ⟨n,rfl,_⟩:=h;refine gG ?_;clear gG;rw [cy6 (fy2 hj)]
theorem zg1.app {W W' V : Wl} {p : Nat} (h : zg1 (W++V) p W') (hp : p < W.length) : ∃ W0,W' = W0++V /\ zg1 W p W0:=by
 refine za0 fun gG=>?_;obtain ⟨n,rfl,q⟩:=h;refine gG ?_;clear gG;exact ⟨W.set p (wl n),by rw [vy6 _ _ hp],n,rfl,q⟩
theorem zg1.closed {W W' : Wl} {p : Nat} (h : zg1 W p W') (hc : closed W) : L2.closed W':=by
 refine za0 fun gG=>?_;obtain ⟨n,rfl,_⟩:=h;refine gG ?_;clear gG
 exact hc.set p fun e he=>by
  simp at he;subst he;trivial
theorem zf4.app {W V : Wl} {p : Nat} (h : zf4 W p) : zf4 (W++V) p:=by
 refine za0 fun gG=>?_;obtain ⟨n,e,q⟩:=h;refine gG ?_;clear gG;exact ⟨n,by rw [ay8 (ay4.mp e).1]; exact e,q⟩
theorem zg1.last {U W' : Wl} {o : OD} (h : zg1 (U++[o]) U.length W') : ∃ n,W' = U++[wl n] /\ 0 <= n:=by
 refine za0 fun gG=>?_;obtain ⟨n,e,pb⟩:=h;refine gG ?_;clear gG;exact ⟨n,by rw [e]; simp,pb⟩
theorem zf4.last {U : Wl} {n : Int} (h : 0 <= n) : zf4 (U++[wl n]) U.length:=⟨n,by simp,h⟩
section
variable {P : cy7} {w : World} {K : ay5} {mg : Str->Option Value} {base : Heap}
theorem zb68 : (10 : Int) ^ (60 : Int).toNat = 1000000000000000000000000000000000000000000000000000000000000:=by decide
theorem ze08 : bits 693147180559945309417232121458176568075500134360255254120683 <= 2 ^ 20:=ey1 (zN2 (B:=200) (by decide)) (by decide)
theorem ze09 : bits 1000000000000000000000000000000000000000000000000000000000000 <= 2 ^ 20:=ey1 (zN2 (B:=200) (by decide)) (by decide)
def ze10 : RB:=fun as W k=>∃ n : Int,as = [.d (.int n)] /\ bits n <= 2 ^ 20 /\ ∀ m : Int,0 <= m->m < 1000000000000000000000000000000000000000000000000000000000000->k (.d (.int m)) W
theorem scMi : zb8 ["_law_cell"] ["_law_cell"] (za1 zt2):=⟨rfl,rfl,rfl,by decide +kernel,rfl,by decide +kernel,by decide +kernel⟩
theorem zb69 {f : Addr} {fd : ey7} (F : Fun K "_law_mixed" "_law_mixed" zt2 f fd) : zj0 P w K mg base CX0 1 f fd ["_law_cell"] (spB K ze10):=by
 refine zo8 F scMi (fun as W k hR=>by obtain ⟨n,e,_⟩:=hR; subst e; rfl) fun cc hr as W k hcl hR=>?_;refine za0 fun gG=>?_;obtain ⟨n,e,hb,hk⟩:=hR;subst e;refine gG ?_;clear gG;refine zb0 (zd3 (zf8 (zf8 (bv 0 rfl (zb1 (za17 ⟨hb,ze08⟩ (zf8 (zb1 (zb1 (zc13 ⟨by decide,by decide,by decide⟩ (zd76 (by decide) ?_)))))))))));rw [zb68];exact hk _ (Int.emod_nonneg _ (by decide)) (Int.emod_lt_of_pos _ (by decide))
abbrev pPa : List Str:=["_law_script", "_law_k"]
abbrev nPk : List Str:=["_law_script", "_law_k", "_law_found", "_law_cell"]
theorem scPk : zb8 nPk pPa (za1 zM8):=⟨rfl,rfl,rfl,by decide +kernel,rfl,by decide +kernel,by decide +kernel⟩
theorem ndPk : nPk.Nodup:=by decide +kernel
def zf03 : RB:=fun as W k=>∃ (ns : List Int) (j : Int),as = [.s ns,.d (.int j)] /\ (∀ m∈ns,bits m <= 2 ^ 20) /\ ns.length <= 63 /\ ∀ n : Int,0 <= n->k (.o W.length) (W++[wl n])
theorem zc93 {α : Type} {xs : List α} {lo hi : Option Int} {x : α} (h : x∈zm1 xs lo hi) : x∈xs:=List.mem_of_mem_drop (hy4 h)
theorem zr4 {α : Type} (xs : List α) (lo hi : Option Int) : (zm1 xs lo hi).length <= xs.length:=by
 unfold zm1;rw [dy1,wy1];omega
theorem zW2 {i : Nat} {n m : Int} (h0 : 0 <= n) (h : n.natAbs < 2 ^ (200 * i)) (m0 : 0 <= m) (m1 : m < 1000000000000000000000000000000000000000000000000000000000000) : (n * 1000000000000000000000000000000000000000000000000000000000000 + m).natAbs < 2 ^ (200 * (i + 1)):=by
 have e : 2 ^ (200 * (i + 1)) = 2 ^ (200 * i) * 2 ^ 200:=by rw [Nat.mul_add,Nat.pow_add]
 rw [e,show (2 : Nat) ^ 200 = 1606938044258990275541962092341162602522202993782792835301376 by decide];generalize 2 ^ (200 * i) = X at *;omega
theorem zc94 {f fM : Addr} {fd dM : ey7} (F : Fun K "_law_pack" "_law_pack" zM8 f fd) (DM : Def K mg "_law_mixed" zt2 fM dM ["_law_cell"]) : zj0 P w K mg base CX0 2 f fd pPa (spB K zf03):=by
 have N:=@zb69 P w K mg base _ _ DM.fn;refine zo8 F scPk (fun as W k hR=>by obtain ⟨ns,j,e,_⟩:=hR; subst e; rfl) fun cc hr as W k hcl hR=>?_;refine exE2 hR fun ns j qA=>?_;clear hR;refine anE4 qA fun e hb hl hk=>?_;clear qA;subst e;have hlen : ∀ lo hi,((zm1 ns lo hi).map PyData.int).length <= 63:=fun lo hi=>by rw [ay3]; exact ey1 (zr4 _ _ _) hl
 refine za4 (zc0 (i:=2) ndPk rfl (Or.inl rfl) (zb1 ?_));refine za4 (zs9 ly9 rfl (zw0 (zc8 (bv 0 rfl (zd0 (bv 1 rfl ⟨j,rfl,zd0 (zf8 (bv 1 rfl (zb1 (zn6 ⟨_,rfl,za30 ⟨_,rfl,W.length,fun i S' W'=>W' = W /\ ∃ (n : Int) (o3 : Option El),S' = [some (.s ns),some (.d (.int j)),some (.d (.int n)),o3] /\ 0 <= n /\ n.natAbs < 2 ^ (200 * i),ay6 _,dy9 _,ay6 _,⟨rfl,0,none,rfl,by decide,by decide⟩,fun _ _ _ _ _=>trivial,?_,?_⟩⟩))))⟩))))))
 ·intro i d S' W' hd gX;refine za0 fun gG=>?_;obtain ⟨rfl,n,o3,rfl,h0,hn⟩:=gX;refine gG ?_;clear gG;have hi : i < 63:=by6 (ay4.mp hd).1 (hlen _ _);rw [by1] at hd;cases hc : (zm1 ns (some j) (some (j + 2)))[i]? with
  | none=>rw [hc] at hd; cases hd
  | some c =>
   rw [hc] at hd;cases hd;have hnb : bits n <= 2 ^ 20:=ey1 (zN2 hn) (by omega);refine zm2 (i:=3) ndPk rfl (Or.inl rfl) ?_;refine zb0 (zc0 (i:=2) ndPk rfl (Or.inl rfl) (zf8 (zf8 (bv 2 rfl (zf8 (zb1 (zb1 (zc13 ⟨by decide,by decide,by decide⟩ (za17 ⟨hnb,by rw [zb68]; exact ze09⟩ (za6 N (hr.mono (by decide)) rfl DM.at_ DM.fn.kp DM.bd (za2 (bv 3 rfl ⟨c,rfl,hb c (zc93 (cy8 hc)),fun m m0 m1=>zn6 ⟨rfl,_,_,rfl,?_,?_⟩⟩))))))))))))
   ·rw [zb68]; omega
   ·rw [zb68]; exact zW2 h0 hn m0 m1
 ·intro S' W' gX;refine za0 fun gG=>?_;obtain ⟨rfl,n,o3,rfl,h0,hn⟩:=gX;refine gG ?_;clear gG;exact zb0 (zd3 (zq8 (za2 (bv 2 rfl ⟨(by show 1 <= by3; decide),hk n h0⟩))))
def zf04 : RB:=fun as W k=>∃ (p : Nat) (n : Int),as = [.o p,.d (.int n)] /\ zf4 W p /\ 1 <= n /\ n <= 1000000 /\ ∀ r W',0 <= r->r < n->zg1 W p W'->k (.d (.int r)) W'
abbrev pTk : List Str:=["_law_pack_here", "_law_size"]
abbrev nTk : List Str:=["_law_pack_here", "_law_size", "_law_digit"]
theorem scTk : zb8 nTk pTk (za1 zx1):=⟨rfl,rfl,rfl,by decide +kernel,rfl,by decide +kernel,by decide +kernel⟩
theorem ndTk : nTk.Nodup:=by decide +kernel
theorem zr5 {f : Addr} {fd : ey7} (F : Fun K "_law_take" "_law_take" zx1 f fd) (T : Txt mg) : zj0 P w K mg base CX0 1 f fd pTk (spB K zf04):=by
 refine zo8 F scTk (fun as W k hR=>by obtain ⟨p,n,e,_⟩:=hR; subst e; rfl) fun cc hr as W k hcl hR=>?_;refine za0 fun gG=>?_;obtain ⟨p,n,e,⟨a,hp,ha0⟩,hn1,hn2,hk⟩:=hR;subst e;refine gG ?_;clear gG;refine za4 (zp2 (zb9 rfl T.divmod_ zb67 (za3 (zd9 (by intro _ _; rfl) (bv 0 rfl (zb1 (zs5 hp (e:=.d (.int a)) rfl (za2 (bv 1 rfl (za23 ⟨by omega,by omega⟩ (zc76 rfl (zP7 (zy7 (bv 0 rfl (zb1 (zd87 hp (m:=0) rfl (zP7 (zm2 (i:=2) ndTk rfl (Or.inl rfl) (zc75 ?_)))))))))))))))))));exact zb0 (zd3 (bv 2 rfl (hk _ _ (Int.emod_nonneg _ (by omega)) (Int.emod_lt_of_pos _ (by omega)) ⟨a / n,rfl,Int.ediv_nonneg ha0 (by omega)⟩)))
end
theorem rng (m : Nat) : zm3 0 (m : Int).toNat = (jy9 m).map fun (k : Nat)=>PyData.int (k : Int):=by
 unfold zm3;simp
structure zc95 (hs : List Str) : Prop where
 nm : ∀ x∈hs,isNm x = true
 nd : hs.Nodup
 two : 2 <= hs.length
 le : hs.length <= 8
def tb0 : List Str:=["a", "b", "c", "d", "e"]
def tb1 : List Str:=["ab", "a", "abc", "b", "bc"]
def tb2 : List Str:=["me", "you", "them", "abcdefgh", "u"]
def tb3 : List Str:=["zz", "z", "yz", "y", "zzzzzzzz"]
def tblH : List (List Str):=[tb0,tb1,tb2,tb3]
def zN3 (hs : List Str) : Prop:=∃ tb∈tblH,∃ m,m < 4 /\ hs = tb.take (2 + m)
theorem ze11 : ∀ tb∈tblH,tb.length = 5 /\ tb.all isNm = true /\ tb.Nodup:=by decide +kernel
theorem zN3.names {hs : List Str} (h : zN3 hs) : zc95 hs:=by
 refine za0 fun gG=>?_;obtain ⟨tb,ht,m,hm,rfl⟩:=h;obtain ⟨h1,h2,h3⟩:=ze11 tb ht;refine gG ?_;clear gG;exact ⟨fun x hx=>List.all_eq_true.mp h2 x (hy4 hx),h3.sublist (List.take_sublist _ _),by rw [dy1]; omega,by rw [dy1]; omega⟩
section
variable {P : cy7} {w : World} {K : ay5} {mg : Str->Option Value} {base : Heap}
def ze12 : RB:=fun as W k=>∃ p : Nat,as = [.o p] /\ zf4 W p /\ ∀ (hs : List Str) W',zN3 hs->zg1 W p W'->k (.d (.list (hs.map .str))) W'
abbrev nHa : List Str:=["_law_pack_here", "_law_some"]
theorem scHa : zb8 nHa ["_law_pack_here"] (za1 zx2):=⟨rfl,rfl,rfl,by decide +kernel,rfl,by decide +kernel,by decide +kernel⟩
theorem ndHa : nHa.Nodup:=by decide +kernel
def lE (l : List Str) : El:=.d (.list (l.map .str))
theorem five : (5 : Nat) <= by3:=by decide
theorem zb70 {f fR : Addr} {fd dR : ey7} (F : Fun K "_law_hands" "_law_hands" zx2 f fd) (T : Txt mg) (DR : Def K mg "_law_take" zx1 fR dR pTk) : zj0 P w K mg base CX0 2 f fd ["_law_pack_here"] (spB K ze12):=by
 have N:=@zr5 P w K mg base _ _ DR.fn T;refine zo8 F scHa (fun as W k hR=>by obtain ⟨p,e,_⟩:=hR; subst e; rfl) fun cc hr as W k hcl hR=>?_;obtain ⟨p,e,hp,hk⟩:=hR;subst e;have hpl:=hp.lt;refine za4 ?_;refine zc0 (i:=1) ?_ ?_ ?_ ?_ ?_ ?_
 ·exact ndHa
 ·rfl
 ·exact Or.inl rfl
 rotate_left
 ·rfl
 ·exact .inl rfl
 refine zq8 ?_;refine za3 ?_;refine zg9 (za3 (zc6 (za3 (zc6 (za3 (zc6 (za3 (zc6 (za2 (zc6 ⟨tb0.map .str,rfl,five,?_⟩))))))))));refine za3 ?_;refine zg9 (za3 (zc6 (za3 (zc6 (za3 (zc6 (za3 (zc6 (za2 (zc6 ⟨tb1.map .str,rfl,five,?_⟩))))))))));refine za2 ?_;refine zg9 (za3 (zc6 (za3 (zc6 (za3 (zc6 (za3 (zc6 (za2 (zc6 ⟨tb2.map .str,rfl,five,(by show 3 <= by3; decide),?_⟩))))))))));refine za4 (ze9 (zn3 fy9 iy1 iy2 (bv 1 rfl ⟨.inl ⟨rfl,_,zd7⟩,za2 (zg9 (za3 (zc6 (za3 (zc6 (za3 (zc6 (za3 (zc6 (za2 (zc6 ⟨tb3.map .str,rfl,five,zh0 zd7 (by show 3 < by3; decide) ?_⟩)))))))))))⟩)));rw [zu0];obtain ⟨es,hes⟩ : ∃ es,es = tblH.map lE:=⟨_,rfl⟩
 change BSs _ _ _ (W++[OD.lst (tblH.map lE)]) _ _;rw [<- hes];have hW : ∀ V : Wl,zf4 (W++V) p:=fun V=>hp.app;refine zb0 (zg4 (zc8 (zd9 (by intro _ _; rfl) (bv 1 rfl (za6 N (hr.mono (by decide)) rfl DR.at_ DR.fn.kp DR.bd (za3 (bv 0 rfl (za2 (zb1 ⟨p,4,rfl,hW _,by decide,by decide,fun r W1 a0 a1 pw1=>?_⟩)))))))));obtain ⟨W1,rfl,qw1⟩:=pw1.app hpl;obtain ⟨q,rfl⟩ : ∃ n : Nat,r = n:=⟨r.toNat,by omega⟩
 obtain ⟨tb,htb⟩ : ∃ tb,tblH[q]? = some tb:=⟨tblH[q]'(by show q < 4; omega),by5 _⟩
 have hget : (W1++[OD.lst es])[W.length]? = some (OD.lst es):=by rw [<- qw1.len]; exact zd7
 refine zs5 (es:=es) hget (e:=lE tb) (zh7 (by rw [hes,by1,htb]; rfl)) ?_;refine ze4 (zd0 (zf8 (zb1 (za6 N (hr.mono (by decide)) rfl DR.at_ DR.fn.kp DR.bd (za3 (bv 0 rfl (za2 (zb1 ⟨p,4,rfl,(qw1.at hpl).app,by decide,by decide,fun r W2 b0 b1 pw2=>zn6 ⟨_,rfl,zG7 ?_⟩⟩))))))));obtain ⟨W2,rfl,qw2⟩:=pw2.app (by rw [qw1.len]; exact hpl);have pw:=qw1.trans qw2;obtain ⟨m,rfl⟩ : ∃ n : Nat,r = n:=⟨r.toNat,by omega⟩
 have e1 : (2 : Int) + (m : Int) = ((2 + m : Nat) : Int):=by omega
 rw [e1,zm4,<- qy2];exact ⟨_,W2,_,rfl,rfl,pw.len.symm,pw.closed hcl,hk _ _ ⟨tb,cy8 htb,m,by omega,rfl⟩ pw⟩
def wdsS : List Str:=["x", "y", "xy", "hello", "x"]
theorem ze15 : ∀ z∈wdsS,isNm z = true:=by decide +kernel
def zb71 : RB:=fun as W k=>∃ (p : Nat) (hs : List Str),as = [.o p,.d (.list (hs.map .str))] /\ zf4 W p /\ zc95 hs /\ ∀ (d : za7) W',d.tk = false->d.Ok->d.x∈hs->d.y∈hs->d.w∈wdsS->zg1 W p W'->k (.d (dP d)) W'
abbrev pSe : List Str:=["_law_pack_here", "_law_hands_here"]
abbrev nSe : List Str:=["_law_pack_here", "_law_hands_here", "_law_one", "_law_others", "_law_other"]
theorem scSe : zb8 nSe pSe (za1 zh9):=⟨rfl,rfl,rfl,by decide +kernel,rfl,by decide +kernel,by decide +kernel⟩
theorem ndSe : nSe.Nodup:=by decide +kernel
def cSe : Scope:=match za9 zh9 with
 | [_,.Assign _ (.ListComp _ _ sc _) _,_,_]=>sc
 | _=>zN1
theorem csSe : zb3 nSe (za1 zh9) ["_law_hand_here"] ["_law_one"] [2] cSe:=⟨rfl,by decide +kernel,by decide +kernel,by decide +kernel,rfl,by decide +kernel⟩
theorem ndSh : (["_law_hand_here", "_law_one"] : List Str).Nodup:=by decide +kernel
theorem zz5 {f fR : Addr} {fd dR : ey7} (F : Fun K "_law_sending" "_law_sending" zh9 f fd) (T : Txt mg) (DR : Def K mg "_law_take" zx1 fR dR pTk) : zj0 P w K mg base CX0 2 f fd pSe (spB K zb71):=by
 have N:=@zr5 P w K mg base _ _ DR.fn T;refine zo8 F scSe (fun as W k hR=>by obtain ⟨p,hs,e,_⟩:=hR; subst e; rfl) fun cc hr as W k hcl hR=>?_;refine exE2 hR fun p hs qA=>?_;clear hR;refine anE4 qA fun e hp hh hk=>?_;clear qA;subst e;have hpl:=hp.lt;have hhl:=hh.le;have hh2:=hh.two;refine za4 (zc0 (i:=2) ndSe rfl (Or.inr rfl) (zd9 (by intro _ _; rfl) (bv 1 rfl (za6 N (hr.mono (by decide)) rfl DR.at_ DR.fn.kp DR.bd (za3 (bv 0 rfl (za2 (zb9 rfl T.len_ zl5 (za2 (bv 1 rfl (zv9 (.inl rfl) ⟨p,_,rfl,hp,?_,?_,fun a W3 a0 a1 pw3=>?_⟩)))))))))))
 ·rw [ay3]; omega
 ·rw [ay3]; omega
 rw [ay3] at a1;obtain ⟨a,rfl⟩ : ∃ n : Nat,a = n:=⟨a.toNat,by omega⟩
 obtain ⟨x,hx⟩ : ∃ y,hs[a]? = some y:=⟨hs[a]'(by omega),by simp⟩
 have hxm:=cy8 hx;refine zv7 (d:=.str x) (zh7 (by simp [hx])) ?_;refine za4 (zL2 (i:=3) ndSe rfl (Or.inl rfl) rfl csSe (zw0 (bv 1 rfl ⟨_,rfl,zk2 (fun d=>match d with | .str y=>decide (y ≠ x) | _=>false) id trivial ?_ ?_ ?_⟩)))
 ·rw [ay3]; exact zb6 (by omega)
 ·intro d hd;refine za0 fun gG=>?_;obtain ⟨y,hy,rfl⟩:=cy3.mp hd;refine gG ?_;clear gG;refine ze2 (i:=0) ndSh rfl (by decide) (fun _ _ _ _ _=>Or.inl rfl) (fun _ _ _ _ _=>rfl) ⟨fun cl C ex s H=>?_,fun _ cl C ex s H=>bv 0 rfl ⟨rfl,rfl⟩⟩;exact ze0 rfl (bv 0 rfl (bv 1 rfl (za18 ⟨_,rfl,by simp,rfl⟩)))
 ·have e : ((hs.map hy3).filter (fun d=>match d with | .str y=>decide (y ≠ x) | _=>false)).map id = (hs.filter fun y=>decide (y ≠ x)).map .str:=by
   rw [List.map_id,xy1];rfl
  rw [e];have h0:=zU2 (x:=x) hh2 hh.nd;have hol : (hs.filter fun y=>decide (y ≠ x)).length <= hs.length:=qy1 _ _;refine za4 (zc0 (i:=4) ndSe rfl (Or.inl rfl) (zd9 (by intro _ _; rfl) (bv 3 rfl (za6 N (hr.mono (by decide)) rfl DR.at_ DR.fn.kp DR.bd (za3 (bv 0 rfl (za2 (zb9 rfl T.len_ zl5 (za2 (bv 3 rfl (zv9 (.inl rfl) ⟨p,_,rfl,pw3.at hpl,?_,?_,fun b W4 b0 b1 pw4=>?_⟩)))))))))))
  ·rw [ay3]; omega
  ·rw [ay3]; omega
  rw [ay3] at b1;obtain ⟨b,rfl⟩ : ∃ n : Nat,b = n:=⟨b.toNat,by omega⟩
  obtain ⟨y,hy⟩ : ∃ z,(hs.filter fun y=>decide (y ≠ x))[b]? = some z:=⟨(hs.filter fun y=>decide (y ≠ x))[b]'(by omega),by simp⟩
  have hym:=gy4.mp (cy8 hy);have pw4:=pw3.trans pw4;refine zv7 (d:=.str y) (zh7 (by rw [by1,hy]; rfl)) ?_;refine zb0 (zd3 (zm0 (za3 (zc6 (za3 (bv 2 rfl (za3 (bv 4 rfl (za2 (zd9 (by intro _ _; rfl) (zg9 (za3 (zc6 (za3 (zc6 (za3 (zc6 (za3 (zc6 (za2 (zc6 ⟨wdsS.map .str,rfl,five,za6 N (hr.mono (by decide)) rfl DR.at_ DR.fn.kp DR.bd (za3 (bv 0 rfl (za2 (zb1 ⟨p,5,rfl,pw4.at hpl,by decide,by decide,fun r W5 c0 c1 pw5=>?_⟩))))⟩)))))))))))))))))))));obtain ⟨c,rfl⟩ : ∃ n : Nat,r = n:=⟨r.toNat,by omega⟩
  obtain ⟨z,hz⟩ : ∃ z,wdsS[c]? = some z:=⟨wdsS[c]'(by show c < 5; omega),by5 _⟩
  refine zv7 (d:=.str z) (zh7 (by rw [by1,hz]; rfl)) ⟨[.str "send",.str x,.str y,.str z],rfl,(by show 4 <= by3; decide),hk ⟨false,x,y,z⟩ _ rfl ⟨hh.nm x hxm,hh.nm y hym.1,ze15 z (cy8 hz),?_⟩ hxm hym.1 (cy8 hz) (pw4.trans pw5)⟩;have:=hym.2;simp at this;exact fun z=>this z.symm
end
abbrev Pr:=Str × Str
abbrev prK (e : Pr) : List Key:=[.inr e.1,.inr e.2]
abbrev prD (e : Pr) : PyData:=tupK (prK e)
theorem zD6 {a b : Pr} (h : prK a = prK b) : a = b:=by
 injection h with h1 h2
 injection h2 with h2 _
 exact Prod.ext (ty7 h1) (ty7 h2)
abbrev Uw:=Pr × List Str
abbrev kvU (e : Uw) : List Key × El:=(prK e.1,.d (.list (e.2.map .str)))
def zr6 (L : List Uw) (x y : Str) : List Str:=((L.find? fun e=>decide (e.1 = (x,y))).map (·.2)).getD []
def zW3 (L : List Uw) (p : Pr) (ws : List Str) : List Uw:=if (L.any fun a=>decide (a.1 = p)) = true then L.map (fun a=>if a.1 = p then (a.1,ws) else a) else L++[(p,ws)]
theorem zI6 (L : List Uw) (x y : Str) : (zn4 (L.map kvU) [.inr x,.inr y]).getD (.d (.list [])) = .d (.list ((zr6 L x y).map .str)):=by
 unfold zn4 zr6;rw [List.find?_map]
 have : ((fun kv : List Key × El=>decide (kv.1 = [.inr x,.inr y])) ∘ kvU) = fun e : Uw=>decide (e.1 = (x,y)):=by
  funext e
  show decide (prK e.1 = prK (x,y)) = decide (e.1 = (x,y));rw [decide_eq_decide];exact ⟨zD6,fun h=>by rw [h]⟩
 rw [this];cases L.find? fun e=>decide (e.1 = (x,y)) <;> rfl
theorem zN4 (L : List Uw) (p : Pr) (ws : List Str) : zz2 (L.map kvU) (prK p) (.d (.list (ws.map .str))) = (zW3 L p ws).map kvU:=by
 have ha : ((L.map kvU).any fun a=>decide (a.1 = prK p)) = L.any fun a=>decide (a.1 = p):=by
  rw [List.any_map]
  congr 1
  funext a
  show decide (prK a.1 = prK p) = decide (a.1 = p);rw [decide_eq_decide];exact ⟨zD6,fun h=>by rw [h]⟩
 unfold zz2 zW3;rw [ha]
 split
 ·rw [ey6,ey6];refine ny0 fun a _=>?_;show (if (kvU a).1 = prK p then _ else _) = kvU (if a.1 = p then _ else _)
  by_cases h : a.1 = p
  ·rw [if_pos h,if_pos (by rw [<- h])]
  ·rw [if_neg h,if_neg (fun z=>h (zD6 z))]
 ·rw [gy1];rfl
theorem zx5 (L : List Uw) (p : Pr) (ws : List Str) : (zW3 L p ws).map (·.1) = if (L.any fun a=>decide (a.1 = p)) = true then L.map (·.1) else L.map (·.1)++[p]:=by
 unfold zW3
 split
 ·rw [ey6];refine ny0 fun a _=>?_;show (if a.1 = p then (a.1,ws) else a).1 = a.1
  split <;> rfl
 ·simp
theorem zc96 {L : List Uw} (nd : (L.map (·.1)).Nodup) (p : Pr) (ws : List Str) : ((zW3 L p ws).map (·.1)).Nodup:=by
 rw [zx5]
 split
 ·exact nd
 ·rename_i hn
  rw [List.nodup_append];refine ⟨nd,by simp,fun a ha b hb z=>hn ?_⟩;refine za0 fun gG=>?_;obtain ⟨c,hc,rfl⟩:=cy3.mp ha;refine gG ?_;clear gG;simp at hb;exact wy2.mpr ⟨c,hc,by simp [z.trans hb]⟩
theorem zQ9 {L : List Uw} {p : Pr} {ws : List Str} {e : Uw} (h : e∈zW3 L p ws) : e.1∈L.map (·.1) \/ e.1 = p:=by
 have : e.1∈(zW3 L p ws).map (·.1):=cy3.mpr ⟨e,h,rfl⟩;rw [zx5] at this
 split at this
 ·exact .inl this
 ·rcases ey0.mp this with z | z
  ·exact .inl z
  ·exact .inr (by simpa using z)
theorem zb72 (L : List Uw) (p : Pr) (ws : List Str) : (zW3 L p ws).length <= L.length + 1:=by
 have:=congrArg List.length (zx5 L p ws);rw [ay3] at this
 split at this
 ·rw [ay3] at this; omega
 ·rw [cy5,ay3] at this; simp at this; omega
theorem za65 (L : List Uw) (p : Pr) (ws : List Str) (x y : Str) : zr6 (zW3 L p ws) x y = if (x,y) = p then ws else zr6 L x y:=by
 have h1:=zI6 (zW3 L p ws) x y;rw [<- zN4,zQ8] at h1
 by_cases e : (x,y) = p
 ·rw [if_pos e];rw [if_pos (by rw [<- e])] at h1;injection h1 with h1
  injection h1 with h1
  have inj : ∀ a b : List Str,a.map hy3 = b.map hy3->a = b:=fun a b h=>List.map_inj_right (fun _ _ z=>by injection z) |>.mp h
  exact (inj _ _ h1).symm
 ·rw [if_neg e];rw [if_neg (fun z=>e (zD6 z)),zI6] at h1;injection h1 with h1
  injection h1 with h1
  have inj : ∀ a b : List Str,a.map hy3 = b.map hy3->a = b:=fun a b h=>List.map_inj_right (fun _ _ z=>by injection z) |>.mp h
  exact (inj _ _ h1).symm
theorem zq1 {e : Uw} : ∀ {L : List Uw},(L.map (·.1)).Nodup->e∈L->zr6 L e.1.1 e.1.2 = e.2
 | [],_,h=>by simp at h
 | a :: L,nd,h=>by
  simp only [ey9,ly5] at nd;unfold zr6;rw [iy5]
  by_cases ha : a.1 = e.1
  ·have : a = e:=by
    rcases by7.mp h with z | z
    ·exact z.symm
    ·exact absurd (cy3.mpr ⟨e,z,ha.symm⟩) nd.1
   subst this;simp
  ·have h' : e∈L:=(by7.mp h).resolve_left fun z=>ha (by rw [z]);have hd : decide (a.1 = (e.1.1,e.1.2)) = false:=decide_eq_false ha;rw [hd];exact zq1 nd.2 h'
structure ze7 (hs : List Str) (ds : List za7) : Prop where
 ok : ∀ d∈ds,d.Ok
 x : ∀ d∈ds,d.x∈hs
 y : ∀ d∈ds,d.y∈hs
theorem ze7.snoc {hs : List Str} {ds : List za7} (h : ze7 hs ds) {d : za7} (h1 : d.Ok) (h2 : d.x∈hs) (h3 : d.y∈hs) : ze7 hs (ds++[d]) :=
 ⟨fun e he=>(ey0.mp he).elim (h.ok e) fun z=>by simp at z; subst z; exact h1,fun e he=>(ey0.mp he).elim (h.x e) fun z=>by simp at z; subst z; exact h2,fun e he=>(ey0.mp he).elim (h.y e) fun z=>by simp at z; subst z; exact h3⟩
structure zX7 (K : ay5) (mg : Str->Option Value) (kA : Addr) : Prop where
 t : Txt mg
 letters : ∃ t,mg "LETTERS" = some (.str LET t)
 longest : ∃ t,mg "LONGEST_NAME" = some (.int 8 t)
 kinds : mg "KINDS" = some (.ref kA)
 kindsT : ∀ H,SqT K H kA [.str "send",.str "take"]
def nmD : PyData->Bool
 | .str x=>isNm x
 | _=>false
section
variable {P : cy7} {w : World} {K : ay5} {mg : Str->Option Value} {base : Heap} {kA : Addr}
def zI7 : PyData->Prop
 | .str x=>x.length <= by3
 | _=>True
def zf06 : RB:=fun es W k=>∃ d,es = [.d d] /\ zI7 d /\ k (.d (.bool (nmD d))) W
theorem ze16 : zb8 ["thing"] ["thing"] (za1 zw9):=⟨rfl,rfl,rfl,by decide +kernel,rfl,by decide +kernel,by decide +kernel⟩
def zf07 : Scope:=match za9 zw9 with
 | [_,.Return (some (.Call _ [.ListComp _ _ sc _] _ _)) _]=>sc
 | _=>{ kind:=.function,names:=[],isGenerator:=false,isCoroutine:=false }
theorem zc97 : (["sign"] : List Str).Nodup:=by decide +kernel
theorem ze17 : zb3 ["thing"] (za1 zw9) ["sign"] [] [] zf07:=⟨rfl,by decide +kernel,by decide +kernel,by decide +kernel,rfl,by decide +kernel⟩
theorem zz6 {x : Str} (h : ¬ 1 <= x.length \/ ¬ x.length <= 8) : isNm x = false:=by
 unfold isNm;rcases h with h | h <;> simp [h]
theorem zc98 {f : Addr} {fd : ey7} (F : Fun K "is_name" "is_name" zw9 f fd) (T : zX7 K mg kA) : zj0 P w K mg base CX0 1 f fd ["thing"] (spB K zf06):=by
 refine za0 fun gG=>?_;obtain ⟨tl,hlong⟩:=T.longest;obtain ⟨tt,hlet⟩:=T.letters;refine gG ?_;clear gG;refine zo8 F ze16 (fun es W k zR=>by obtain ⟨d,e,_⟩:=zR; subst e; rfl) fun cc hr es W k hcl zR=>?_;refine za0 fun gG=>?_;obtain ⟨d,e,hd,hk⟩:=zR;subst e;refine gG ?_;clear gG;refine za4 (zi4 (BW.bt (zG5 (zj1 (zf9 (zk1 rfl T.t.isi zW1 rfl T.t.str_ ze06 (by simp) (bv 0 rfl ⟨d,.inl rfl,_,rfl,?_⟩)))))));cases d with
 | str x =>
  refine zl6 (zs4 (zj1 (zb40 (zb1 (zb9 rfl T.t.len_ zl5 (za2 (bv 0 rfl (zc67 hd (zd77 ⟨_,rfl,?_⟩)))))))))
  by_cases h1 : 1 <= x.length
  ·rw [decide_eq_true (by omega)];refine zl9 (gI hlong (zd77 ⟨_,rfl,?_⟩))
   by_cases h2 : x.length <= 8
   ·rw [decide_eq_true (by omega)];refine zl6 (zh1 ?_);refine zb0 (zd3 (zb9 rfl T.t.all_ zc92 (za2 (zk7 rfl ze17 (zd88 (bv 0 rfl ⟨x,rfl,zz0 (fun d=>match d with | .str y=>.bool (y.cps.toList.all fun c=>decide (97 <= c) && decide (c <= 122)) | _=>.none) trivial ?_ ?_ ?_⟩))))))
    ·unfold zy8;rw [ay3];exact ey1 h2 (by decide)
    ·intro d hd';refine za0 fun gG=>?_;obtain ⟨c,hc,rfl⟩:=cy3.mp hd';refine gG ?_;clear gG;refine ze2 (i:=0) zc97 rfl (by decide) (fun _ _ _ _ _=>Or.inl rfl) (fun _ _ _ _ _=>rfl) fun cl C ex s H=>?_;refine zs3 rfl (bv 0 rfl (gS hlet (zd84 ⟨?_,rfl⟩)));rw [zd90];simp
    ·refine za24 rfl (bs:=x.cps.toList.map fun c=>(decide (97 <= c) && decide (c <= 122))) (.inl ?_) ?_
     ·unfold zy8;rw [ey6,ey6]
      congr 2
      apply ny0;intro c hc;simp
     ·have : nmD (.str x) = ((x.cps.toList.map fun c=>(decide (97 <= c) && decide (c <= 122))).all id):=by
       show isNm x = _;unfold isNm;rw [decide_eq_true h1,decide_eq_true h2,List.all_map];rfl
      rw [<- this];exact hk
   ·rw [decide_eq_false (by omega)];have : nmD (.str x) = false:=zz6 (.inr h2);rw [this] at hk;exact zl9 (zb0 (zd3 (zp1 hk)))
  ·rw [decide_eq_false (by omega)];have : nmD (.str x) = false:=zz6 (.inl h1);rw [this] at hk;exact zl6 (zl9 (zb0 (zd3 (zp1 hk))))
 | _=>exact zl9 (zl9 (zb0 (zd3 (zp1 hk))))
end
def kdD : PyData->Bool
 | .str x=>decide (x = "send" \/ x = "take")
 | _=>false
def neqD : PyData->PyData->Bool
 | .str x,.str y=>!decide (x = y)
 | _,_=>false
def za66 : PyData->Bool
 | .tuple [a,b,c,d]=>kdD a && (nmD b && nmD c && nmD d && neqD b c)
 | _=>false
def zc27 : PyData->Prop
 | .tuple ds=>∀ d∈ds,zI7 d
 | _=>True
section
variable {P : cy7} {w : World} {K : ay5} {mg : Str->Option Value} {base : Heap} {kA : Addr}
def zf08 : RB:=fun es W k=>∃ d,es = [.d d] /\ zc27 d /\ k (.d (.bool (za66 d))) W
abbrev nDd : List Str:=["thing", "kind", "giver", "taker", "word"]
theorem ze18 : zb8 nDd ["thing"] (za1 zI5):=⟨rfl,rfl,rfl,by decide +kernel,rfl,by decide +kernel,by decide +kernel⟩
theorem ndDd : nDd.Nodup:=by decide +kernel
theorem zN5 {X : Bc} {S : Sl} {W : Wl} {k : KB} {a b : Expr} {rest : List Expr} {pos : Pos} {c : Bool} (h : BE X S W a fun x W1=>x = .d (.bool c) /\ (c = true->BE X S W1 (.BoolOp .And (b :: rest) pos) k) /\ (c = false->k (.d (.bool false)) W1)) : BE X S W (.BoolOp .And (a :: b :: rest) pos) k :=
 zP0 (h.mono fun x W1 ⟨e,h1,h2⟩=>⟨c,e,by
  cases c with
  | true=>exact zl9 (h1 rfl)
  | false=>exact zl6 (h2 rfl)⟩)
theorem za67 {d : PyData} (h : nmD d = true) : ∃ x,d = .str x /\ isNm x = true:=by
 cases d with
 | str x=>exact ⟨x,rfl,h⟩
 | _=>cases h
theorem zc99 {f fN : Addr} {fd dN : ey7} (F : Fun K "is_deed" "is_deed" zI5 f fd) (T : zX7 K mg kA) (DN : Def K mg "is_name" zw9 fN dN ["thing"]) : zj0 P w K mg base CX0 2 f fd ["thing"] (spB K zf08):=by
 have N:=@zc98 P w K mg base kA _ _ DN.fn T;refine zo8 F ze18 (fun es W k zR=>by obtain ⟨d,e,_⟩:=zR; subst e; rfl) fun cc hr es W k hcl zR=>?_;refine za0 fun gG=>?_;obtain ⟨d,e,hd,hk⟩:=zR;subst e;refine gG ?_;clear gG;refine za4 (zi4 (BW.bt (zG5 (zj1 (zf9 (zk1 rfl T.t.isi zW1 rfl T.t.tuple_ zl2 (by simp) (bv 0 rfl ⟨d,.inl rfl,_,rfl,?_⟩)))))));cases d with
 | tuple ds =>
  refine zl6 (zs4 (ze0 rfl (zb9 rfl T.t.len_ zl5 (za2 (bv 0 rfl (zh4 (zb1 (zd81 ⟨_,rfl,?_⟩))))))))
  by_cases h4 : ds.length = 4
  ·rw [decide_eq_true (by omega)];refine zl6 (zh1 ?_)
   obtain ⟨a,b,c,e,rfl⟩ : ∃ a b c e,ds = [a,b,c,e]:=by
    match ds,h4 with
    | [a,b,c,e],_=>exact ⟨a,b,c,e,rfl⟩
   have hb : zI7 b:=hd b (by simp);have hc : zI7 c:=hd c (by simp);have he : zI7 e:=hd e (by simp);refine za4 (zp2 (bv 0 rfl (zH0 rfl (.cons (i:=1) ndDd rfl (Or.inl rfl) (.cons (i:=2) ndDd rfl (Or.inl rfl) (.cons (i:=3) ndDd rfl (Or.inl rfl) (.cons (i:=4) ndDd rfl (Or.inl rfl) .nil)))) rfl ?_)));refine za4 (zi4 (BW.bt (zG5 (zj1 (zf9 (zk1 rfl T.t.isi zW1 rfl T.t.str_ ze06 (by simp) (bv 1 rfl ⟨a,.inl rfl,_,rfl,?_⟩)))))));cases a with
   | str x =>
    refine zl6 (zs4 (ze0 rfl (bv 1 rfl (zK5 rfl T.kinds (show RelV (.ref kA) _ from rfl) (fun F=>Rq.tup (T.kindsT F) (.cons (.str _) (.cons (.str _) .nil))) (zc66 (xs:=["send", "take"]) (.inr rfl) ⟨_,rfl,?_⟩)))))
    by_cases hx : x∈(["send", "take"] : List Str)
    ·rw [decide_eq_true hx]
     have hx' : kdD (.str x) = true:=by
      show decide _ = true;simpa using hx
     have hD : za66 (.tuple [.str x,b,c,e]) = (nmD b && nmD c && nmD e && neqD b c):=by
      show (kdD (.str x) && _) = _;rw [hx',Bool.true_and]
     rw [hD] at hk;refine zl6 (zh1 (zb0 (zd3 ?_)));refine zN5 (za6 N (hr.mono (by decide)) rfl DN.at_ DN.fn.kp DN.bd (za2 (bv 2 rfl ⟨b,rfl,hb,rfl,fun h1=>?_,fun h1=>?_⟩)))
     ·refine zN5 (za6 N (hr.mono (by decide)) rfl DN.at_ DN.fn.kp DN.bd (za2 (bv 3 rfl ⟨c,rfl,hc,rfl,fun h2=>?_,fun h2=>?_⟩)))
      ·refine zN5 (za6 N (hr.mono (by decide)) rfl DN.at_ DN.fn.kp DN.bd (za2 (bv 4 rfl ⟨e,rfl,he,rfl,fun h3=>?_,fun h3=>?_⟩)))
       ·refine za0 fun gG=>?_;obtain ⟨y,rfl,_⟩:=za67 h1;obtain ⟨z,rfl,_⟩:=za67 h2;refine gG ?_;clear gG;refine zO9 (zs3 rfl (bv 2 rfl (bv 3 rfl (za18 ?_))));rw [h1,h2,h3] at hk;exact hk
       ·rw [h3,Bool.and_false,qy6] at hk;exact hk
      ·rw [h2,Bool.and_false,qy6,qy6] at hk;exact hk
     ·rw [h1,qy6,qy6,qy6] at hk;exact hk
    ·rw [decide_eq_false hx]
     have hx' : kdD (.str x) = false:=by
      show decide _ = false;simpa using hx
     have hD : za66 (.tuple [.str x,b,c,e]) = false:=by
      show (kdD (.str x) && _) = _;rw [hx',qy6]
     rw [hD] at hk;exact zl9 (zb0 (zd3 (zp1 hk)))
   | _=>exact zl9 (zl9 (zb0 (zd3 (zp1 hk))))
  ·rw [decide_eq_false (by omega)]
   have hD : za66 (.tuple ds) = false:=by
    match ds,h4 with
    | [],_=>rfl
    | [_],_=>rfl
    | [_,_],_=>rfl
    | [_,_,_],_=>rfl
    | [_,_,_,_],h=>exact absurd rfl h
    | _ :: _ :: _ :: _ :: _ :: _,_=>rfl
   rw [hD] at hk;exact zl9 (zb0 (zd3 (zp1 hk)))
 | _=>exact zl9 (zl9 (zb0 (zd3 (zp1 hk))))
end
structure Ln where
 x : Str
 y : Str
 j : Nat
 ws : List Str
abbrev Ln.key (e : Ln) : List Key:=[.inr e.x,.inr e.y]
def zf0 (L : List Ln) (x y : Str) : Option Ln:=L.find? fun e=>decide (e.key = [.inr x,.inr y])
def zi7 (L : List Ln) (x y : Str) : List Str:=((zf0 L x y).map (·.ws)).getD []
structure zf1 (W : Wl) (q : Nat) (L : List Ln) : Prop where
 at_ : W[q]? = some (.dT (L.map fun e=>(e.key,El.o e.j)))
 obj : ∀ e∈L,W[e.j]? = some (.lst (zb4 (e.ws.map .str)))
 nd : (L.map (·.j)).Nodup
 nq : ∀ e∈L,e.j ≠ q
theorem zD7 (L : List Ln) (x y : Str) : zn4 (L.map fun e=>(e.key,El.o e.j)) [.inr x,.inr y] = (zf0 L x y).map fun e=>El.o e.j:=by
 unfold zn4 zf0;rw [List.find?_map,Option.map_map];rfl
theorem zl3 {L : List Ln} {x y : Str} {e : Ln} (h : zf0 L x y = some e) : e∈L /\ e.x = x /\ e.y = y:=by
 have h1:=List.mem_of_find?_eq_some h;have h2:=List.find?_some h;simp at h2;exact ⟨h1,h2.1,h2.2⟩
section
variable {P : cy7} {w : World} {K : ay5} {mg : Str->Option Value} {base : Heap} {kA : Addr}
def rCan : RB:=fun as W k=>∃ (q : Nat) (d : za7) (L : List Ln),as = [.o q,.d (dP d)] /\ d.Ok /\ zf1 W q L /\ (∀ e∈L,∀ z∈e.ws,uy4 z = true) /\ k (.d (.bool (!d.tk || decide ((zi7 L d.x d.y).take 1 = [d.w])))) W
abbrev nCa : List Str:=["lines", "deed", "kind", "giver", "taker", "word"]
theorem scCa : zb8 nCa ["lines", "deed"] (za1 sCan):=⟨rfl,rfl,rfl,by decide +kernel,rfl,by decide +kernel,by decide +kernel⟩
theorem ndCa : nCa.Nodup:=by decide +kernel
theorem zc28 {f : Addr} {fd : ey7} (F : Fun K "can_be_done" "can_be_done" sCan f fd) (T : zX7 K mg kA) : zj0 P w K mg base CX0 1 f fd ["lines", "deed"] (spB K rCan):=by
 refine zo8 F scCa (fun as W k hR=>by obtain ⟨q,d,L,e,_⟩:=hR; subst e; rfl) fun cc hr as W k hcl hR=>?_;refine exE3 hR fun q d L qA=>?_;clear hR;refine anE5 qA fun e hok hL hsk hk=>?_;clear qA;subst e;refine za4 (zp2 (bv 1 rfl (zH0 rfl (.cons (i:=2) ndCa rfl (Or.inl rfl) (.cons (i:=3) ndCa rfl (Or.inl rfl) (.cons (i:=4) ndCa rfl (Or.inl rfl) (.cons (i:=5) ndCa rfl (Or.inl rfl) .nil)))) rfl ?_)));refine zb0 (zd3 (ze85 (zs3 rfl (bv 2 rfl (zc6 (zn7 ⟨_,rfl,?_⟩))))))
 by_cases ht : d.tk = true
 ·have hkd : d.kd ≠ "send" := by
   unfold za7.kd;rw [ht];decide +kernel
  rw [decide_eq_false hkd];rw [ht] at hk;refine zl6 (zO9 (zs3 rfl (zc8 (zn3 iy3 qy4 uy9 (bv 0 rfl ⟨.inr ⟨rfl,.inr ⟨_,hL.at_⟩⟩,za3 (zm0 (za3 (bv 3 rfl (za2 (bv 4 rfl ⟨[.str d.x,.str d.y],rfl,(by show 2 <= by3; decide),?_⟩)))))⟩)))));refine za2 (zg9 (zk0 ⟨[],rfl,dy9 _,zt8 (ks:=[.inr d.x,.inr d.y]) hr.units hL.at_ ?_⟩));rw [zD7]
  have fin : ∀ zs : List Str,(∀ z∈zs,uy4 z = true)->zi7 L d.x d.y = zs->BE (mkB nCa "can_be_done" (za1 sCan) P w K mg base f cc) [some (.o q),some (.d (dP d)),some (.d (.str d.kd)),some (.d (.str d.x)),some (.d (.str d.y)),some (.d (.str d.w))] W (match za9 sCan with | [_,.Return (some (.BoolOp _ [_,.Compare _ _ [r] _] _)) _]=>r | _=>.Constant .none 0 ⟨0,0,0,0⟩) (fun y W2=>OB (mkB nCa "can_be_done" (za1 sCan) P w K mg base f cc) (gy5 .Eq) (.d (.list ((zs.take 1).map .str))) y W2 k):=fun zs hz hw=>by
   refine zg9 (za2 (bv 5 rfl ⟨[.str d.w],rfl,(by show 1 <= by3; decide),zd79 hr.units (d:=.list ((zs.take 1).map .str)) (e:=.list ([d.w].map .str)) (.inl rfl) (.inl rfl) (zm9 fun z h=>hz z (hy4 h)) (zm9 (by simp [zj2 hok.w])) ?_⟩));rw [show py8 (.list ((zs.take 1).map .str)) (.list ([d.w].map .str)) = decide (zs.take 1 = [d.w]) by simp only [py8]; exact zB5 _ _,<- hw];simpa using hk
  cases hf : zf0 L d.x d.y with
  | none =>
   refine ze4 (zd0 (zb1 ⟨1,rfl,zG7 ?_⟩));have:=fin [] (by simp) (by unfold zi7; rw [hf]; rfl);rw [show zm1 ([] : List PyData) none (some 1) = [] from zm4 [] 1];exact this
  | some e =>
   refine za0 fun gG=>?_;obtain ⟨he,hx,hy⟩:=zl3 hf;refine gG ?_;clear gG;refine ze4 (zd0 (zb1 ⟨1,rfl,za15 (hL.obj e he) ?_⟩));have:=fin e.ws (hsk e he) (by unfold zi7; rw [hf]; rfl);rw [show zm1 (e.ws.map hy3) none (some 1) = (e.ws.take 1).map .str by rw [qy2]; exact zm4 _ 1];exact this
 ·have ht : d.tk = false:=by simpa using ht
  have hkd : d.kd = "send" := by unfold za7.kd; rw [ht]; rfl
  rw [decide_eq_true hkd];rw [ht] at hk;exact zl9 hk
end
structure zj5 (m : Nat) (L : List Ln) : Prop where
 len : L.length <= m
 ws : ∀ e∈L,e.ws.length <= m /\ ∀ z∈e.ws,isNm z = true
theorem zj5.sok {m : Nat} {L : List Ln} (h : zj5 m L) : ∀ e∈L,∀ z∈e.ws,uy4 z = true:=fun e he z hz=>zj2 ((h.ws e he).2 z hz)
def zh5 (d : za7) (ws : List Str) : List Str:=if d.tk then ws.tail else ws++[d.w]
structure Step (L : List Ln) (d : za7) (L' : List Ln) : Prop where
 here : (zf0 L' d.x d.y).map (·.ws) = some (zh5 d (zi7 L d.x d.y))
 else_ : ∀ x y,¬ (x = d.x /\ y = d.y)->(zf0 L' x y).map (·.ws) = (zf0 L x y).map (·.ws)
def Frame (W : Wl) (q : Nat) (L : List Ln) (W' : Wl) : Prop:=W.length <= W'.length /\ ∀ i,i < W.length->i ≠ q->(∀ e∈L,e.j ≠ i)->W'[i]? = W[i]?
def putL (L : List Ln) (x y : Str) (ws : List Str) : List Ln:=L.map fun e=>if e.key = [.inr x,.inr y] then { e with ws:=ws } else e
theorem zR0 (L : List Ln) (x y : Str) (ws : List Str) (x' y' : Str) : zf0 (putL L x y ws) x' y' = (zf0 L x' y').map fun e=>if e.key = [.inr x,.inr y] then { e with ws:=ws } else e:=by
 unfold zf0 putL;rw [List.find?_map]
 congr 1
 apply congrArg (fun p=>List.find? p L)
 funext e
 simp only [Function.comp]
 split <;> rfl
theorem za68 {L : List Ln} {n : Ln} {x y : Str} (h : zf0 L x y = none) : zf0 (L++[n]) x y = if n.key = [.inr x,.inr y] then some n else none:=by
 unfold zf0 at *;rw [List.find?_append,h];simp [iy5]
 split <;> simp_all
theorem zW4 {L : List Ln} {n : Ln} {x y : Str} (h : ¬ n.key = [.inr x,.inr y]) : zf0 (L++[n]) x y = zf0 L x y:=by
 unfold zf0;rw [List.find?_append,show List.find? (fun e : Ln=>decide (e.key = [.inr x,.inr y])) [n] = none by rw [iy5]; simp only [decide_eq_false h]; rfl];simp
theorem zb73 (L : List Ln) (x y : Str) (ws : List Str) : (putL L x y ws).map (fun e=>(e.key,El.o e.j)) = L.map fun e=>(e.key,El.o e.j):=by
 unfold putL;rw [ey6];apply ny0;intro e he;simp only [Function.comp]
 split <;> rfl
theorem ze19 (L : List Ln) (x y : Str) (ws : List Str) : (putL L x y ws).map (·.j) = L.map (·.j):=by
 unfold putL;rw [ey6];apply ny0;intro e he;simp only [Function.comp]
 split <;> rfl
theorem zf09 {L : List Ln} (nd : (L.map (·.j)).Nodup) {a b : Ln} (ha : a∈L) (hb : b∈L) (h : a.j = b.j) : a = b:=by
 induction L with
 | nil=>simp at ha
 | cons c L ih =>
  rw [ey9,ly5] at nd;have no : ∀ z∈L,c.j ≠ z.j:=fun z hz e=>nd.1 (cy3.mpr ⟨z,hz,e.symm⟩);rcases by7.mp ha with ea | ha'
  ·rcases by7.mp hb with eb | hb'
   ·rw [ea,eb]
   ·rw [ea] at h;exact absurd h (no b hb')
  ·rcases by7.mp hb with eb | hb'
   ·rw [eb] at h;exact absurd h.symm (no a ha')
   ·exact ih nd.2 ha' hb'
theorem zf1.put {W : Wl} {q : Nat} {L : List Ln} (h : zf1 W q L) {e : Ln} {x y : Str} (he : zf0 L x y = some e) (ws : List Str) (V : Wl) (uniq : ∀ a∈L,a.key = [.inr x,.inr y]->a = e) :
  zf1 ((W++V).set e.j (.lst (zb4 (ws.map .str)))) q (putL L x y ws) /\ Frame W q L ((W++V).set e.j (.lst (zb4 (ws.map .str)))):=by
 refine za0 fun gG=>?_;obtain ⟨hm,hx,hy⟩:=zl3 he;refine gG ?_;clear gG;have hq : q < W.length:=(ay4.mp h.at_).1;have hj : e.j < W.length:=(ay4.mp (h.obj e hm)).1
 have old : ∀ {i : Nat} {o : OD},W[i]? = some o->i ≠ e.j->((W++V).set e.j (.lst (zb4 (ws.map .str))))[i]? = some o:=fun {i o} ho hi=>by
  have hl : i < W.length:=(ay4.mp ho).1;rw [cy6 (fy2 hi),ay8 hl];exact ho
 refine ⟨⟨?_,fun a ha=>?_,by rw [ze19]; exact h.nd,fun a ha=>?_⟩,by simp,fun i hi iq hL=>?_⟩
 ·rw [zb73];exact old h.at_ (fy2 (h.nq e hm))
 ·refine za0 fun gG=>?_;obtain ⟨b,hb,rfl⟩:=cy3.mp ha;refine gG ?_;clear gG
  by_cases hk : b.key = [.inr x,.inr y]
  ·rw [if_pos hk,uniq b hb hk];show ((W++V).set e.j _)[e.j]? = _;rw [gy3 (by rw [cy5]; omega)]
  ·rw [if_neg hk];refine old (h.obj b hb) fun z=>hk ?_;rw [zf09 h.nd hb hm z,<- hx,<- hy]
 ·refine za0 fun gG=>?_;obtain ⟨b,hb,rfl⟩:=cy3.mp ha;refine gG ?_;clear gG;have:=h.nq b hb
  split <;> exact this
 ·rw [cy6 (hL e hm),ay8 hi]
def newW (W : Wl) (q : Nat) (L : List Ln) (x y : Str) (ws : List Str) : Wl:=((W++[OD.lst []]).set q (OD.dT (L.map (fun e : Ln=>(e.key,El.o e.j))++[([.inr x,.inr y],.o W.length)]))).set W.length (OD.lst (zb4 (ws.map .str)))
theorem zf1.new {W : Wl} {q : Nat} {L : List Ln} (h : zf1 W q L) (x y : Str) (ws : List Str) : zf1 (newW W q L x y ws) q (L++[⟨x,y,W.length,ws⟩]) /\ Frame W q L (newW W q L x y ws):=by
 unfold newW;have hq : q < W.length:=(ay4.mp h.at_).1;have hj : ∀ e∈L,e.j < W.length:=fun e he=>(ay4.mp (h.obj e he)).1;refine ⟨⟨?_,fun a ha=>?_,?_,fun a ha=>?_⟩,by simp,fun i hi iq hL=>?_⟩
 ·rw [cy6 (by omega),gy3 (by simp; omega),gy1];rfl
 ·rcases ey0.mp ha with ha | ha
  ·rw [cy6 (my2 (hj a ha)),cy6 (fy2 (h.nq a ha)),ay8 (hj a ha)];exact h.obj a ha
  ·cases ey2.mp ha;show (List.set _ W.length _)[W.length]? = _;rw [gy3 (by simp)]
 ·rw [gy1]
  exact zw2 h.nd fun z=>by
   refine za0 fun gG=>?_;obtain ⟨e,he,z⟩:=cy3.mp z;refine gG ?_;clear gG;have:=hj e he;simp at z;omega
 ·rcases ey0.mp ha with ha | ha
  ·exact h.nq a ha
  ·cases ey2.mp ha;show W.length ≠ q;omega
 ·rw [cy6 (by omega),cy6 (fy2 iq),ay8 hi]
def NewJ (n : Nat) (L L' : List Ln) : Prop:=∀ e∈L',(∃ e0∈L,e0.j = e.j) \/ n <= e.j
theorem NewJ.put (n : Nat) (L : List Ln) (x y : Str) (ws : List Str) : NewJ n L (putL L x y ws):=fun a ha=>by
 refine za0 fun gG=>?_;obtain ⟨b,hb,rfl⟩:=cy3.mp ha;refine gG ?_;clear gG;refine .inl ⟨b,hb,?_⟩
 split <;> rfl
theorem NewJ.new {n : Nat} {L : List Ln} {e : Ln} (h : n <= e.j) : NewJ n L (L++[e]):=fun a ha=>by
 rcases ey0.mp ha with ha | ha
 ·exact .inl ⟨a,ha,rfl⟩
 ·cases ey2.mp ha;exact .inr h
def zf5 (L : List Ln) : Prop:=(L.map Ln.key).Nodup
theorem zf5.uniq {L : List Ln} (h : zf5 L) {e : Ln} {x y : Str} (he : zf0 L x y = some e) : ∀ a∈L,a.key = [.inr x,.inr y]->a = e:=by
 refine za0 fun gG=>?_;obtain ⟨hm,hx,hy⟩:=zl3 he;refine gG ?_;clear gG;have hk : e.key = [.inr x,.inr y]:=by rw [<- hx,<- hy]
 unfold zf5 at h;clear he
 induction L with
 | nil=>simp at hm
 | cons c L ih =>
  rw [ey9,ly5] at h;have no : ∀ z∈L,c.key ≠ z.key:=fun z hz e=>h.1 (cy3.mpr ⟨z,hz,e.symm⟩);intro a ha hak;rcases by7.mp ha with ea | ha'
  ·rcases by7.mp hm with eb | hb'
   ·rw [ea,eb]
   ·exact absurd (by rw [<- ea,hak,hk]) (no e hb')
  ·rcases by7.mp hm with eb | hb'
   ·exact absurd (by rw [<- eb,hak,hk]) (no a ha')
   ·exact ih h.2 hb' a ha' hak
theorem zf5.put {L : List Ln} (h : zf5 L) (x y : Str) (ws : List Str) : zf5 (putL L x y ws):=by
 unfold zf5 putL at *;rw [ey6,show (Ln.key ∘ fun e : Ln=>if e.key = [.inr x,.inr y] then { e with ws:=ws } else e) = Ln.key by funext e; simp only [Function.comp]; split <;> rfl];exact h
theorem find_none {L : List Ln} {x y : Str} (h : zf0 L x y = none) : ([.inr x,.inr y] : List Key) ∉ L.map Ln.key:=fun z=>by
 refine za0 fun gG=>?_;obtain ⟨e,he,hk⟩:=cy3.mp z;refine gG ?_;clear gG;have:=List.find?_eq_none.mp h e he;exact this (by simpa using hk)
theorem zf5.new {L : List Ln} (h : zf5 L) {x y : Str} (hn : zf0 L x y = none) (j : Nat) (ws : List Str) : zf5 (L++[⟨x,y,j,ws⟩]):=by
 unfold zf5 at *;rw [gy1];exact zw2 h (find_none hn)
theorem zj5.put {m : Nat} {L : List Ln} (h : zj5 m L) (x y : Str) {ws : List Str} (h1 : ws.length <= m + 1) (h2 : ∀ z∈ws,isNm z = true) : zj5 (m + 1) (putL L x y ws):=⟨by unfold putL; rw [ay3]; exact vy4 h.len,fun a ha=>by
 refine za0 fun gG=>?_;obtain ⟨b,hb,rfl⟩:=cy3.mp ha;refine gG ?_;clear gG
 split
 ·exact ⟨h1,h2⟩
 ·exact ⟨vy4 (h.ws b hb).1,(h.ws b hb).2⟩⟩
theorem zj5.new {m : Nat} {L : List Ln} (h : zj5 m L) (x y : Str) (j : Nat) {ws : List Str} (h1 : ws.length <= m + 1) (h2 : ∀ z∈ws,isNm z = true) : zj5 (m + 1) (L++[⟨x,y,j,ws⟩]):=⟨by rw [cy5]; exact Nat.succ_le_succ h.len,fun a ha=>by
 rcases ey0.mp ha with ha | ha
 ·exact ⟨vy4 (h.ws a ha).1,(h.ws a ha).2⟩
 ·cases ey2.mp ha
  exact ⟨h1,h2⟩⟩
theorem Step.put {L : List Ln} {d : za7} {e : Ln} (he : zf0 L d.x d.y = some e) {ws : List Str} (hw : ws = zh5 d e.ws) : Step L d (putL L d.x d.y ws):=by
 have hk : e.key = [.inr d.x,.inr d.y]:=by obtain ⟨_,hx,hy⟩:=zl3 he; rw [<- hx,<- hy]
 constructor
 ·rw [zR0,he];simp only [xy0,if_pos hk];unfold zi7;rw [he,hw];rfl
 ·intro x y hne;rw [zR0];cases h : zf0 L x y with
  | none=>rfl
  | some a =>
   refine za0 fun gG=>?_;obtain ⟨_,hx,hy⟩:=zl3 h;refine gG ?_;clear gG;have : ¬ a.key = [.inr d.x,.inr d.y]:=fun z=>hne (by rw [<- hx,<- hy]; simpa using z);simp only [xy0,if_neg this]
theorem Step.new {L : List Ln} {d : za7} (hn : zf0 L d.x d.y = none) (j : Nat) {ws : List Str} (hw : ws = zh5 d []) : Step L d (L++[⟨d.x,d.y,j,ws⟩]):=by
 constructor
 ·rw [za68 hn,if_pos rfl,hw];unfold zi7;rw [hn];rfl
 ·intro x y hne;rw [zW4 (fun z=>hne (by simpa [eq_comm] using z))]
section
variable {P : cy7} {w : World} {K : ay5} {mg : Str->Option Value} {base : Heap} {kA : Addr}
def rDo : RB:=fun as W k=>∃ (q : Nat) (d : za7) (L : List Ln) (m : Nat),as = [.o q,.d (dP d)] /\ d.Ok /\ zf1 W q L /\ zf5 L /\ zj5 m L /\ m <= 1000 /\ (d.tk = true->zi7 L d.x d.y ≠ []) /\
 ∀ W' L',zf1 W' q L'->zf5 L'->zj5 (m + 1) L'->Step L d L'->Frame W q L W'->NewJ W.length L L'->k (.d .none) W'
abbrev nDo : List Str:=["lines", "deed", "kind", "giver", "taker", "word", "words"]
theorem scDo : zb8 nDo ["lines", "deed"] (za1 sDo):=⟨rfl,rfl,rfl,by decide +kernel,rfl,by decide +kernel,by decide +kernel⟩
theorem ndDo : nDo.Nodup:=by decide +kernel
theorem ze21 {f : Addr} {fd : ey7} (F : Fun K "do_deed" "do_deed" sDo f fd) (T : zX7 K mg kA) : zj0 P w K mg base CX0 1 f fd ["lines", "deed"] (spB K rDo):=by
 refine zo8 F scDo (fun as W k hR=>by obtain ⟨q,d,L,m,e,_⟩:=hR; subst e; rfl) fun cc hr as W k hcl hR=>?_;refine exE4 hR fun q d L m qA=>?_;clear hR;refine anE8 qA fun e hok hL hK hS hm ht hk=>?_;clear qA;subst e;have hq : q < W.length:=(ay4.mp hL.at_).1;have hL1 : ∀ {a : Nat},a <= 2000->a < by3:=fun h=>ly7 h (by6 (show 2000 < 3000 by decide) (zb6 (by decide)));refine za4 (zp2 (bv 1 rfl (zH0 rfl (.cons (i:=2) ndDo rfl (Or.inl rfl) (.cons (i:=3) ndDo rfl (Or.inl rfl) (.cons (i:=4) ndDo rfl (Or.inl rfl) (.cons (i:=5) ndDo rfl (Or.inl rfl) .nil)))) rfl ?_)));refine za4 (zc0 (i:=6) ndDo rfl (Or.inl rfl) (zn3 iy3 PySem.F.slot_dict_setdefault PySem.F.type_dict_setdefault (bv 0 rfl ⟨.inr ⟨rfl,.inr ⟨_,hL.at_⟩⟩,za3 (zL5 (za3 (bv 3 rfl (za2 (bv 4 rfl ⟨[.inr d.x,.inr d.y],rfl,(by show 2 <= by3; decide),za2 (zq8 (zk0 ⟨dy9 _,?_⟩))⟩)))))⟩)));refine zU5 hr.units (by rw [ay8 hq]; exact hL.at_) (fun e he=>?_) (fun hn=>⟨?_,?_⟩)
 ·rw [zD7] at he;cases hf : zf0 L d.x d.y with
  | none=>rw [hf] at he; cases he
  | some l =>
   rw [hf] at he;cases he;refine za0 fun gG=>?_;obtain ⟨hmem,hx,hy⟩:=zl3 hf;obtain ⟨hwl,hwn⟩:=hS.ws l hmem;refine gG ?_;clear gG;have hlj : l.j < W.length:=(ay4.mp (hL.obj l hmem)).1;have hobj : (W++[OD.lst []])[l.j]? = some (.lst (zb4 (l.ws.map .str))):=by rw [ay8 hlj]; exact hL.obj l hmem
   have go : ∀ ws : List Str,ws = zh5 d l.ws->ws.length <= m + 1->(∀ z∈ws,isNm z = true)->k (.d .none) ((W++[OD.lst []]).set l.j (.lst (zb4 (ws.map .str)))):=fun ws e1 e2 e3=>by
    obtain ⟨a,b⟩:=hL.put hf ws [OD.lst []] (hK.uniq hf);exact hk _ _ a (hK.put _ _ _) (hS.put _ _ e2 e3) (Step.put hf e1) b (NewJ.put _ _ _ _ _)
   refine zb0 (zi4 (ze0 rfl (bv 2 rfl (zc6 (zn7 ⟨_,rfl,?_⟩)))))
   by_cases htk : d.tk = true
   ·have hkd : d.kd ≠ "send" := by
     unfold za7.kd;rw [htk];decide +kernel
    rw [decide_eq_false hkd];have hne:=ht htk;unfold zi7 at hne;rw [hf] at hne;cases hws : l.ws with
    | nil=>exact absurd hws hne
    | cons z rest =>
     rw [hws] at hobj hwl hwn;refine zl6 (zb0 (ze9 (zn3 fy9 PySem.F.slot_list_pop PySem.F.type_list_pop (bv 6 rfl ⟨.inl ⟨rfl,_,hobj⟩,za2 (zb1 (zK8 (y:=.d (.str z)) (es:=zb4 (rest.map .str)) hobj ?_))⟩))));exact go rest (by unfold zh5; rw [if_pos htk,hws]; rfl) (by simp at hwl; omega) fun y hy=>hwn y (by0 _ hy)
   ·have htk : d.tk = false:=by simpa using htk
    have hkd : d.kd = "send" := by unfold za7.kd; rw [htk]; rfl
    rw [decide_eq_true hkd];refine zl9 (zb0 (ze9 (zn3 fy9 iy1 iy2 (bv 6 rfl ⟨.inl ⟨rfl,_,hobj⟩,za2 (bv 5 rfl (zh0 hobj ?_ ?_))⟩))))
    ·simp only [zb4,ay3];exact hL1 (by omega)
    ·have:=go (l.ws++[d.w]) (by unfold zh5; rw [htk]; rfl) (by rw [cy5]; simp; omega) (fun z hz=>by
      rcases ey0.mp hz with hz | hz
      ·exact hwn z hz
      ·cases ey2.mp hz; exact hok.w)
     simpa [zb4] using this
 ·rw [ay3];have:=hS.len;exact hL1 (by omega)
 ·rw [zD7] at hn
  have hf : zf0 L d.x d.y = none:=by
   cases h : zf0 L d.x d.y with
   | none=>rfl
   | some l=>rw [h] at hn; cases hn
  have hw0 : zi7 L d.x d.y = []:=by unfold zi7; rw [hf]; rfl
  have htk : d.tk = false:=by
   cases h : d.tk with
   | false=>rfl
   | true=>exact absurd hw0 (ht h)
  have hkd : d.kd = "send" := by unfold za7.kd; rw [htk]; rfl
  refine zb0 (zi4 (ze0 rfl (bv 2 rfl (zc6 (zn7 ⟨_,rfl,?_⟩)))));rw [decide_eq_true hkd]
  have hobj : ((W++[OD.lst []]).set q (OD.dT (L.map (fun e : Ln=>(e.key,El.o e.j))++[([.inr d.x,.inr d.y],.o W.length)])))[W.length]? = some (.lst []):=by
   rw [cy6 (by omega)];simp
  refine zl9 (zb0 (ze9 (zn3 fy9 iy1 iy2 (bv 6 rfl ⟨.inl ⟨rfl,_,hobj⟩,za2 (bv 5 rfl (zh0 hobj (hL1 (by simp)) ?_))⟩))));obtain ⟨a,b⟩:=hL.new d.x d.y [d.w];exact hk _ _ a (hK.new hf _ _) (hS.new _ _ _ (by simp) (by simp [hok.w])) (Step.new hf _ (by unfold zh5; rw [htk]; rfl)) b (NewJ.new (ay6 _))
end
abbrev Wd:=Str->Str->List Str
def zd6 (f : Wd) (d : za7) : Wd:=fun x y=>if x = d.x /\ y = d.y then zh5 d (f x y) else f x y
def zg2 (ds : List za7) : Wd:=ds.foldl zd6 fun _ _=>[]
def zn1 (f : Wd) (d : za7) : Bool:=!d.tk || decide ((f d.x d.y).take 1 = [d.w])
def Goes (ds : List za7) : Prop:=∀ i d,ds[i]? = some d->zn1 (zg2 (ds.take i)) d = true
theorem zR1 {ds : List za7} {i : Nat} {d : za7} (h : ds[i]? = some d) : zg2 (ds.take (i + 1)) = zd6 (zg2 (ds.take i)) d:=by
 unfold zg2;rw [fy5,h];simp [List.foldl_append]
theorem Step.words {L L' : List Ln} {d : za7} (h : Step L d L') {f : Wd} (hf : ∀ x y,zi7 L x y = f x y) : ∀ x y,zi7 L' x y = zd6 f d x y:=fun x y=>by
 unfold zd6
 by_cases e : x = d.x /\ y = d.y
 ·refine za0 fun gG=>?_;obtain ⟨rfl,rfl⟩:=e;refine gG ?_;clear gG;rw [if_pos ⟨rfl,rfl⟩,<- hf];show ((zf0 L' d.x d.y).map (·.ws)).getD [] = _;rw [h.here];rfl
 ·rw [if_neg e,<- hf];show ((zf0 L' x y).map (·.ws)).getD [] = ((zf0 L x y).map (·.ws)).getD [];rw [h.else_ x y e]
structure zo7 (W : Wl) (q : Nat) (m : Nat) (f : Wd) (W' : Wl) (L : List Ln) : Prop where
 at_ : zf1 W' q L
 ks : zf5 L
 sm : zj5 m L
 fs : ∀ x y,zi7 L x y = f x y
 js : ∀ e∈L,W.length <= e.j
 le : W.length <= W'.length
 old : ∀ i,i < W.length->i ≠ q->W'[i]? = W[i]?
theorem zo7.step {W W1 W2 : Wl} {q m : Nat} {f : Wd} {L L2 : List Ln} {d : za7} (h : zo7 W q m f W1 L) (a : zf1 W2 q L2) (b : zf5 L2) (c : zj5 (m + 1) L2) (s : Step L d L2) (fr : Frame W1 q L W2) (nj : NewJ W1.length L L2) : zo7 W q (m + 1) (zd6 f d) W2 L2 where
 at_:=a
 ks:=b
 sm:=c
 fs:=s.words h.fs
 js:=fun e he=>by
  rcases nj e he with ⟨e0,h0,h1⟩ | h1
  ·rw [<- h1]; exact h.js e0 h0
  ·exact ey1 h.le h1
 le:=ey1 h.le fr.1
 old:=fun i hi iq=>(fr.2 i (by6 hi h.le) iq fun e he z=>by have:=h.js e he; omega).trans (h.old i hi iq)
theorem zc29 {f : Wd} {d : za7} (h : zn1 f d = true) (ht : d.tk = true) : f d.x d.y ≠ []:=fun z=>by
 unfold zn1 at h;rw [ht,z] at h;simp at h
theorem zf5.self {L : List Ln} (h : zf5 L) {e : Ln} (he : e∈L) : zf0 L e.x e.y = some e:=by
 cases hf : zf0 L e.x e.y with
 | none=>exact absurd (cy3.mpr ⟨e,he,rfl⟩) (find_none hf)
 | some a=>rw [h.uniq hf e he rfl]
theorem Step.keys {L L' : List Ln} {d : za7} {p : Str->Str->Prop} (h : Step L d L') (nd : zf5 L') (hK : ∀ e∈L,p e.x e.y) (hd : p d.x d.y) : ∀ e∈L',p e.x e.y:=fun e he=>by
 by_cases hx : e.x = d.x /\ e.y = d.y
 ·rw [hx.1,hx.2]; exact hd
 ·have h1:=h.else_ e.x e.y hx;rw [nd.self he] at h1;cases hf : zf0 L e.x e.y with
  | none=>rw [hf] at h1; cases h1
  | some a =>
   refine za0 fun gG=>?_;obtain ⟨m,h2,h3⟩:=zl3 hf;refine gG ?_;clear gG;have:=hK a m;rw [h2,h3] at this;exact this
section
variable {P : cy7} {w : World} {K : ay5} {mg : Str->Option Value} {base : Heap} {kA : Addr}
def zd00 : RB:=fun as W k=>∃ ds : List za7,as = [.d (rP ds)] /\ (∀ d∈ds,d.Ok) /\ ds.length <= 900 /\ Goes ds /\ ∀ V L,zo7 W W.length ds.length (zg2 ds) (W++V) L->(∀ e∈L,∃ d∈ds,d.x = e.x /\ d.y = e.y)->k (.o W.length) (W++V)
abbrev nBh : List Str:=["row", "lines", "number", "deed"]
theorem scBh : zb8 nBh ["row"] (za1 zo5):=⟨rfl,rfl,rfl,by decide +kernel,rfl,by decide +kernel,by decide +kernel⟩
theorem ndBh : nBh.Nodup:=by decide +kernel
theorem zd01 {d : za7} (h : d.Ok) : za66 (dP d) = true:=by
 have hne : d.x ≠ d.y:=h.ne
 have hk : kdD (.str d.kd) = true:=by
  show decide _ = true;rcases zd91 d with e | e <;> simp [e]
 show (kdD (.str d.kd) && (nmD (.str d.x) && nmD (.str d.y) && nmD (.str d.w) && neqD (.str d.x) (.str d.y))) = true;rw [hk,show nmD (.str d.x) = true from h.x,show nmD (.str d.y) = true from h.y,show nmD (.str d.w) = true from h.w];simp [neqD,hne]
theorem zW5 (d : za7) (h : d.Ok) : zc27 (dP d):=fun e he=>by
 have l1:=za32 h.x;have l2:=za32 h.y;have l3:=za32 h.w;have l4:=kd_len d;simp at he;rcases he with rfl | rfl | rfl | rfl <;> exact zb6 (by omega)
theorem zI8 {f fN fD fC fO : Addr} {fd dN dD dC dO : ey7} (F : Fun K "lines_behind" "lines_behind" zo5 f fd) (T : zX7 K mg kA) (DN : Def K mg "is_name" zw9 fN dN ["thing"]) (DD : Def K mg "is_deed" zI5 fD dD ["thing"]) (DC : Def K mg "can_be_done" sCan fC dC ["lines", "deed"]) (DO : Def K mg "do_deed" sDo fO dO ["lines", "deed"]) :
  zj0 P w K mg base CX0 3 f fd ["row"] (spB K zd00):=by
 have ND:=@zc99 P w K mg base kA _ _ _ _ DD.fn T DN;have NC:=@zc28 P w K mg base kA _ _ DC.fn T;have NO:=@ze21 P w K mg base kA _ _ DO.fn T;refine zo8 F scBh (fun as W k hR=>by obtain ⟨ds,e,_⟩:=hR; subst e; rfl) fun cc hr as W k hcl hR=>?_;refine za0 fun gG=>?_;obtain ⟨ds,e,hok,hl,hgo,hk⟩:=hR;subst e;refine gG ?_;clear gG;refine za4 (zi4 (zj1 (zf9 (zk1 rfl T.t.isi zW1 rfl T.t.tuple_ zl2 (by simp) (bv 0 rfl ⟨_,.inl rfl,_,rfl,?_⟩)))));refine zl6 (zh1 (za4 (zc0 (i:=1) ndBh rfl (Or.inl rfl) (zC0 ?_))));have start : zo7 W W.length 0 (fun _ _=>[]) (W++[.dT []]) []:=⟨⟨by simp,by simp,by simp,by simp⟩,by simp [zf5],⟨by simp,by simp⟩,fun _ _=>rfl,by simp,by simp,fun i hi _=>ay8 hi⟩
 refine za4 (zc77 ly9 rfl rfl T.t.enum_ (za2 (bv 0 rfl ⟨ds.map dP,W.length,fun i S' W'=>∃ o2 o3 L,S' = [some (.d (rP ds)),some (.o W.length),o2,o3] /\ zo7 W W.length i (zg2 (ds.take i)) W' L /\ ∀ e∈L,∃ d∈ds,d.x = e.x /\ d.y = e.y,rfl,ay6 _,by simp,⟨none,none,[],rfl,start,by simp⟩,?_,?_⟩)))
 ·intro i dd S' W' hd gX;refine exE3 gX fun o2 o3 L qA=>?_;clear gX;refine anE3 qA fun qe0 hL hK=>?_;clear qA;subst qe0;rw [by1] at hd;cases hy : ds[i]? with
  | none=>rw [hy] at hd; cases hd
  | some d =>
   rw [hy] at hd;cases hd;have hdk:=hok d (cy8 hy);have hi : i < ds.length:=(ay4.mp hy).1;have hcan:=hgo i d hy;refine zH0 rfl (.cons (i:=2) ndBh rfl (Or.inl rfl) (.cons (i:=3) ndBh rfl (Or.inl rfl) .nil)) rfl ?_;refine za4 (zi4 (BW.bt (zG5 (zj1 (zf9 (za6 ND (hr.mono (by decide)) rfl DD.at_ DD.fn.kp DD.bd (za2 (bv 3 rfl ⟨dP d,rfl,zW5 d hdk,_,rfl,?_⟩))))))));rw [zd01 hdk];refine zl6 (zs4 (zj1 (zf9 (za6 NC (hr.mono (by decide)) rfl DC.at_ DC.fn.kp DC.bd (za3 (bv 1 rfl (za2 (bv 3 rfl ⟨W.length,d,L,rfl,hdk,hL.at_,hL.sm.sok,_,rfl,?_⟩))))))));rw [hL.fs];have hc' : (!d.tk || decide ((zg2 (ds.take i) d.x d.y).take 1 = [d.w])) = true:=hcan;rw [hc'];refine zl6 (zh1 (zb0 (ze9 (za6 NO (hr.mono (by decide)) rfl DO.at_ DO.fn.kp DO.bd (za3 (bv 1 rfl (za2 (bv 3 rfl ⟨W.length,d,L,i,rfl,hdk,hL.at_,hL.ks,hL.sm,by omega,fun ht=>by rw [hL.fs]; exact zc29 hcan ht,fun W2 L2 a b c st fr nj=>?_⟩))))))));refine ⟨_,_,L2,rfl,?_,st.keys (p:=fun x y=>∃ d∈ds,d.x = x /\ d.y = y) b hK ⟨d,cy8 hy,rfl,rfl⟩⟩;rw [zR1 hy];exact hL.step a b c st fr nj
 ·intro S' W' gX;refine exE3 gX fun o2 o3 L qA=>?_;clear gX;refine anE3 qA fun qe0 hL hK=>?_;clear qA;subst qe0
  obtain ⟨V,rfl⟩ : ∃ V,W' = W++V:=⟨W'.drop W.length,by
   refine oy8 fun i=>?_
   by_cases hi : i < W.length
   ·rw [ay8 hi];exact hL.old i hi (by8 hi)
   ·rw [cy2 (by omega),List.getElem?_drop]
    congr 1
    omega⟩
  rw [ay3,hy5] at hL;exact zb0 (zd3 (bv 1 rfl (hk V L hL hK)))
end
theorem zq2 {ds : List za7} {d : za7} (h : Goes ds) (hc : zn1 (zg2 ds) d = true) : Goes (ds++[d]):=fun i e hi=>by
 by_cases hl : i < ds.length
 ·rw [ay8 hl] at hi;rw [List.take_append_of_le_length (by omega)];exact h i e hi
 ·have : i = ds.length:=by
   have:=(ay4.mp hi).1;simp at this;omega
  subst this;rw [cy2 (ay6 _)] at hi;simp at hi;subst hi;rw [vy8];exact hc
theorem zd02 (ds : List za7) (d : za7) : zg2 (ds++[d]) = zd6 (zg2 ds) d:=by unfold zg2; rw [List.foldl_append]; rfl
theorem zd03 {f : Wd} {d : za7} (hf : ∀ x y,∀ z∈f x y,isNm z = true) (hd : d.Ok) : ∀ x y,∀ z∈zd6 f d x y,isNm z = true:=fun x y z hz=>by
 unfold zd6 at hz
 split at hz
 ·unfold zh5 at hz
  split at hz
  ·exact hf x y z (List.mem_of_mem_tail hz)
  ·rcases ey0.mp hz with h | h
   ·exact hf x y z h
   ·simp at h; rw [h]; exact hd.w
 ·exact hf x y z hz
theorem za69 : ∀ (ds : List za7) (f : Wd),(∀ x y,∀ z∈f x y,isNm z = true)->(∀ d∈ds,d.Ok)->∀ x y,∀ z∈ds.foldl zd6 f x y,isNm z = true
 | [],f,hf,_=>hf
 | d :: ds,f,hf,hd=>za69 ds (zd6 f d) (zd03 hf (hd d ay9)) fun e he=>hd e (by0 _ he)
theorem zc30 {ds : List za7} (h : ∀ d∈ds,d.Ok) : ∀ x y,∀ z∈zg2 ds x y,isNm z = true:=za69 ds _ (fun _ _ z hz=>by simp at hz) h
theorem zR2 : ∀ (ds : List za7) (f : Wd) (n : Nat),(∀ x y,(f x y).length <= n)->∀ x y,(ds.foldl zd6 f x y).length <= n + ds.length
 | [],f,n,hf,x,y=>by simpa using hf x y
 | d :: ds,f,n,hf,x,y=>by
  have:=zR2 ds (zd6 f d) (n + 1) (fun x y=>by
   have:=hf x y;unfold zd6
   split
   ·unfold zh5
    split
    ·rw [List.length_tail]; omega
    ·rw [cy5]; simp; omega
   ·omega) x y
  rw [List.foldl_cons,py7];omega
theorem za70 (ds : List za7) (x y : Str) : (zg2 ds x y).length <= ds.length:=by
 have:=zR2 ds (fun _ _=>[]) 0 (fun _ _=>by simp) x y;unfold zg2;omega
structure QU (hs : List Str) (f : Wd) (L : List Uw) : Prop where
 nd : (L.map (·.1)).Nodup
 pr : ∀ e∈L,e.1.1∈hs /\ e.1.2∈hs
 at_ : ∀ x y,zr6 L x y = f x y
theorem QU.put {hs : List Str} {f : Wd} {L : List Uw} (h : QU hs f L) (d : za7) (hx : d.x∈hs) (hy : d.y∈hs) : QU hs (zd6 f d) (zW3 L (d.x,d.y) (zh5 d (f d.x d.y))):=⟨zc96 h.nd _ _,fun e he=>by
 rcases zQ9 he with z | z
 ·refine za0 fun gG=>?_;obtain ⟨a,ha,e1⟩:=cy3.mp z;refine gG ?_;clear gG;rw [<- e1];exact h.pr a ha
 ·rw [z]; exact ⟨hx,hy⟩,fun x y=>by
 rw [za65];unfold zd6
 by_cases e : x = d.x /\ y = d.y
 ·refine za0 fun gG=>?_;obtain ⟨rfl,rfl⟩:=e;refine gG ?_;clear gG;rw [if_pos rfl,if_pos ⟨rfl,rfl⟩]
 ·rw [if_neg e,if_neg (fun z=>e ⟨congrArg Prod.fst z,congrArg Prod.snd z⟩),h.at_]⟩
theorem zb75 : ("take" : Str) ≠ "send" := by decide +kernel
theorem za71 {L : List Uw} {x y : Str} (h : zr6 L x y ≠ []) : zn4 (L.map kvU) [.inr x,.inr y] = some (.d (.list ((zr6 L x y).map .str))):=by
 have e:=zI6 L x y;cases hv : zn4 (L.map kvU) [.inr x,.inr y] with
 | none =>
  rw [hv] at e;injection e with e
  injection e with e
  cases hl : zr6 L x y with
  | nil=>exact absurd hl h
  | cons a b=>rw [hl] at e; cases e
 | some v =>
  rw [hv] at e;exact congrArg some e
theorem hL {j : Nat} (h : j <= 1000) : j < by3:=ly7 h (by6 (show 1000 < 2000 by decide) (zb6 (by decide)))
section
variable {P : cy7} {w : World} {K : ay5} {mg : Str->Option Value} {base : Heap}
def zf12 : RB:=fun as W k=>∃ (u : Nat) (d : za7) (L : List Uw) (hs : List Str) (f : Wd),as = [.o u,.d (dP d)] /\ W[u]? = some (.dT (L.map kvU)) /\ QU hs f L /\ d.Ok /\ L.length <= 900 /\ (f d.x d.y).length <= 900 /\ (d.tk = true->f d.x d.y ≠ []) /\ k (.d .none) (W.set u (.dT ((zW3 L (d.x,d.y) (zh5 d (f d.x d.y))).map kvU)))
abbrev pDn : List Str:=["_law_under", "_law_deed"]
abbrev nDn : List Str:=["_law_under", "_law_deed", "_law_pair"]
theorem scDn : zb8 nDn pDn (za1 zM9):=⟨rfl,rfl,rfl,by decide +kernel,rfl,by decide +kernel,by decide +kernel⟩
theorem ndDn : nDn.Nodup:=by decide +kernel
theorem zd04 {f : Addr} {fd : ey7} (F : Fun K "_law_done" "_law_done" zM9 f fd) (T : Txt mg) : zj0 P w K mg base CX0 1 f fd pDn (spB K zf12):=by
 refine zo8 F scDn (fun as W k hR=>by obtain ⟨u,d,L,hs,g,e,_⟩:=hR; subst e; rfl) fun cc hr as W k hcl hR=>?_;refine exE5 hR fun u d L hs g qA=>?_;clear hR;refine anE8 qA fun e hu Q hd hLl hg ht hk=>?_;clear qA;subst e;refine za4 (zc0 (i:=2) ndDn rfl (Or.inl rfl) (zc8 (bv 1 rfl (zd0 (zb1 ⟨1,rfl,zd0 (zb1 ⟨3,rfl,zc91 (ks:=prK (d.x,d.y)) rfl (by show 2 < 4; decide) ?_⟩)⟩)))));refine za0 fun gG=>?_;obtain ⟨tk,x,y,wd⟩:=d;refine gG ?_;clear gG;refine zb0 (zi4 (ze0 rfl (zd9 (by intro _ _; rfl) (bv 1 rfl (zb1 (zi2 (d:=.str (za7.kd ⟨tk,x,y,wd⟩)) rfl (zc6 (zn7 ⟨_,rfl,?_⟩))))))));have hat : zr6 L x y = g x y:=Q.at_ x y;have hg : (g x y).length <= 900:=hg;cases tk with
 | false =>
  rw [decide_eq_true (show za7.kd ⟨false,x,y,wd⟩ = "send" from rfl)];refine zl9 (zb0 (zp2 (zf8 (zn3 iy3 qy4 uy9 (bv 0 rfl ⟨.inr ⟨rfl,.inr ⟨_,hu⟩⟩,za3 (zP6 (bv 2 rfl ⟨prK (x,y),rfl,za2 (zg9 (zk0 ⟨[],rfl,dy9 _,zt8 (ks:=prK (x,y)) hr.units hu ?_⟩))⟩))⟩)))));rw [zI6,hat];refine zg9 (za2 (zd9 (by intro _ _; rfl) (bv 1 rfl (zb1 (zi2 (d:=.str wd) rfl ⟨[.str wd],rfl,(by show 1 <= by3; decide),zB1 (.inl rfl) (.inl rfl) (by rw [ay3]; exact zb6 (by show _ + 1 <= _; omega)) (zy7 (bv 0 rfl (bv 2 rfl (zb60 hr.units hu (hL (by rw [ay3]; omega)) ?_))))⟩)))));have e1 : (g x y).map hy3++[.str wd] = (zh5 ⟨false,x,y,wd⟩ (g x y)).map .str:=by simp [zh5]
  rw [e1,zN4];exact hk
 | true =>
  rw [decide_eq_false (show ¬ za7.kd ⟨true,x,y,wd⟩ = "send" from zb75)];have hne : g x y ≠ []:=ht rfl;have hv:=za71 (L:=L) (x:=x) (y:=y) (by rw [hat]; exact hne);rw [hat] at hv;refine zl6 (zb0 (zp2 (zc8 (zd9 (by intro _ _; rfl) (bv 0 rfl (zP6 (bv 2 rfl ⟨prK (x,y),rfl,zb49 (ks:=prK (x,y)) hr.units hu hv (zd0 (zb1 ⟨1,rfl,ze4 (zG7 (zy7 (bv 0 rfl (bv 2 rfl (zb60 hr.units hu (hL (by rw [ay3]; omega)) ?_)))))⟩))⟩)))))))
  have e1 : zm1 ((g x y).map hy3) (some 1) none = (zh5 ⟨true,x,y,wd⟩ (g x y)).map .str:=by
   rw [show zm1 ((g x y).map hy3) (some 1) none = ((g x y).map hy3).drop 1 from zk8 _ 1];simp [zh5]
  rw [e1,zN4];exact hk
def zd05 : RB:=fun as W k=>∃ (p u : Nat) (L : List Uw) (hs : List Str) (f : Wd),as = [.o p,.o u] /\ zf4 W p /\ u ≠ p /\ W[u]? = some (.dT (L.map kvU)) /\ QU hs f L /\ L.length <= 60 /\ (∀ x y,∀ z∈f x y,isNm z = true) /\ (∃ e∈L,e.2 ≠ []) /\ ∀ (d : za7) (ws : List Str) W',d.tk = true->f d.x d.y = d.w :: ws->(d.x,d.y)∈L.map (·.1)->zg1 W p W'->k (.d (dP d)) W'
abbrev pTa : List Str:=["_law_pack_here", "_law_under"]
abbrev nTa : List Str:=["_law_pack_here", "_law_under", "_law_pairs", "_law_pair"]
theorem scTa : zb8 nTa pTa (za1 zl1):=⟨rfl,rfl,rfl,by decide +kernel,rfl,by decide +kernel,by decide +kernel⟩
theorem ndTa : nTa.Nodup:=by decide +kernel
def cTa : Scope:=match za9 zl1 with
 | [.Assign _ (.ListComp _ _ sc _) _,_,_]=>sc
 | _=>zN1
theorem csTa : zb3 nTa (za1 zl1) ["_law_pair"] ["_law_under"] [1] cTa:=⟨rfl,by decide +kernel,by decide +kernel,by decide +kernel,rfl,by decide +kernel⟩
theorem ndTp : (["_law_pair", "_law_under"] : List Str).Nodup:=by decide +kernel
theorem za72 {a b : Pr} (h : prD a = prD b) : a = b:=by
 simp only [prD,prK,ey9,List.map_nil,zE7,PyData.tuple.injEq,List.cons.injEq,PyData.str.injEq,and_true] at h;exact Prod.ext h.1 h.2
theorem za73 {L : List Uw} (nd : (L.map (·.1)).Nodup) {e : Pr} (he : e∈L.map (·.1)) : zn4 (L.map kvU) (prK e) = some (.d (.list ((zr6 L e.1 e.2).map .str))):=by
 refine za0 fun gG=>?_;obtain ⟨a,ha,rfl⟩:=cy3.mp he;refine gG ?_;clear gG;rw [zq1 nd ha];have e:=zI6 L a.1.1 a.1.2;rw [zq1 nd ha] at e;cases hv : zn4 (L.map kvU) (prK a.1) with
 | none =>
  unfold zn4 at hv;rw [Option.map_eq_none_iff,List.find?_eq_none] at hv;exact absurd (decide_eq_true (rfl : (kvU a).1 = prK a.1)) (hv (kvU a) (cy3.mpr ⟨a,ha,rfl⟩))
 | some v =>
  rw [show ([.inr a.1.1,.inr a.1.2] : List Key) = prK a.1 from rfl,hv] at e;exact congrArg some e
theorem za74 {f fR : Addr} {fd dR : ey7} (F : Fun K "_law_taking" "_law_taking" zl1 f fd) (T : Txt mg) (DR : Def K mg "_law_take" zx1 fR dR pTk) : zj0 P w K mg base CX0 2 f fd pTa (spB K zd05):=by
 classical
 have N:=@zr5 P w K mg base _ _ DR.fn T;refine zo8 F scTa (fun as W k hR=>by obtain ⟨p,u,L,hs,g,e,_⟩:=hR; subst e; rfl) fun cc hr as W k hcl hR=>?_;refine exE5 hR fun p u L hs g qA=>?_;clear hR;refine anE9 qA fun e hp hup hu Q hL hnm hex hk=>?_;clear qA;subst e;have hpl:=hp.lt;have hul : u < W.length:=(ay4.mp hu).1;have hat : ∀ x y,zr6 L x y = g x y:=Q.at_;refine za4 (zL2 (i:=2) ndTa rfl (Or.inl rfl) rfl csTa (za25 (zb9 rfl T.sorted_ zt9 (za2 (bv 1 rfl (zM6 (ps:=L.map (·.1)) rfl hu (by rw [ey6,ey6]; rfl) Q.nd (by rw [ay3]; omega) fun ps pm _=>⟨W.length,_,rfl,zd7,zk2 (fun z=>decide (∃ e : Pr,z = prD e /\ g e.1 e.2 ≠ [])) id zd7 ?_ ?_ ?_⟩))))))
 ·rw [ay3,pm.length_eq,ay3]; exact zb6 (by omega)
 ·intro z hz;refine za0 fun gG=>?_;obtain ⟨e,he,rfl⟩:=cy3.mp hz;refine gG ?_;clear gG;have he':=pm.mem_iff.mp he;refine ze2 (i:=0) ndTp rfl (by decide) (fun _ _ _ _ _=>Or.inl rfl) (fun _ _ _ _ _=>rfl) ⟨fun cl C ex s H=>?_,fun _ cl C ex s H=>bv 0 rfl ⟨rfl,rfl⟩⟩;have hu' : (W++[OD.lst (zb4 (ps.map fun p=>tupK [.inr p.1,.inr p.2]))])[u]? = some (.dT (L.map kvU)):=by rw [ay8 hul]; exact hu
  have hv:=za73 Q.nd he';rw [hat] at hv;refine ze0 rfl (zd9 (by intro _ _; rfl) (bv 1 rfl (bv 0 rfl (zb49 (ks:=prK e) hr.units hu' hv (zg9 (zk0 ⟨[],rfl,dy9 _,zT7 hr.units (d:=.list ((g e.1 e.2).map .str)) (e:=.list (([] : List Str).map .str)) (.inl rfl) (.inl rfl) (zm9 (za34 (hnm e.1 e.2))) (zm9 (by simp)) ⟨_,rfl,?_,rfl⟩⟩))))));rw [zP4];have inj : (∃ e' : Pr,prD e = prD e' /\ g e'.1 e'.2 ≠ []) ↔ g e.1 e.2 ≠ []:=⟨fun zR=>by obtain ⟨e',h1,h2⟩:=zR; rw [za72 h1]; exact h2,fun h=>⟨e,rfl,h⟩⟩
  show (!decide (g e.1 e.2 = [])) = decide (∃ e' : Pr,prD e = prD e' /\ g e'.1 e'.2 ≠ [])
  by_cases h0 : g e.1 e.2 = []
  ·rw [decide_eq_true h0,decide_eq_false (by rw [inj]; exact fun z=>z h0)]; rfl
  ·rw [decide_eq_false h0,decide_eq_true (by rw [inj]; exact h0)]; rfl
 ·have e : ((ps.map fun p=>tupK [.inr p.1,.inr p.2]).filter (fun z=>decide (∃ e : Pr,z = prD e /\ g e.1 e.2 ≠ []))).map id = (ps.filter fun e=>decide (g e.1 e.2 ≠ [])).map prD:=by
   rw [List.map_id,xy1]
   have : ps.filter ((fun z=>decide (∃ e : Pr,z = prD e /\ g e.1 e.2 ≠ [])) ∘ fun p=>tupK [.inr p.1,.inr p.2]) = ps.filter fun e=>decide (g e.1 e.2 ≠ []):=by
    refine List.filter_congr fun e _=>?_;show decide (∃ e' : Pr,prD e = prD e' /\ g e'.1 e'.2 ≠ []) = decide (g e.1 e.2 ≠ []);rw [decide_eq_decide];exact ⟨fun zR=>by obtain ⟨e',h1,h2⟩:=zR; rw [za72 h1]; exact h2,fun h=>⟨e,rfl,h⟩⟩
   rw [this]
  rw [e]
  have hfl : (ps.filter fun e=>decide (g e.1 e.2 ≠ [])).length <= 60:=by
   have h2:=pm.length_eq;rw [ay3] at h2;exact ey1 (qy1 _ ps) (by omega)
  have hf0 : 0 < (ps.filter fun e=>decide (g e.1 e.2 ≠ [])).length:=by
   refine za0 fun gG=>?_;obtain ⟨a,ha,h2⟩:=hex;refine gG ?_;clear gG;have h3:=zq1 Q.nd ha;rw [hat] at h3;exact List.length_pos_of_mem (a:=a.1) (gy4.mpr ⟨pm.mem_iff.mpr (cy3.mpr ⟨a,ha,rfl⟩),decide_eq_true (by rw [h3]; exact h2)⟩)
  refine za4 (zc0 (i:=3) ndTa rfl (Or.inl rfl) (zd9 (by intro _ _; rfl) (bv 2 rfl (za6 N (hr.mono (by decide)) rfl DR.at_ DR.fn.kp DR.bd (za3 (bv 0 rfl (za2 (zb9 rfl T.len_ zl5 (za2 (bv 2 rfl (zv9 (.inl rfl) ⟨p,_,rfl,hp.app,?_,?_,fun b W4 b0 b1 pw4=>?_⟩)))))))))))
  ·rw [ay3]; omega
  ·rw [ay3]; omega
  rw [ay3] at b1;obtain ⟨b,rfl⟩ : ∃ n : Nat,b = n:=⟨b.toNat,by omega⟩
  obtain ⟨y,hy⟩ : ∃ z,(ps.filter fun e=>decide (g e.1 e.2 ≠ []))[b]? = some z:=⟨(ps.filter fun e=>decide (g e.1 e.2 ≠ []))[b]'(by omega),by5 _⟩
  have hym:=gy4.mp (cy8 hy);have hyL:=pm.mem_iff.mp hym.1;have hyn : g y.1 y.2 ≠ []:=by simpa using hym.2
  refine za0 fun gG=>?_;obtain ⟨W5,rfl,qw4⟩:=pw4.app hpl
  have hu5 : (W5++[OD.lst (zb4 (ps.map fun p=>tupK [.inr p.1,.inr p.2]))])[u]? = some (.dT (L.map kvU)):=by
   rw [ay8 (by rw [qw4.len]; exact hul),qw4.get hup];exact hu
  obtain ⟨x,y⟩:=y;refine gG ?_;clear gG
  obtain ⟨z,ws,hz⟩ : ∃ z ws,g x y = z :: ws:=by
   cases h : g x y with
   | nil=>exact absurd h hyn
   | cons z ws=>exact ⟨z,ws,rfl⟩
  have hv:=za73 Q.nd hyL;rw [hat,show g (x,y).1 (x,y).2 = z :: ws from hz] at hv;refine zv7 (d:=prD (x,y)) (zh7 (by rw [by1,hy]; rfl)) ?_;refine zb0 (zg4 (zf8 (zf8 (zm0 (za2 (zc6 ⟨[.str "take"],rfl,(by show 1 <= by3; decide),bv 3 rfl (zq9 (by show 1 + 2 <= by3; decide) (zm0 (za2 (zd9 (by intro _ _; rfl) (zd9 (by intro _ _; rfl) (bv 1 rfl (bv 3 rfl (zb49 (ks:=prK (x,y)) hr.units hu5 hv (zb1 (zv7 (d:=.str z) (zh7 (k:=0) rfl) ⟨[.str z],rfl,(by show 1 <= by3; decide),zq9 (by show 3 + 1 <= by3; decide) ⟨_,W5,_,rfl,rfl,qw4.len.symm,qw4.closed hcl,hk ⟨true,x,y,z⟩ ws W5 rfl hz hyL qw4⟩⟩))))))))))⟩))))))
end
abbrev kvP (e : Uw) : List Key × PyData:=(prK e.1,.list (e.2.map .str))
theorem ze22 (L : List Uw) : L.map kvU = (L.map kvP).map fun e=>(e.1,El.d e.2):=by
 rw [ey6];rfl
def lenD : PyData->PyData
 | .list ws=>.int ws.length
 | d=>d
def zN6 (L : List Uw) : Int:=(L.map fun e=>(e.2.length : Int)).sum
theorem zR3 : ∀ {L : List Uw},0 < zN6 L->∃ e∈L,e.2 ≠ []
 | [],h=>by simp [zN6] at h
 | a :: L,h=>by
  by_cases ha : a.2 = []
  ·have : zN6 (a :: L) = zN6 L:=by simp [zN6,ha]
   rw [this] at h;refine za0 fun gG=>?_;obtain ⟨e,he,h2⟩:=zR3 h;refine gG ?_;clear gG;exact ⟨e,by0 _ he,h2⟩
  ·exact ⟨a,ay9,ha⟩
theorem zR4 {α : Type} (xs : List α) (x : α) : atI (xs++[x]) (-1) = some x:=by
 unfold atI
 have : ixN (xs++[x]).length (-1) = some xs.length:=by
  unfold ixN;rw [cy5];simp;omega
 rw [this];simp
structure Under (hs : List Str) (ds : List za7) (L : List Uw) (i : Nat) : Prop where
 q : QU hs (zg2 ds) L
 go : Goes ds
 row : ze7 hs ds
 dl : ds.length <= i
 ll : L.length <= i
 ne : ∀ e∈L,e.1.1 ≠ e.1.2
theorem Under.nil {hs : List Str} : Under hs [] [] 0:=⟨⟨by simp,by simp,fun _ _=>rfl⟩,fun i d h=>by simp at h,⟨by simp,by simp,by simp⟩,ay6 _,ay6 _,by simp⟩
theorem Under.more {hs : List Str} {ds : List za7} {L : List Uw} {i : Nat} (h : Under hs ds L i) : Under hs ds L (i + 1):=⟨h.q,h.go,h.row,vy4 h.dl,vy4 h.ll,h.ne⟩
theorem Under.put {hs : List Str} {ds : List za7} {L : List Uw} {i : Nat} (h : Under hs ds L i) {d : za7} (hd : d.Ok) (hx : d.x∈hs) (hy : d.y∈hs) (hc : zn1 (zg2 ds) d = true) : Under hs (ds++[d]) (zW3 L (d.x,d.y) (zh5 d (zg2 ds d.x d.y))) (i + 1) :=
 ⟨by rw [zd02]; exact h.q.put d hx hy,zq2 h.go hc,h.row.snoc hd hx hy,by rw [cy5]; have:=h.dl; simp; omega,ey1 (zb72 _ _ _) (by have:=h.ll; omega),fun e he=>by
  rcases zQ9 he with z | z
  ·refine za0 fun gG=>?_;obtain ⟨a,ha,e1⟩:=cy3.mp z;refine gG ?_;clear gG;rw [<- e1];exact h.ne a ha
  ·rw [z]; exact hd.ne⟩
theorem gU {W1 : Wl} {n : Nat} {a b : OD} (h : W1.length = n) : (W1++[a,b])[n]? = some a:=by rw [<- h]; simp
theorem gR {W1 : Wl} {n : Nat} {a b : OD} (h : W1.length = n) : (W1++[a,b])[n + 1]? = some b:=by rw [<- h]; simp
theorem sU {W1 : Wl} {n : Nat} {a b c : OD} (h : W1.length = n) : (W1++[a,b]).set n c = W1++[c,b]:=by rw [<- h]; simp
theorem sR {W1 : Wl} {n : Nat} {a b c : OD} (h : W1.length = n) : (W1++[a,b]).set (n + 1) c = W1++[a,c]:=by rw [<- h]; simp
def ze23 : PyData->Bool
 | .tuple (.str k :: _)=>decide (k = "send")
 | _=>false
section
variable {P : cy7} {w : World} {K : ay5} {mg : Str->Option Value} {base : Heap}
def rRow : RB:=fun as W k=>∃ (p m : Nat) (hs : List Str) (st : Bool),as = [.o p,.d (.list (hs.map .str)),.d (.int m),.d (.bool st)] /\ zf4 W p /\ zc95 hs /\ m <= 20 /\ ∀ (ds : List za7) W',zg1 W p W'->ze7 hs ds->Goes ds->ds.length <= 2 * m->k (.d (rP ds)) W'
abbrev pRo : List Str:=["_law_pack_here", "_law_hands_here", "_law_letters", "_law_story"]
abbrev nRo : List Str:=["_law_pack_here", "_law_hands_here", "_law_letters", "_law_story", "_law_under", "_law_row_here", "_law_k", "_law_waiting", "_law_sent", "_law_pick"]
theorem scRo : zb8 nRo pRo (za1 sRow):=⟨rfl,rfl,rfl,by decide +kernel,rfl,by decide +kernel,by decide +kernel⟩
theorem ndRo : nRo.Nodup:=by decide +kernel
def cRo1 : Scope:=match za9 sRow with
 | [_,_,.For _ _ (.Assign _ (.Call _ [.ListComp _ _ sc _] _ _) _ :: _) _ _,_]=>sc
 | _=>zN1
def cRo2 : Scope:=match za9 sRow with
 | [_,_,.For _ _ (_ :: .Assign _ (.Call _ [.ListComp _ _ sc _] _ _) _ :: _) _ _,_]=>sc
 | _=>zN1
theorem zf13 : zb3 nRo (za1 sRow) ["_law_words"] [] [] cRo1:=⟨rfl,by decide +kernel,by decide +kernel,by decide +kernel,rfl,by decide +kernel⟩
theorem zf14 : zb3 nRo (za1 sRow) ["_law_deed"] [] [] cRo2:=⟨rfl,by decide +kernel,by decide +kernel,by decide +kernel,rfl,by decide +kernel⟩
theorem ndWo : (["_law_words"] : List Str).Nodup:=by decide +kernel
theorem ndDe : (["_law_deed"] : List Str).Nodup:=by decide +kernel
structure ze24 (K : ay5) (mg : Str->Option Value) (fR fS fT fD : Addr) (dR dS dT dD : ey7) : Prop where
 take : Def K mg "_law_take" zx1 fR dR pTk
 send : Def K mg "_law_sending" zh9 fS dS pSe
 taking : Def K mg "_law_taking" zl1 fT dT pTa
 done : Def K mg "_law_done" zM9 fD dD pDn
abbrev zf16 (p : Nat) (hs : List Str) (m : Nat) (st : Bool) (W : Wl) (o6 : Option El) (o7 : Option El) (o8 : Option El) (o9 : Option El) : Sl:=[some (.o p),some (.d (.list (hs.map .str))),some (.d (.int m)),some (.d (.bool st)),some (.o W.length),some (.o (W.length + 1)),o6,o7,o8,o9]
abbrev iRow (p : Nat) (m : Nat) (hs : List Str) (st : Bool) (W : Wl) : Nat->Sl->Wl->Prop:=fun i S' W'=>∃ (o6 o7 o8 o9 : Option El) (W1 : Wl) (ds : List za7) (L : List Uw),S' = zf16 p hs m st W o6 o7 o8 o9 /\ W' = W1++[.dT (L.map kvU),.lst (zb4 (ds.map dP))] /\ zg1 W p W1 /\ Under hs ds L i
theorem ze25 {f fR fS fT fD : Addr} {fd dR dS dT dD : ey7} (F : Fun K "_law_row" "_law_row" sRow f fd) (T : Txt mg) (D : ze24 K mg fR fS fT fD dR dS dT dD) : zj0 P w K mg base CX0 3 f fd pRo (spB K rRow):=by
 have N:=@zr5 P w K mg base _ _ D.take.fn T;have NS:=@zz5 P w K mg base _ _ _ _ D.send.fn T D.take;have NT:=@za74 P w K mg base _ _ _ _ D.taking.fn T D.take;have ND:=@zd04 P w K mg base _ _ D.done.fn T;refine zo8 F scRo (fun as W k hR=>by obtain ⟨p,m,hs,st,e,_⟩:=hR; subst e; rfl) fun cc hr as W k hcl hR=>?_;refine exE4 hR fun p m hs st qA=>?_;clear hR;refine anE5 qA fun e hp hh hm hk=>?_;clear qA;subst e;have hpl:=hp.lt;refine za4 (zc0 (i:=4) ndRo rfl (Or.inl rfl) (zC0 ?_));refine za4 (zc0 (i:=5) ndRo rfl (Or.inl rfl) (zq8 (zk0 ⟨dy9 _,?_⟩)));refine za4 (zs9 ly9 rfl (zp3 rfl T.range_ (zf8 (zb1 (bv 2 rfl (zc12 (.inl ⟨by decide,by decide⟩) ?_))))));rw [show (2 : Int) * (m : Int) = ((2 * m : Nat) : Int) by omega];have hrl : (zm3 0 ((2 * m : Nat) : Int).toNat).length = 2 * m:=by rw [rng]; simp
 refine ⟨_,rfl,by omega,by omega,W.length,iRow p m hs st W,ay6 _,dy9 _,by simp,⟨none,none,none,none,W,[],[],by simp [zH2],by simp [zb4],hp.self,.nil⟩,fun _ _ _ _ _=>trivial,?_,?_⟩
 ·intro i z S' W' hz gX;refine exE7 gX fun o6 o7 o8 o9 W1 ds L qA=>?_;clear gX;refine anE4 qA fun qe0 qe1 hw U=>?_;clear qA;subst qe0;subst qe1;have hi : i < 2 * m:=by rw [<- hrl]; exact (ay4.mp hz).1
  have hl:=hw.len;have gP : (W1++[OD.dT (L.map kvU),OD.lst (zb4 (ds.map dP))])[W.length]? = some (.dT ((L.map kvP).map fun e=>(e.1,El.d e.2))):=by rw [<- ze22]; exact gU hl
  have hdl:=U.dl;have hll:=U.ll;refine zm2 (i:=6) ndRo rfl (Or.inl rfl) ?_;refine za4 (zc0 (i:=7) ndRo rfl (Or.inl rfl) (zb9 rfl T.sum_ ze98 (za2 (ze03 (j:=W.length) gP fun o=>zk7 rfl zf13 (zc90 (bv 4 rfl ⟨W.length,o,L.map kvP,rfl,?_,zz0 lenD ?_ ?_ ?_ ⟨?_,?_⟩⟩))))))
  ·rw [sU hl]; exact gU hl
  ·rw [sU hl]; exact gU hl
  ·rw [ay3,ay3]; exact zb6 (by omega)
  ·intro d hd;refine za0 fun gG=>?_;obtain ⟨kv,hkv,rfl⟩:=cy3.mp hd;obtain ⟨e,he,rfl⟩:=cy3.mp hkv;refine gG ?_;clear gG;refine ze2 (i:=0) ndWo rfl (by decide) (fun _ _ _ _ _=>Or.inl rfl) (fun _ _ _ _ _=>rfl) fun cl C ex s H=>?_;exact zb9 rfl T.len_ zl5 (za2 (bv 0 rfl (zv9 (.inl rfl) ⟨rfl,rfl⟩)))
  ·rw [sU hl]; exact gU hl
  have back : ((W1++[OD.dT (L.map kvU),OD.lst (zb4 (ds.map dP))]).set W.length (.fT o ((L.map kvP).map fun e=>(e.1,El.d e.2)))).set W.length (.dT ((L.map kvP).map fun e=>(e.1,El.d e.2))) = W1++[OD.dT (L.map kvU),OD.lst (zb4 (ds.map dP))]:=by rw [sU hl,sU hl,<- ze22]
  rw [back]
  have ei : ((L.map kvP).map (·.2)).map lenD = (L.map fun e=>(e.2.length : Int)).map .int:=by
   rw [ey6,ey6,ey6];refine ny0 fun e _=>?_;show PyData.int _ = PyData.int _;rw [ay3]
  rw [ei];refine zd99 rfl (.inl rfl) ?_;refine za4 (zc0 (i:=8) ndRo rfl (Or.inl rfl) (zb9 rfl T.len_ zl5 (za2 (zk7 rfl zf14 (za25 (bv 5 rfl ⟨W.length + 1,ds.map dP,rfl,gR hl,zk2 ze23 id (gR hl) ?_ ?_ (zv9 (.inl rfl) ?_)⟩))))))
  ·rw [ay3]; exact zb6 (by omega)
  ·intro z hz;refine za0 fun gG=>?_;obtain ⟨d,hd,rfl⟩:=cy3.mp hz;refine gG ?_;clear gG;refine ze2 (i:=0) ndDe rfl (by decide) (fun _ _ _ _ _=>Or.inl rfl) (fun _ _ _ _ _=>rfl) ⟨fun cl C ex s H=>?_,fun _ cl C ex s H=>bv 0 rfl ⟨rfl,rfl⟩⟩;exact ze0 rfl (zd9 (by intro _ _; rfl) (bv 0 rfl (zb1 (zi2 (d:=.str d.kd) rfl (zc6 (zn7 ⟨_,rfl,rfl,rfl⟩))))))
  generalize ((((ds.map dP).filter ze23).map id).length : Int) = sent;refine za4 (zc0 (i:=9) ndRo rfl (Or.inl rfl) (za6 N (hr.mono (by decide)) rfl D.take.at_ D.take.fn.kp D.take.bd (za3 (bv 0 rfl (za2 (zb1 ⟨p,5,rfl,(hw.at hpl).app,by decide,by decide,fun r W2 r0 r1 pw=>?_⟩))))));obtain ⟨W2,rfl,qw⟩:=pw.app (by rw [hl]; exact hpl);have hw2:=hw.trans qw;have hl2:=hw2.len;refine zb0 (zi4 (BT.mono (k:=fun b Wc=>Wc = W2++[OD.dT (L.map kvU),OD.lst (zb4 (ds.map dP))]) (BW.bt (zv6 (ze0 rfl (bv 8 rfl (bv 2 rfl (zc63 ⟨_,rfl,?_⟩)))))) fun b Wc hb=>?_))
  ·split
   ·refine zv5 (BW.bt (zG5 (ze0 rfl (bv 7 rfl (zb1 (zd80 ⟨_,rfl,?_⟩))))))
    split
    ·rfl
    ·exact zs4 (ze0 rfl (bv 9 rfl (zb1 (zc63 ⟨_,rfl,rfl⟩))))
   ·rfl
  subst hb;have hrn : ∀ x y,(zg2 ds x y).length <= 900:=fun x y=>ey1 (za70 ds x y) (by omega);cases b with
  | true =>
   refine zl9 (za4 (ze9 (zn3 fy9 iy1 iy2 (bv 5 rfl ⟨.inl ⟨rfl,_,gR hl2⟩,za2 (za6 NS (hr.mono (by decide)) rfl D.send.at_ D.send.fn.kp D.send.bd (za3 (bv 0 rfl (za2 (bv 1 rfl ⟨p,hs,rfl,(hw2.at hpl).app,hh,fun d W3 dt dk dx dy _ pw3=>?_⟩)))))⟩))));obtain ⟨W3,rfl,qw3⟩:=pw3.app (by rw [hl2]; exact hpl);have hw3:=hw2.trans qw3;have hl3:=hw3.len;refine zh0 (gR hl3) (hL (by simp [zb4]; omega)) ?_;rw [sR hl3];refine zb0 (ze9 (za6 ND (hr.mono (by decide)) rfl D.done.at_ D.done.fn.kp D.done.bd (za3 (bv 4 rfl (za2 (zd9 (by intro _ _; rfl) (bv 5 rfl (za59 (zb1 ⟨1,rfl,zs5 (gR hl3) (e:=.d (dP d)) (zR4 _ _) ⟨W.length,d,L,hs,zg2 ds,rfl,gU hl3,U.q,dk,by omega,hrn _ _,(fun z=>by rw [dt] at z; cases z),?_⟩⟩)))))))));rw [sU hl3];exact ⟨_,_,_,_,W3,ds++[d],_,rfl,by simp [zb4],hw3,U.put dk dx dy (by simp [zn1,dt])⟩
  | false =>
   refine zl6 (zb0 (zi4 (BT.mono (k:=fun b Wc=>Wc = W2++[OD.dT (L.map kvU),OD.lst (zb4 (ds.map dP))] /\ (b = true->0 < zN6 L)) (BW.bt (zv6 (ze0 rfl (bv 7 rfl (zb1 (zd78 ⟨_,rfl,?_⟩)))))) fun b Wc hb=>?_)))
   ·split
    ·rename_i hgt
     have hgt : 0 < zN6 L:=of_decide_eq_true hgt;refine zv5 (BW.bt (zG5 (zf9 (bv 3 rfl ⟨_,rfl,?_⟩))))
     split
     ·exact ⟨rfl,fun _=>hgt⟩
     ·exact zs4 (ze0 rfl (bv 9 rfl (zb1 (zc63 ⟨_,rfl,rfl,fun _=>hgt⟩))))
    ·exact ⟨rfl,fun z=>by cases z⟩
   refine za0 fun gG=>?_;obtain ⟨rfl,hb⟩:=hb;refine gG ?_;clear gG;cases b with
   | true =>
    have hnm:=zc30 U.row.ok;refine zl9 (za4 (ze9 (zn3 fy9 iy1 iy2 (bv 5 rfl ⟨.inl ⟨rfl,_,gR hl2⟩,za2 (za6 NT (hr.mono (by decide)) rfl D.taking.at_ D.taking.fn.kp D.taking.bd (za3 (bv 0 rfl (za2 (bv 4 rfl ⟨p,W.length,L,hs,zg2 ds,rfl,(hw2.at hpl).app,by omega,gU hl2,U.q,by omega,hnm,zR3 (hb rfl),fun d ws W3 dt dw dm pw3=>?_⟩)))))⟩))));obtain ⟨W3,rfl,qw3⟩:=pw3.app (by rw [hl2]; exact hpl);have hw3:=hw2.trans qw3;have hl3:=hw3.len
    have dp : d.x∈hs /\ d.y∈hs:=by
     refine za0 fun gG=>?_;obtain ⟨a,ha,e⟩:=cy3.mp dm;refine gG ?_;clear gG;have:=U.q.pr a ha;rw [e] at this;exact this
    have dn : d.x ≠ d.y:=by
     refine za0 fun gG=>?_;obtain ⟨a,ha,e⟩:=cy3.mp dm;refine gG ?_;clear gG;have:=U.ne a ha;rw [e] at this;exact this
    have dk : d.Ok:=⟨hh.nm _ dp.1,hh.nm _ dp.2,hnm d.x d.y d.w (by rw [dw]; exact ay9),dn⟩
    refine zh0 (gR hl3) (hL (by simp [zb4]; omega)) ?_;rw [sR hl3];refine zb0 (ze9 (za6 ND (hr.mono (by decide)) rfl D.done.at_ D.done.fn.kp D.done.bd (za3 (bv 4 rfl (za2 (zd9 (by intro _ _; rfl) (bv 5 rfl (za59 (zb1 ⟨1,rfl,zs5 (gR hl3) (e:=.d (dP d)) (zR4 _ _) ⟨W.length,d,L,hs,zg2 ds,rfl,gU hl3,U.q,dk,by omega,hrn _ _,(fun _=>by rw [dw]; simp),?_⟩⟩)))))))));rw [sU hl3];exact ⟨_,_,_,_,W3,ds++[d],_,rfl,by simp [zb4],hw3,U.put dk dp.1 dp.2 (by simp [zn1,dw])⟩
   | false =>
    exact zl6 (zh1 ⟨_,_,_,_,W2,ds,L,rfl,rfl,hw2,U.more⟩)
 ·intro S' W' gX;refine exE7 gX fun o6 o7 o8 o9 W1 ds L qA=>?_;clear gX;refine anE4 qA fun qe0 qe1 hw U=>?_;clear qA;subst qe0;subst qe1;have hdl:=U.dl;rw [hrl] at hdl;exact zb0 (zg4 (zg3 rfl T.tuple_ zl2 (za2 (bv 5 rfl (zr0 (.inr ⟨_,rfl,gR hw.len⟩) ⟨_,W1,[_,_],rfl,rfl,hw.len.symm,hw.closed hcl,hk ds W1 hw U.row U.go hdl⟩)))))
end
def handOf (d : za7) : Str:=if d.tk then d.y else d.x
def ze26 : PyData->List Str
 | .tuple [_,.str x,.str y,_]=>[x,y]
 | _=>[]
def zN7 (ds : List za7) : List Str:=ds.flatMap fun d=>[d.x,d.y]
theorem za75 (ds : List za7) : (ds.map dP).flatMap ze26 = zN7 ds:=by
 unfold zN7;rw [List.flatMap_map];rfl
theorem zI9 {α : Type} [DecidableEq α] : ∀ {a b : List α},a.Nodup->(∀ x∈a,x∈b)->a.length <= b.length
 | [],b,_,_=>by simp
 | x :: a,b,nd,h=>by
  simp only [ly5] at nd;have hx : x∈b:=h x ay9;have:=zI9 (a:=a) (b:=b.erase x) nd.2 fun y hy=>(List.mem_erase_of_ne (fun z : y = x=>nd.1 (z ▸ hy))).mpr (h y (by0 _ hy));rw [List.length_erase_of_mem hx] at this;have : 0 < b.length:=List.length_pos_of_mem hx;simp only [py7];omega
theorem zm6 {hs : List Str} {ds : List za7} (h : ze7 hs ds) (hh : hs.length <= 8) : (zc9 (zN7 ds)).length <= 8 /\ (zc9 (zN7 ds)).length ≠ 1:=by
 refine ⟨ey1 (zI9 (zn0 _) fun x hx=>?_) hh,fun e=>?_⟩
 ·refine za0 fun gG=>?_;obtain ⟨d,hd,hxd⟩:=sy8.mp (zf3.mp hx);refine gG ?_;clear gG;simp at hxd;rcases hxd with rfl | rfl
  ·exact h.x d hd
  ·exact h.y d hd
 ·obtain ⟨z,hz⟩:=List.length_eq_one_iff.mp e;have hz1 : z∈zN7 ds:=zf3.mp (by rw [hz]; simp);refine za0 fun gG=>?_;obtain ⟨d,hd,_⟩:=sy8.mp hz1;refine gG ?_;clear gG;have m1 : d.x∈zc9 (zN7 ds):=zf3.mpr (sy8.mpr ⟨d,hd,by simp⟩);have m2 : d.y∈zc9 (zN7 ds):=zf3.mpr (sy8.mpr ⟨d,hd,by simp⟩);rw [hz] at m1 m2;simp at m1 m2;exact (h.ok d hd).ne (m1.trans m2.symm)
theorem zb76 (ds : List za7) : (zN7 ds).length = 2 * ds.length:=by
 unfold zN7
 induction ds with
 | nil=>rfl
 | cons d ds ih=>rw [List.flatMap_cons,cy5,ih]; simp; omega
section
variable {P : cy7} {w : World} {K : ay5} {mg : Str->Option Value} {base : Heap}
def zd06 : RB:=fun as W k=>∃ d : za7,as = [.d (dP d)] /\ k (.d (.str (handOf d))) W
theorem scHo : zb8 ["deed"] ["deed"] (za1 zl0):=⟨rfl,rfl,rfl,by decide +kernel,rfl,by decide +kernel,by decide +kernel⟩
theorem zd07 : ("send" : Str) ≠ "take" := by decide +kernel
theorem zJ0 {f : Addr} {fd : ey7} (F : Fun K "hand_of" "hand_of" zl0 f fd) : zj0 P w K mg base CX0 1 f fd ["deed"] (spB K zd06):=by
 refine zo8 F scHo (fun as W k hR=>by obtain ⟨d,e,_⟩:=hR; subst e; rfl) fun cc hr as W k hcl hR=>?_;refine za0 fun gG=>?_;obtain ⟨d,e,hk⟩:=hR;subst e;obtain ⟨tk,x,y,z⟩:=d;refine gG ?_;clear gG;refine zb0 (zd3 (ze86 (ze0 rfl (zd9 (by intro _ _; rfl) (bv 0 rfl (zb1 (zi2 (d:=.str (za7.kd ⟨tk,x,y,z⟩)) rfl (zc6 (zn7 ⟨_,rfl,?_⟩)))))))));cases tk with
 | false =>
  rw [decide_eq_true (show za7.kd ⟨false,x,y,z⟩ = "send" from rfl)];exact zl9 (zd9 (by intro _ _; rfl) (bv 0 rfl (zb1 (zi2 (d:=.str x) rfl hk))))
 | true =>
  rw [decide_eq_false (show ¬ za7.kd ⟨true,x,y,z⟩ = "send" from zb75)];exact zl6 (zd9 (by intro _ _; rfl) (bv 0 rfl (zb1 (zi2 (d:=.str y) rfl hk))))
def zb77 : RB:=fun as W k=>∃ (hs : List Str) (ds : List za7),as = [.d (rP ds)] /\ ze7 hs ds /\ hs.length <= 8 /\ ds.length <= 1000 /\ ∀ ss : List Str,ss.Perm (zc9 (zN7 ds))->PyProof.Rows.sortedS ss = true->k (.d (.tuple (ss.map .str))) W
theorem scHs : zb8 ["row"] ["row"] (za1 zh8):=⟨rfl,rfl,rfl,by decide +kernel,rfl,by decide +kernel,by decide +kernel⟩
def cHs : Scope:=match za9 zh8 with
 | [.Return (some (.Call _ [.Call _ [.SetComp _ _ sc _] _ _] _ _)) _]=>sc
 | _=>zN1
theorem csHs : zb3 ["row"] (za1 zh8) ["deed", "hand"] [] [] cHs:=⟨rfl,by decide +kernel,by decide +kernel,by decide +kernel,rfl,by decide +kernel⟩
theorem ndHs : (["deed", "hand"] : List Str).Nodup:=by decide +kernel
theorem zf17 {d : za7} : zm1 [hy3 d.kd,.str d.x,.str d.y,.str d.w] (some 1) (some 3) = [.str d.x,.str d.y]:=rfl
theorem zz7 {f : Addr} {fd : ey7} (F : Fun K "hands_of" "hands_of" zh8 f fd) (T : Txt mg) : zj0 P w K mg base CX0 1 f fd ["row"] (spB K zb77):=by
 refine zo8 F scHs (fun as W k hR=>by obtain ⟨hs,ds,e,_⟩:=hR; subst e; rfl) fun cc hr as W k hcl hR=>?_;refine exE2 hR fun hs ds qA=>?_;clear hR;refine anE5 qA fun e hok hh hl hk=>?_;clear qA;subst e;obtain ⟨o1,o2⟩:=zm6 hok hh;have o3:=zb76 ds;refine zb0 (zg4 (zg3 rfl T.tuple_ zl2 (za2 (zW0 (O:=["deed", "hand"]) (Fv:=[]) (cap:=[]) (j1:=0) (j2:=1) rfl rfl T.sorted_ zt9 csHs ndHs rfl rfl (by decide) (by decide) (by decide) (fun _ _ _ _ _=>rfl) (fun _ _ _ _ _=>rfl) (zs8 (bv 0 rfl ⟨_,rfl,trivial,ze26,?_,?_,?_⟩))))))
 ·intro z hz;refine za0 fun gG=>?_;obtain ⟨d,hd,rfl⟩:=cy3.mp hz;refine gG ?_;clear gG;intro cl C ex s H;refine zc8 (bv 0 rfl (zd0 (zb1 ⟨1,rfl,zd0 (zb1 ⟨3,rfl,zn5 ⟨rfl,?_⟩⟩)⟩)));rw [zf17];rfl
 ·intro z hz x hx cl C ex s H;exact bv 1 rfl ⟨rfl,rfl⟩
 ·rw [za75];refine ⟨by rw [o3]; show _ < 4096; omega,by omega,o2,fun ss pm so=>?_⟩;exact zr0 (.inr ⟨_,rfl,zd7⟩) ⟨_,W,[_],rfl,rfl,rfl,hcl,hk ss pm so⟩
def viewOf (x : Str) (ds : List za7) : List za7:=ds.filter fun d=>decide (handOf d = x)
def zf18 : RB:=fun as W k=>∃ (x : Str) (ds : List za7),as = [.d (rP ds),.d (.str x)] /\ ds.length <= 1000 /\ k (.d (rP (viewOf x ds))) W
abbrev nVi : List Str:=["row", "hand"]
theorem scVi : zb8 nVi nVi (za1 zy4):=⟨rfl,rfl,rfl,by decide +kernel,rfl,by decide +kernel,by decide +kernel⟩
def cVi : Scope:=match za9 zy4 with
 | [.Return (some (.Call _ [.ListComp _ _ sc _] _ _)) _]=>sc
 | _=>zN1
theorem csVi : zb3 nVi (za1 zy4) ["deed"] ["hand"] [1] cVi:=⟨rfl,by decide +kernel,by decide +kernel,by decide +kernel,rfl,by decide +kernel⟩
theorem ndVi : (["deed", "hand"] : List Str).Nodup:=ndHs
def zJ1 (x : Str) : PyData->Bool
 | .tuple [.str kd,.str a,.str b,_]=>decide ((if kd = "take" then b else a) = x)
 | _=>false
theorem zu1 (x : Str) (d : za7) : zJ1 x (dP d) = decide (handOf d = x):=by
 refine za0 fun gG=>?_;obtain ⟨tk,a,b,z⟩:=d;refine gG ?_;clear gG;cases tk with
 | false =>
  show decide ((if ("send" : Str) = "take" then b else a) = x) = decide (a = x);rw [if_neg zd07]
 | true =>
  show decide ((if ("take" : Str) = "take" then b else a) = x) = decide (b = x);rw [if_pos rfl]
theorem zd08 {f fO : Addr} {fd dO : ey7} (F : Fun K "view" "view" zy4 f fd) (T : Txt mg) (DO : Def K mg "hand_of" zl0 fO dO ["deed"]) : zj0 P w K mg base CX0 2 f fd nVi (spB K zf18):=by
 have NO:=@zJ0 P w K mg base _ _ DO.fn;refine zo8 F scVi (fun as W k hR=>by obtain ⟨x,ds,e,_⟩:=hR; subst e; rfl) fun cc hr as W k hcl hR=>?_;refine za0 fun gG=>?_;obtain ⟨x,ds,e,hl,hk⟩:=hR;subst e;refine gG ?_;clear gG;refine zb0 (zd3 (zg3 rfl T.tuple_ zl2 (za2 (zk7 rfl csVi (zs8 (bv 0 rfl ⟨ds.map dP,rfl,zk2 (zJ1 x) id trivial ?_ ?_ ?_⟩))))))
 ·rw [ay3]; exact zb6 (by omega)
 ·intro z hz;refine za0 fun gG=>?_;obtain ⟨d,hd,rfl⟩:=cy3.mp hz;refine gG ?_;clear gG;refine ze2 (i:=0) ndVi rfl (by decide) (fun _ _ _ _ _=>Or.inl rfl) (fun _ _ _ _ _=>rfl) ⟨fun cl C ex s H=>?_,fun _ cl C ex s H=>bv 0 rfl ⟨rfl,rfl⟩⟩;exact ze0 rfl (za6 NO (hr.mono (by decide)) rfl DO.at_ DO.fn.kp DO.bd (za2 (bv 0 rfl ⟨d,rfl,bv 1 rfl (zn7 ⟨_,rfl,(zu1 x d).symm,rfl⟩)⟩)))
 ·have e : ((ds.map dP).filter (zJ1 x)).map id = (viewOf x ds).map dP:=by
   rw [List.map_id,xy1];unfold viewOf
   congr 1
   exact List.filter_congr fun d _=>zu1 x d
  rw [e];exact zr0 (.inl rfl) hk
end
def zz8 (kvs : List (List Key × El)) (f : Wd) : Prop:=∀ x y,(zn4 kvs [.inr x,.inr y]).getD (.d (.list [])) = .d (.list ((f x y).map .str))
theorem zz8.put {kvs : List (List Key × El)} {f : Wd} (h : zz8 kvs f) (d : za7) : zz8 (zz2 kvs [.inr d.x,.inr d.y] (.d (.list ((zh5 d (f d.x d.y)).map .str)))) (zd6 f d):=fun x y=>by
 rw [zQ8];unfold zd6
 by_cases e : x = d.x /\ y = d.y
 ·refine za0 fun gG=>?_;obtain ⟨rfl,rfl⟩:=e;refine gG ?_;clear gG;rw [if_pos rfl,if_pos ⟨rfl,rfl⟩];rfl
 ·rw [if_neg e,if_neg (fun z=>e ?_)]
  ·exact h x y
  ·injection z with z1 z2
   injection z2 with z2 _
   exact ⟨ty7 z1,ty7 z2⟩
theorem zz8.at {kvs : List (List Key × El)} {f : Wd} (h : zz8 kvs f) {x y : Str} (hn : f x y ≠ []) : zn4 kvs [.inr x,.inr y] = some (.d (.list ((f x y).map .str))):=by
 have e:=h x y;cases hv : zn4 kvs [.inr x,.inr y] with
 | none =>
  rw [hv] at e;injection e with e
  injection e with e
  cases hl : f x y with
  | nil=>exact absurd hl hn
  | cons a b=>rw [hl] at e; cases e
 | some v =>
  rw [hv] at e;exact congrArg some e
theorem zd09 {a b : List Str} (h : ∀ x,x∈a ↔ x∈b) : (zc9 a).Perm (zc9 b):=(List.perm_ext_iff_of_nodup (zn0 _) (zn0 _)).mpr fun x=>by rw [zf3,zf3]; exact h x
def xD : PyData->PyData
 | .tuple [_,x,_,_]=>x
 | d=>d
def yD : PyData->PyData
 | .tuple [_,_,y,_]=>y
 | d=>d
theorem ze27 (ds : List za7) (x : Str) : x∈ds.map (·.x)++ds.map (·.y) ↔ x∈zN7 ds:=by
 unfold zN7;simp only [ey0,cy3,sy8,by7,my4,or_false];constructor
 ·rintro (⟨d,hd,rfl⟩ | ⟨d,hd,rfl⟩)
  ·exact ⟨d,hd,.inl rfl⟩
  ·exact ⟨d,hd,.inr rfl⟩
 ·rintro ⟨d,hd,rfl | rfl⟩
  ·exact .inl ⟨d,hd,rfl⟩
  ·exact .inr ⟨d,hd,rfl⟩
theorem za76 {X : Bc} {S : Sl} {W : Wl} {tg iter : Expr} {ki : Nat->(Wl->Prop)->List PyData->Wl->Prop} {ds : List PyData} {x : PyData} (hx : x = .tuple ds \/ x = .list ds) (h : ki 0 GT ds W) (he : ∀ {k : KB},k (.d x) W->BE X S W iter k) : BI X S W tg iter ki:=by
 rcases hx with rfl | rfl
 ·exact zs8 (he ⟨ds,rfl,h⟩)
 ·exact zw0 (he ⟨ds,rfl,h⟩)
section
variable {P : cy7} {w : World} {K : ay5} {mg : Str->Option Value} {base : Heap}
def ze28 : RB:=fun as W k=>∃ d : za7,as = [.d (dP d)] /\ k (.d (.str (handOf d))) W
theorem scHl : zb8 ["_law_deed"] ["_law_deed"] (za1 zp8):=⟨rfl,rfl,rfl,by decide +kernel,rfl,by decide +kernel,by decide +kernel⟩
theorem zD8 {f : Addr} {fd : ey7} (F : Fun K "_law_hand" "_law_hand" zp8 f fd) (T : Txt mg) : zj0 P w K mg base CX0 1 f fd ["_law_deed"] (spB K ze28):=by
 refine zo8 F scHl (fun as W k hR=>by obtain ⟨d,e,_⟩:=hR; subst e; rfl) fun cc hr as W k hcl hR=>?_;refine za0 fun gG=>?_;obtain ⟨d,e,hk⟩:=hR;subst e;obtain ⟨tk,x,y,z⟩:=d;refine gG ?_;clear gG;refine zb0 (zd3 (zd9 (by intro _ _; rfl) (zg9 (za3 (zd9 (by intro _ _; rfl) (bv 0 rfl (zb1 (zi2 (d:=.str y) rfl (za2 (zd9 (by intro _ _; rfl) (bv 0 rfl (zb1 (zi2 (d:=.str x) rfl ⟨[.str y,.str x],rfl,(by show 2 <= by3; decide),zg3 rfl T.int_ ze97 (za2 (zs3 rfl (zd9 (by intro _ _; rfl) (bv 0 rfl (zb1 (zi2 (d:=.str (za7.kd ⟨tk,x,y,z⟩)) rfl (zc6 (zn7 (zc68 ?_)))))))))⟩)))))))))))));cases tk with
 | false =>
  rw [decide_eq_true (show za7.kd ⟨false,x,y,z⟩ = "send" from rfl)];exact zv7 (d:=.str x) rfl hk
 | true =>
  rw [decide_eq_false (show ¬ za7.kd ⟨true,x,y,z⟩ = "send" from zb75)];exact zv7 (d:=.str y) rfl hk
def ze29 : RB:=fun as W k=>∃ (x : Str) (ds : List za7),as = [.d (rP ds),.d (.str x)] /\ ds.length <= 1000 /\ k (.d (rP (viewOf x ds))) W
abbrev nVl : List Str:=["_law_row_here", "_law_hand_here"]
theorem scVl : zb8 nVl nVl (za1 zp9):=⟨rfl,rfl,rfl,by decide +kernel,rfl,by decide +kernel,by decide +kernel⟩
def cVl : Scope:=match za9 zp9 with
 | [.Return (some (.Call _ [.ListComp _ _ sc _] _ _)) _]=>sc
 | _=>zN1
theorem csVl : zb3 nVl (za1 zp9) ["_law_deed"] ["_law_hand_here"] [1] cVl:=⟨rfl,by decide +kernel,by decide +kernel,by decide +kernel,rfl,by decide +kernel⟩
theorem ndVl : (["_law_deed", "_law_hand_here"] : List Str).Nodup:=by decide +kernel
theorem zR5 {f fO : Addr} {fd dO : ey7} (F : Fun K "_law_view" "_law_view" zp9 f fd) (T : Txt mg) (DO : Def K mg "_law_hand" zp8 fO dO ["_law_deed"]) : zj0 P w K mg base CX0 2 f fd nVl (spB K ze29):=by
 have NO:=@zD8 P w K mg base _ _ DO.fn T;refine zo8 F scVl (fun as W k hR=>by obtain ⟨x,ds,e,_⟩:=hR; subst e; rfl) fun cc hr as W k hcl hR=>?_;refine za0 fun gG=>?_;obtain ⟨x,ds,e,hl,hk⟩:=hR;subst e;refine gG ?_;clear gG;refine zb0 (zd3 (zg3 rfl T.tuple_ zl2 (za2 (zk7 rfl csVl (zs8 (bv 0 rfl ⟨ds.map dP,rfl,zk2 (zJ1 x) id trivial ?_ ?_ ?_⟩))))))
 ·rw [ay3]; exact zb6 (by omega)
 ·intro z hz;refine za0 fun gG=>?_;obtain ⟨d,hd,rfl⟩:=cy3.mp hz;refine gG ?_;clear gG;refine ze2 (i:=0) ndVl rfl (by decide) (fun _ _ _ _ _=>Or.inl rfl) (fun _ _ _ _ _=>rfl) ⟨fun cl C ex s H=>?_,fun _ cl C ex s H=>bv 0 rfl ⟨rfl,rfl⟩⟩;exact ze0 rfl (za6 NO (hr.mono (by decide)) rfl DO.at_ DO.fn.kp DO.bd (za2 (bv 0 rfl ⟨d,rfl,bv 1 rfl (zn7 ⟨_,rfl,(zu1 x d).symm,rfl⟩)⟩)))
 ·have e : ((ds.map dP).filter (zJ1 x)).map id = (viewOf x ds).map dP:=by
   rw [List.map_id,xy1];unfold viewOf
   congr 1
   exact List.filter_congr fun d _=>zu1 x d
  rw [e];exact zr0 (.inl rfl) hk
def zf19 : RB:=fun as W k=>∃ (hs : List Str) (ds : List za7),as = [.d (rP ds)] /\ ze7 hs ds /\ hs.length <= 8 /\ ds.length <= 900 /\ ∀ ss : List Str,ss.Perm (zc9 (zN7 ds))->PyProof.Rows.sortedS ss = true->k (.d (.list (ss.map .str))) W
theorem scAh : zb8 ["_law_row_here"] ["_law_row_here"] (za1 zx3):=⟨rfl,rfl,rfl,by decide +kernel,rfl,by decide +kernel,by decide +kernel⟩
def cAh1 : Scope:=match za9 zx3 with
 | [.Return (some (.Call _ [.Call _ [.BinOp (.ListComp _ _ sc _) _ _ _] _ _] _ _)) _]=>sc
 | _=>zN1
def cAh2 : Scope:=match za9 zx3 with
 | [.Return (some (.Call _ [.Call _ [.BinOp _ _ (.ListComp _ _ sc _) _] _ _] _ _)) _]=>sc
 | _=>zN1
theorem zf20 : zb3 ["_law_row_here"] (za1 zx3) ["_law_deed"] [] [] cAh1:=⟨rfl,by decide +kernel,by decide +kernel,by decide +kernel,rfl,by decide +kernel⟩
theorem zf21 : zb3 ["_law_row_here"] (za1 zx3) ["_law_deed"] [] [] cAh2:=⟨rfl,by decide +kernel,by decide +kernel,by decide +kernel,rfl,by decide +kernel⟩
theorem za77 {f : Addr} {fd : ey7} (F : Fun K "_law_all_hands" "_law_all_hands" zx3 f fd) (T : Txt mg) : zj0 P w K mg base CX0 1 f fd ["_law_row_here"] (spB K zf19):=by
 refine zo8 F scAh (fun as W k hR=>by obtain ⟨hs,ds,e,_⟩:=hR; subst e; rfl) fun cc hr as W k hcl hR=>?_;refine exE2 hR fun hs ds qA=>?_;clear hR;refine anE5 qA fun e hok hh hl hk=>?_;clear qA;subst e;obtain ⟨o1,o2⟩:=zm6 hok hh;have pe:=zd09 (ze27 ds);have o3:=pe.length_eq;have e1 : (ds.map dP).map xD = (ds.map (·.x)).map .str:=by rw [ey6,ey6]; rfl
 have e2 : (ds.map dP).map yD = (ds.map (·.y)).map .str:=by rw [ey6,ey6]; rfl
 refine zb0 (zb39 (zV6 rfl rfl T.sorted_ zt9 rfl T.set_ ze99 (zf8 (zk7 rfl zf20 (zs8 (bv 0 rfl ⟨ds.map dP,rfl,zz0 xD trivial ?_ ?_ (zk7 rfl zf21 (zs8 (bv 0 rfl ⟨ds.map dP,rfl,zz0 yD trivial ?_ ?_ (zB1 (.inl rfl) (.inl rfl) ?_ ⟨ds.map (·.x)++ds.map (·.y),?_,by omega,by omega,?_,fun ss pm so=>?_⟩)⟩)))⟩))))))
 ·rw [ay3]; exact zb6 (by omega)
 ·intro z hz;refine za0 fun gG=>?_;obtain ⟨d,hd,rfl⟩:=cy3.mp hz;refine gG ?_;clear gG;refine ze2 (i:=0) ndDe rfl (by decide) (fun _ _ _ _ _=>Or.inl rfl) (fun _ _ _ _ _=>rfl) fun cl C ex s H=>?_;exact zd9 (by intro _ _; rfl) (bv 0 rfl (zb1 (zi2 (d:=.str d.x) rfl ⟨rfl,rfl⟩)))
 ·rw [ay3]; exact zb6 (by omega)
 ·intro z hz;refine za0 fun gG=>?_;obtain ⟨d,hd,rfl⟩:=cy3.mp hz;refine gG ?_;clear gG;refine ze2 (i:=0) ndDe rfl (by decide) (fun _ _ _ _ _=>Or.inl rfl) (fun _ _ _ _ _=>rfl) fun cl C ex s H=>?_;exact zd9 (by intro _ _; rfl) (bv 0 rfl (zb1 (zi2 (d:=.str d.y) rfl ⟨rfl,rfl⟩)))
 ·simp only [ay3]; exact zb6 (by omega)
 ·rw [e1,e2,<- gy1]; exact .inl rfl
 ·rw [cy5,ay3,ay3]; show _ < 4096; omega
 ·exact ⟨_,W,[],rfl,rfl,rfl,hcl,hk ss (pm.trans pe) so⟩
def zf22 : RB:=fun as W k=>∃ (x : PyData) (ds : List za7),as = [.d x] /\ (x = .tuple (ds.map dP) \/ x = .list (ds.map dP)) /\ (∀ d∈ds,d.Ok) /\ ds.length <= 450 /\ ∀ c : Bool,(c = true ↔ Goes ds)->k (.d (.bool c)) W
def zf23 : RB:=fun as W k=>∃ (ds : List za7),as = [.d (rP ds)] /\ (∀ d∈ds,d.Ok) /\ ds.length <= 450 /\ ∀ c : Bool,(c = true ↔ Goes ds)->k (.d (.bool c)) W
abbrev nCl : List Str:=["_law_row_here", "_law_under", "_law_kind", "_law_one", "_law_other", "_law_word"]
theorem scCl : zb8 nCl ["_law_row_here"] (za1 zD5):=⟨rfl,rfl,rfl,by decide +kernel,rfl,by decide +kernel,by decide +kernel⟩
theorem ndCl : nCl.Nodup:=by decide +kernel
abbrev iCnX (xx : PyData) (ds : List za7) (W : Wl) : Nat->Sl->Wl->Prop:=fun i S' W'=>∃ (o2 o3 o4 o5 : Option El) (kvs : List (List Key × El)),S' = [some (.d xx),some (.o W.length),o2,o3,o4,o5] /\ W' = W++[.dT kvs] /\ zz8 kvs (zg2 (ds.take i)) /\ Goes (ds.take i) /\ kvs.length <= i
theorem za78 {f : Addr} {fd : ey7} (F : Fun K "_law_can" "_law_can" zD5 f fd) (T : Txt mg) : zj0 P w K mg base CX0 1 f fd ["_law_row_here"] (spB K zf22):=by
 refine zo8 F scCl (fun as W k hR=>by obtain ⟨x,ds,e,_⟩:=hR; subst e; rfl) fun cc hr as W k hcl hR=>?_;refine exE2 hR fun xx ds qA=>?_;clear hR;refine anE5 qA fun e hxx hok hl hk=>?_;clear qA;subst e;refine za4 (zc0 (i:=1) ndCl rfl (Or.inl rfl) (zC0 ?_));refine za4 (zs9 ly9 rfl (za76 hxx ⟨W.length,iCnX xx ds W,ay6 _,dy9 _,by simp,⟨none,none,none,none,[],rfl,rfl,fun _ _=>rfl,fun i d h=>by simp at h,by simp⟩,fun _ _ _ _ _=>trivial,?_,?_⟩ fun h=>bv 0 rfl h))
 ·intro i z S' W' hz gX;refine exE5 gX fun o2 o3 o4 o5 kvs qA=>?_;clear gX;refine anE5 qA fun qe0 qe1 hT hg hkl=>?_;clear qA;subst qe0;subst qe1;rw [by1] at hz;cases hd : ds[i]? with
  | none=>rw [hd] at hz; cases hz
  | some d =>
  rw [hd] at hz;cases hz;have hi : i < ds.length:=(ay4.mp hd).1;have hdk:=hok d (cy8 hd);have hw:=zc30 (ds:=ds.take i) (fun e he=>hok e (hy4 he)) d.x d.y;have hwl : (zg2 (ds.take i) d.x d.y).length <= 450:=by have:=za70 (ds.take i) d.x d.y; rw [dy1] at this; omega
  have hgs : zn1 (zg2 (ds.take i)) d = true->Goes (ds.take (i + 1)):=fun h=>by
   rw [fy5,hd];exact zq2 hg h
  have hr1 : zg2 (ds.take (i + 1)) = zd6 (zg2 (ds.take i)) d:=zR1 hd;have hTp:=hT.put d;rw [<- hr1] at hTp;have hkl':=zb61 kvs [.inr d.x,.inr d.y] (.d (.list ((zh5 d (zg2 (ds.take i) d.x d.y)).map .str)));refine za0 fun gG=>?_;obtain ⟨tk,x,yy,wd⟩:=d;refine gG ?_;clear gG;have hwl : (zg2 (ds.take i) x yy).length <= 450:=hwl;refine zH0 rfl (.cons (i:=2) ndCl rfl (Or.inl rfl) (.cons (i:=3) ndCl rfl (Or.inl rfl) (.cons (i:=4) ndCl rfl (Or.inl rfl) (.cons (i:=5) ndCl rfl (Or.inl rfl) .nil)))) rfl ?_;refine zb0 (zi4 (ze0 rfl (bv 2 rfl (zc6 (zn7 ⟨_,rfl,?_⟩)))));cases tk with
  | false =>
   rw [decide_eq_true (show za7.kd ⟨false,x,yy,wd⟩ = "send" from rfl)];refine zl9 (zb0 (zp2 (zf8 (zn3 iy3 qy4 uy9 (bv 1 rfl ⟨.inr ⟨rfl,.inr ⟨_,zd7⟩⟩,za3 (zm0 (za3 (bv 3 rfl (za2 (bv 4 rfl ⟨[.str x,.str yy],rfl,(by show 2 <= by3; decide),za2 (zg9 (zk0 ⟨[],rfl,dy9 _,zt8 (ks:=[.inr x,.inr yy]) hr.units zd7 ?_⟩))⟩)))))⟩)))));rw [hT x yy];refine zg9 (za2 (bv 5 rfl ⟨[.str wd],rfl,(by show 1 <= by3; decide),zB1 (.inl rfl) (.inl rfl) (by rw [ay3]; exact zb6 (by show _ + 1 <= _; omega)) (zy7 (bv 1 rfl (zL5 (za3 (bv 3 rfl (za2 (bv 4 rfl ⟨[.inr x,.inr yy],rfl,(by show 2 <= by3; decide),zb60 hr.units zd7 (hL (by omega)) ?_⟩)))))))⟩));have e1 : (zg2 (ds.take i) x yy).map hy3++[.str wd] = (zh5 ⟨false,x,yy,wd⟩ (zg2 (ds.take i) x yy)).map .str:=by simp [zh5]
   rw [e1,zu0];exact ⟨_,_,_,_,_,rfl,rfl,hTp,hgs (by simp [zn1]),ey1 hkl' (by omega)⟩
  | true =>
   rw [decide_eq_false (show ¬ za7.kd ⟨true,x,yy,wd⟩ = "send" from zb75)]
   have hc1 : zm1 ((zg2 (ds.take i) x yy).map hy3) none (some 1) = ((zg2 (ds.take i) x yy).take 1).map .str:=by
    rw [show zm1 ((zg2 (ds.take i) x yy).map hy3) none (some 1) = ((zg2 (ds.take i) x yy).map hy3).take 1 from zm4 _ 1,qy2]
   refine zl6 (zb0 (zi4 (ze0 rfl (zc8 (zn3 iy3 qy4 uy9 (bv 1 rfl ⟨.inr ⟨rfl,.inr ⟨_,zd7⟩⟩,za3 (zm0 (za3 (bv 3 rfl (za2 (bv 4 rfl ⟨[.str x,.str yy],rfl,(by show 2 <= by3; decide),za2 (zg9 (zk0 ⟨[],rfl,dy9 _,zt8 (ks:=[.inr x,.inr yy]) hr.units zd7 ?_⟩))⟩)))))⟩))))));rw [hT x yy];refine ze4 (zd0 (zb1 ⟨1,rfl,zG7 (zg9 (za2 (bv 5 rfl ⟨[.str wd],rfl,(by show 1 <= by3; decide),?_⟩)))⟩));rw [hc1];refine zT7 hr.units (d:=.list (((zg2 (ds.take i) x yy).take 1).map .str)) (e:=.list ([wd].map .str)) (.inl rfl) (.inl rfl) (zm9 fun z h=>zj2 (hw z (hy4 h))) (zm9 (by simp [zj2 hdk.w])) ⟨_,rfl,?_⟩;rw [zP4]
   by_cases hcan : (zg2 (ds.take i) x yy).take 1 = [wd]
   ·rw [decide_eq_true hcan];have hne : zg2 (ds.take i) x yy ≠ []:=fun z=>by rw [z] at hcan; simp at hcan
    refine zl6 (zb0 (zp2 (zc8 (zd9 (by intro _ _; rfl) (bv 1 rfl (zm0 (za3 (bv 3 rfl (za2 (bv 4 rfl ⟨[.str x,.str yy],rfl,(by show 2 <= by3; decide),zb49 (ks:=[.inr x,.inr yy]) hr.units zd7 (hT.at hne) (zd0 (zb1 ⟨1,rfl,ze4 (zG7 (zy7 (bv 1 rfl (zL5 (za3 (bv 3 rfl (za2 (bv 4 rfl ⟨[.inr x,.inr yy],rfl,(by show 2 <= by3; decide),zb60 hr.units zd7 (hL (by omega)) ?_⟩))))))))⟩))⟩))))))))))
    have e1 : zm1 ((zg2 (ds.take i) x yy).map hy3) (some 1) none = (zh5 ⟨true,x,yy,wd⟩ (zg2 (ds.take i) x yy)).map .str:=by
     rw [show zm1 ((zg2 (ds.take i) x yy).map hy3) (some 1) none = ((zg2 (ds.take i) x yy).map hy3).drop 1 from zk8 _ 1];simp [zh5]
    rw [e1,zu0];exact ⟨_,_,_,_,_,rfl,rfl,hTp,hgs (by simp [zn1,hcan]),ey1 hkl' (by omega)⟩
   ·rw [decide_eq_false hcan];refine zl9 (zb0 (zg4 (zp1 ⟨_,W,[_],rfl,rfl,rfl,hcl,hk false ⟨(fun z=>by cases z),fun hgo=>?_⟩⟩)));have:=hgo i _ hd;simp [zn1,hcan] at this
 ·intro S' W' gX;refine exE5 gX fun o2 o3 o4 o5 kvs qA=>?_;clear gX;refine anE5 qA fun qe0 qe1 hT hg hkl=>?_;clear qA;subst qe0;subst qe1;rw [ay3,hy5] at hg;exact zb0 (zg4 (zp1 ⟨_,W,[_],rfl,rfl,rfl,hcl,hk true ⟨fun _=>hg,fun _=>rfl⟩⟩))
theorem za79 {f : Addr} {fd : ey7} (F : Fun K "_law_can" "_law_can" zD5 f fd) (T : Txt mg) : zj0 P w K mg base CX0 1 f fd ["_law_row_here"] (spB K zf23) :=
 (za78 F T).imp fun vs H Q E zR=>by obtain ⟨F,A,W,es,k,r,z,⟨ds,e,h⟩,q⟩:=zR; exact ⟨F,A,W,es,k,r,z,⟨_,ds,e,.inl rfl,h⟩,q⟩
end
def zx6 (ds : List za7) (a : Nat) (d1 d2 : za7) : List za7:=ds.take a++[d2,d1]++ds.drop (a + 2)
theorem za80 {α : Type} {ds : List α} {a : Nat} {d1 d2 : α} (h1 : ds[a]? = some d1) (h2 : ds[a + 1]? = some d2) : ds = ds.take a++[d1,d2]++ds.drop (a + 2):=by
 refine za0 fun gG=>?_;obtain ⟨l1,e1⟩:=ay4.mp h1;obtain ⟨l2,e2⟩:=ay4.mp h2;refine gG ?_;clear gG;have h : ds.drop a = d1 :: d2 :: ds.drop (a + 2):=by rw [List.drop_eq_getElem_cons l1,e1,List.drop_eq_getElem_cons l2,e2]
 have:=(uy8 a ds).symm;rw [h] at this;rw [iy7];exact this
theorem zj6 (x : Str) (a b : List za7) : viewOf x (a++b) = viewOf x a++viewOf x b:=by unfold viewOf; rw [ty5]
theorem zb78 {d1 d2 : za7} (h : handOf d1 ≠ handOf d2) (x : Str) : viewOf x [d2,d1] = viewOf x [d1,d2]:=by
 unfold viewOf
 by_cases h1 : handOf d1 = x
 ·have h2 : handOf d2 ≠ x:=fun z=>h (h1.trans z.symm);simp [h1,h2]
 ·by_cases h2 : handOf d2 = x
  ·simp [h1,h2]
  ·simp [h1,h2]
theorem za81 {ds : List za7} {a : Nat} {d1 d2 : za7} (h1 : ds[a]? = some d1) (h2 : ds[a + 1]? = some d2) (h : handOf d1 ≠ handOf d2) (x : Str) : viewOf x (zx6 ds a d1 d2) = viewOf x ds:=by
 conv=>rhs; rw [za80 h1 h2]
 unfold zx6;rw [zj6,zj6,zj6,zj6,zb78 h]
theorem zR6 {ds : List za7} {a : Nat} {d1 d2 : za7} (h1 : ds[a]? = some d1) (h2 : ds[a + 1]? = some d2) : (zx6 ds a d1 d2).length = ds.length:=by
 conv=>rhs; rw [za80 h1 h2]
 unfold zx6;simp
theorem zb79 {ds : List za7} {a : Nat} {d1 d2 : za7} (h1 : ds[a]? = some d1) (h2 : ds[a + 1]? = some d2) {d : za7} (h : d∈zx6 ds a d1 d2) : d∈ds:=by
 rw [za80 h1 h2];unfold zx6 at h;simp only [ey0,by7,my4,or_false] at h ⊢;rcases h with (h | h | h) | h
 ·exact .inl (.inl h)
 ·exact .inl (.inr (.inr h))
 ·exact .inl (.inr (.inl h))
 ·exact .inr h
theorem ze7.of {hs : List Str} {ds es : List za7} (h : ze7 hs ds) (hm : ∀ d∈es,d∈ds) : ze7 hs es:=⟨fun d hd=>h.ok d (hm d hd),fun d hd=>h.x d (hm d hd),fun d hd=>h.y d (hm d hd)⟩
structure zn2 (hs : List Str) (ds es : List za7) : Prop where
 row : ze7 hs es
 go : Goes es
 len : es.length = ds.length
 view : ∀ x,viewOf x es = viewOf x ds
theorem za82 (ds : List za7) (a : Nat) (d1 d2 : za7) : ((ds.map dP).take a++[dP d2,dP d1])++(ds.map dP).drop (a + 2) = (zx6 ds a d1 d2).map dP:=by
 unfold zx6;rw [gy1,gy1,qy2,List.map_drop];rfl
section
variable {P : cy7} {w : World} {K : ay5} {mg : Str->Option Value} {base : Heap}
def zf24 : RB:=fun as W k=>∃ (p n : Nat) (hs : List Str) (ds : List za7),as = [.o p,.d (rP ds),.d (.int n)] /\ zf4 W p /\ ze7 hs ds /\ Goes ds /\ ds.length <= 400 /\ n <= 1000 /\ ∀ (es : List za7) W',zn2 hs ds es->zg1 W p W'->k (.d (rP es)) W'
abbrev pSf : List Str:=["_law_pack_here", "_law_row_here", "_law_turns"]
abbrev nSf : List Str:=["_law_pack_here", "_law_row_here", "_law_turns", "_law_here", "_law_k", "_law_at", "_law_other"]
theorem scSf : zb8 nSf pSf (za1 zN0):=⟨rfl,rfl,rfl,by decide +kernel,rfl,by decide +kernel,by decide +kernel⟩
theorem ndSf : nSf.Nodup:=by decide +kernel
abbrev zf25 (p : Nat) (ds : List za7) (n : Nat) (es : List za7) (o4 : Option El) (o5 : Option El) (o6 : Option El) : Sl:=[some (.o p),some (.d (rP ds)),some (.d (.int n)),some (.d (rP es)),o4,o5,o6]
abbrev iShu (p : Nat) (n : Nat) (hs : List Str) (ds : List za7) (W : Wl) : Nat->Sl->Wl->Prop:=fun i S' W'=>∃ (o4 o5 o6 : Option El) (es : List za7),S' = zf25 p ds n es o4 o5 o6 /\ zg1 W p W' /\ zn2 hs ds es
theorem zd10 {f fR fO fC : Addr} {fd dR dO dC : ey7} (F : Fun K "_law_shuffled" "_law_shuffled" zN0 f fd) (T : Txt mg) (DR : Def K mg "_law_take" zx1 fR dR pTk) (DO : Def K mg "_law_hand" zp8 fO dO ["_law_deed"]) (DC : Def K mg "_law_can" zD5 fC dC ["_law_row_here"]) : zj0 P w K mg base CX0 2 f fd pSf (spB K zf24):=by
 have N:=@zr5 P w K mg base _ _ DR.fn T;have NO:=@zD8 P w K mg base _ _ DO.fn T;have NC:=@za79 P w K mg base _ _ DC.fn T;refine zo8 F scSf (fun as W k hR=>by obtain ⟨p,n,hs,ds,e,_⟩:=hR; subst e; rfl) fun cc hr as W k hcl hR=>?_;refine exE4 hR fun p n hs ds qA=>?_;clear hR;refine anE7 qA fun e hp hok hgo hl hn hk=>?_;clear qA;subst e;have hpl:=hp.lt;refine za4 (zc0 (i:=3) ndSf rfl (Or.inl rfl) (bv 1 rfl ?_));refine za4 (zs9 ly9 rfl (zp3 rfl T.range_ (bv 2 rfl ⟨_,rfl,by omega,by omega,W.length,iShu p n hs ds W,ay6 _,dy9 _,by simp,⟨none,none,none,ds,rfl,hp.self,hok,hgo,rfl,fun _=>rfl⟩,fun _ _ _ _ _=>trivial,?_,?_⟩)))
 ·intro i z S' W1 hz gX;refine exE4 gX fun o4 o5 o6 es qA=>?_;clear gX;refine anE3 qA fun qe0 hw Sm=>?_;clear qA;subst qe0;refine zm2 (i:=4) ndSf rfl (Or.inl rfl) ?_;have hel:=Sm.len;refine zb0 (zi4 (ze0 rfl (zb9 rfl T.len_ zl5 (za2 (bv 3 rfl (zh4 (zb1 (zd78 ⟨_,rfl,?_⟩))))))));rw [ay3]
  by_cases h1 : (1 : Int) < es.length
  ·rw [decide_eq_true h1];refine zl9 (za4 (zc0 (i:=5) ndSf rfl (Or.inl rfl) (za6 N (hr.mono (by decide)) rfl DR.at_ DR.fn.kp DR.bd (za3 (bv 0 rfl (za2 (zf8 (zb9 rfl T.len_ zl5 (za2 (bv 3 rfl (zh4 (zb1 (zc11 ⟨p,_,rfl,hw.at hpl,?_,?_,fun r W2 r0 r1 pw=>?_⟩)))))))))))))
   ·rw [ay3]; omega
   ·rw [ay3]; omega
   rw [ay3] at r1;have hw2:=hw.trans pw;obtain ⟨a,rfl⟩ : ∃ n : Nat,r = n:=⟨r.toNat,by omega⟩
   obtain ⟨d1,hd1⟩ : ∃ d,es[a]? = some d:=⟨es[a]'(by omega),by5 _⟩
   obtain ⟨d2,hd2⟩ : ∃ d,es[a + 1]? = some d:=⟨es[a + 1]'(by omega),by5 _⟩
   have m1 : (es.map dP)[a]? = some (dP d1):=by rw [by1,hd1]; rfl
   have m2 : (es.map dP)[a + 1]? = some (dP d2):=by rw [by1,hd2]; rfl
   have c1 : (a : Int) + 1 = ((a + 1 : Nat) : Int):=by omega
   have c2 : (a : Int) + 2 = ((a + 2 : Nat) : Int):=by omega
   have a2 : atI (es.map dP) ((a : Int) + 1) = some (dP d2):=by rw [c1]; exact zh7 m2
   have l1 : ((zm1 (es.map dP) none (some (a : Int))).length + [dP d2,dP d1].length) <= by3:=by
    have:=zr4 (es.map dP) none (some (a : Int));rw [ay3] at this;exact zb6 (by show _ + 2 <= _; omega)
   have l2 : (zm1 (es.map dP) none (some (a : Int))++[dP d2,dP d1]).length + (zm1 (es.map dP) (some ((a : Int) + 2)) none).length <= by3:=by
    have h1:=zr4 (es.map dP) none (some (a : Int));have h2:=zr4 (es.map dP) (some ((a : Int) + 2)) none;rw [ay3] at h1 h2;rw [cy5];exact zb6 (by show _ + 2 + _ <= _; omega)
   refine za4 (zc0 (i:=6) ndSf rfl (Or.inl rfl) (zf8 (zf8 (zc8 (bv 3 rfl (ze4 (zd0 (bv 5 rfl ⟨_,rfl,zn5 (zm0 (za3 (zd9 (by intro _ _; rfl) (bv 3 rfl (zf8 (bv 5 rfl (zb1 (zn6 (zi2 a2 (za2 (zd9 (by intro _ _; rfl) (bv 3 rfl (bv 5 rfl (zi2 (zh7 m1) ⟨[dP d2,dP d1],rfl,(by show 2 <= by3; decide),zq9 l1 (zc8 (bv 3 rfl (zd0 (zf8 (bv 5 rfl (zb1 (zn6 ⟨_,rfl,ze4 (zn5 (zq9 l2 ?_))⟩)))))))⟩))))))))))))))⟩))))))));rw [c2,zm4,zk8,za82];refine zb0 (zi4 (BW.bt (zv6 (ze0 rfl (za6 NO (hr.mono (by decide)) rfl DO.at_ DO.fn.kp DO.bd (za2 (zd9 (by intro _ _; rfl) (bv 3 rfl (bv 5 rfl (zi2 (zh7 m1) ⟨d1,rfl,za6 NO (hr.mono (by decide)) rfl DO.at_ DO.fn.kp DO.bd (za2 (zd9 (by intro _ _; rfl) (bv 3 rfl (zf8 (bv 5 rfl (zb1 (zn6 (zi2 a2 ⟨d2,rfl,za18 ⟨_,rfl,?_⟩⟩))))))))⟩))))))))))
   by_cases hh : handOf d1 = handOf d2
   ·rw [decide_eq_true hh];exact zl6 (zl6 (zh1 ⟨_,_,_,es,rfl,hw2,Sm⟩))
   ·rw [decide_eq_false hh];have hrow : ze7 hs (zx6 es a d1 d2):=Sm.row.of fun d hd=>zb79 hd1 hd2 hd;refine zl9 (zv5 (zf9 (za6 NC (hr.mono (by decide)) rfl DC.at_ DC.fn.kp DC.bd (za2 (bv 6 rfl ⟨zx6 es a d1 d2,rfl,hrow.ok,by rw [zR6 hd1 hd2]; omega,fun c hc=>⟨_,rfl,?_⟩⟩)))));cases c with
    | true =>
     refine zl9 (zb0 (zc0 (i:=3) ndSf rfl (Or.inl rfl) (bv 6 rfl ?_)));exact ⟨_,_,_,zx6 es a d1 d2,rfl,hw2,hrow,hc.mp rfl,by rw [zR6 hd1 hd2]; exact hel,fun x=>by rw [za81 hd1 hd2 hh]; exact Sm.view x⟩
    | false=>exact zl6 (zh1 ⟨_,_,_,es,rfl,hw2,Sm⟩)
  ·rw [decide_eq_false h1];exact zl6 (zh1 ⟨_,_,_,es,rfl,hw,Sm⟩)
 ·intro S' W' gX;refine exE4 gX fun o4 o5 o6 es qA=>?_;clear gX;refine anE3 qA fun qe0 hw Sm=>?_;clear qA;subst qe0;exact zb0 (zd3 (bv 3 rfl (hk es W' Sm hw)))
end
end K1
namespace L2
open PySem PySem.Spec PyProof.Rows PySem.SeqAt PySem.MeetsSeq
section
variable {X : Bc} {S : Sl} {W : Wl} {k : KB}
end
end L2
namespace L2
open PySem PySem.Spec PyProof.Rows
section
variable {X : Cx}
end
section
variable {X : Bc} {S : Sl} {W : Wl} {k : KB}
end
end L2
namespace K1
open PySem L2
def goF : Wd->List za7->Prop
 | _,[]=>True
 | f,d :: ds=>zn1 f d = true /\ goF (zd6 f d) ds
theorem zN8 : ∀ (ds : List za7) (f : Wd),(∀ i d,ds[i]? = some d->zn1 ((ds.take i).foldl zd6 f) d = true) ↔ goF f ds
 | [],f=>⟨fun _=>trivial,fun _ i d h=>by simp at h⟩
 | e :: ds,f=>by
  constructor
  ·intro h;refine ⟨h 0 e rfl,(zN8 ds _).mp fun i d hi=>?_⟩;have:=h (i + 1) d (by simpa using hi);simpa using this
  ·rintro ⟨h1,h2⟩ i d hi;cases i with
   | zero =>
    simp at hi;subst hi;exact h1
   | succ i =>
    have:=(zN8 ds _).mpr h2 i d (by simpa using hi);simpa using this
theorem zq3 (ds : List za7) : Goes ds ↔ goF (fun _ _=>[]) ds:=zN8 ds _
theorem zN9 : ∀ (a b : List za7) (f : Wd),goF f (a++b) ↔ goF f a /\ goF (a.foldl zd6 f) b
 | [],b,f=>by simp [goF]
 | d :: a,b,f=>by
  show zn1 f d = true /\ goF (zd6 f d) (a++b) ↔ (zn1 f d = true /\ goF (zd6 f d) a) /\ goF (a.foldl zd6 (zd6 f d)) b;rw [zN9 a b,and_assoc]
theorem zz9 {x d : za7} (hh : handOf x ≠ handOf d) (hx : x.x = d.x) (hy : x.y = d.y) : x.tk ≠ d.tk:=fun e=>hh (by unfold handOf; rw [e,hx,hy])
theorem zR7 {f : Wd} {x d : za7} (hh : handOf x ≠ handOf d) (h : zn1 f d = true) : zn1 (zd6 f x) d = true:=by
 unfold zn1 at h ⊢;cases ht : d.tk with
 | false=>rfl
 | true =>
  rw [ht] at h;have h : (f d.x d.y).take 1 = [d.w]:=by simpa using h
  have : (zd6 f x d.x d.y).take 1 = [d.w]:=by
   unfold zd6
   by_cases e : d.x = x.x /\ d.y = x.y
   ·rw [if_pos e]
    have hx : x.tk = false:=by
     cases hx : x.tk with
     | false=>rfl
     | true=>exact absurd (hx.trans ht.symm) (zz9 hh e.1.symm e.2.symm)
    unfold zh5;rw [hx];cases hf : f d.x d.y with
    | nil=>rw [hf] at h; simp at h
    | cons z ws=>rw [hf] at h; simpa using h
   ·rw [if_neg e]; exact h
  simp [this]
theorem za83 {f : Wd} {x d : za7} (hh : handOf x ≠ handOf d) (hx : zn1 f x = true) (hd : zn1 f d = true) : zd6 (zd6 f x) d = zd6 (zd6 f d) x:=by
 funext a b
 by_cases e : x.x = d.x /\ x.y = d.y
 ·have ht:=zz9 hh e.1 e.2;unfold zd6
  by_cases e1 : a = x.x /\ b = x.y
  ·have e2 : a = d.x /\ b = d.y:=⟨e1.1.trans e.1,e1.2.trans e.2⟩
   simp only [if_pos e2,if_pos e1]
   have e3 : f a b ≠ []:=by
    unfold zn1 at hx hd;intro z;cases h1 : x.tk with
    | true =>
     rw [h1,<- e1.1,<- e1.2,z] at hx;simp at hx
    | false =>
     cases h2 : d.tk with
     | true =>
      rw [h2,<- e2.1,<- e2.2,z] at hd;simp at hd
     | false=>exact ht (h1.trans h2.symm)
   unfold zh5;cases h1 : x.tk with
   | true =>
    have h2 : d.tk = false:=by
     cases h2 : d.tk with
     | false=>rfl
     | true=>exact absurd (h1.trans h2.symm) ht
    rw [h2];cases hf : f a b with
    | nil=>exact absurd hf e3
    | cons z ws=>simp
   | false =>
    have h2 : d.tk = true:=by
     cases h2 : d.tk with
     | true=>rfl
     | false=>exact absurd (h1.trans h2.symm) ht
    rw [h2];cases hf : f a b with
    | nil=>exact absurd hf e3
    | cons z ws=>simp
  ·have e2 : ¬ (a = d.x /\ b = d.y):=fun z=>e1 ⟨z.1.trans e.1.symm,z.2.trans e.2.symm⟩;simp only [if_neg e2,if_neg e1]
 ·unfold zd6
  by_cases e1 : a = x.x /\ b = x.y
  ·have e2 : ¬ (a = d.x /\ b = d.y):=fun z=>e ⟨e1.1.symm.trans z.1,e1.2.symm.trans z.2⟩;simp only [if_neg e2,if_pos e1]
  ·by_cases e2 : a = d.x /\ b = d.y
   ·simp only [if_pos e2,if_neg e1]
   ·simp only [if_neg e2,if_neg e1]
theorem zb80 {f : Wd} {x d : za7} {r : List za7} (h : goF f (x :: d :: r)) (hh : handOf x ≠ handOf d) (hd : zn1 f d = true) : goF f (d :: x :: r) :=
 ⟨hd,zR7 (fy2 hh) h.1,by rw [<- za83 hh h.1 hd]; exact h.2.2⟩
theorem zD9 {d : za7} : ∀ {R vs : List za7},viewOf (handOf d) R = d :: vs->∃ B C,R = B++d :: C /\ ∀ b∈B,handOf b ≠ handOf d
 | [],_,h=>by simp [viewOf] at h
 | r :: R,vs,h=>by
  by_cases e : handOf r = handOf d
  ·have : viewOf (handOf d) (r :: R) = r :: viewOf (handOf d) R:=by simp [viewOf,e]
   rw [this] at h;injection h with h1 h2
   subst h1;exact ⟨[],R,rfl,by simp⟩
  ·have : viewOf (handOf d) (r :: R) = viewOf (handOf d) R:=by simp [viewOf,e]
   rw [this] at h;refine za0 fun gG=>?_;obtain ⟨B,C,rfl,hB⟩:=zD9 h;refine gG ?_;clear gG;refine ⟨r :: B,C,rfl,fun b hb=>?_⟩;rcases by7.mp hb with z | z
   ·rw [z]; exact e
   ·exact hB b z
theorem zk5 {x : Str} : ∀ {B : List za7},(∀ b∈B,handOf b ≠ x)->viewOf x B = []:=fun {B} h=>by
 unfold viewOf;exact List.filter_eq_nil_iff.mpr fun b hb=>by simpa using h b hb
theorem zf6 (x : Str) (d : za7) (r : List za7) : viewOf x (d :: r) = if handOf d = x then d :: viewOf x r else viewOf x r:=by
 unfold viewOf;rw [List.filter_cons];simp
end K1
namespace L2
open PySem PySem.Spec PyProof.Rows
section
variable {prog : cy7} {w : World} {A : Around} {E : Value->Shared->Prop} {s : Shared} {R : Result->Shared->Prop}
theorem codeAny_compStart_dict {kx vx : Expr} {gens : List Comprehension} {scope : Scope} {pos : Pos} {it acc : Value} {env : Env} {d : Nat} {g : Comprehension} (hg : gens[d]? = some g) (ha : g.is_async = 0)
  (h1 : ly4 (model prog w) A (.compLoop (.DictComp kx vx gens scope pos) d it acc env) R s)
  (h2 : wpAny (model prog w) A (pyIter it) (fun it' s'=>ly4 (model prog w) A (.compLoop (.DictComp kx vx gens scope pos) d it' acc env) R s') (fun _ _=>False) s) :
  ly4 (model prog w) A (.compStart (.DictComp kx vx gens scope pos) d it acc env) R s:=by
 refine codeAny_of_tree ?_;show wpAny _ A ((compStart (.DictComp kx vx gens scope pos) d it acc env).onRaise (fun x=>do noteFrame x env; standAt theWindowsPlace)) _ _ s;refine wpAny_notedAt ?_;unfold compStart;have e1 : (clausesOf (.DictComp kx vx gens scope pos))[d]? = some g:=hg;have e2 : ((some g).elim false (·.is_async != 0)) = false:=by simp [ha]
 rw [e1,e2];refine ay0 (wpAny_askSetting (wpAny_ite ?_))
 by_cases hq : ((model prog w).w.params.followText "comprehension-iter-twice") = true
 ·rw [if_pos hq];exact ay0 (ay1 (ay1 ⟨rfl,h1⟩))
 ·rw [if_neg hq];refine ay0 (oy6 (ay0 (ly3 (ay0 (fy6 h2 (fun it' s' h'=>ay1 ⟨rfl,h'⟩) fun _ _ h=>h.elim)))))
theorem zW6 {kx vx target iter : Expr} {scope : Scope} {pos : Pos} {it : Value} {D : Addr} {env : Env} (J : Nat->Shared->Prop)
  (turn : ∀ n s,J n s->wpAny (model prog w) A (pyNext it) (fun r s1=>match r with
   | none=>R (.ok .next) s1
   | some v=>wpAny (model prog w) A (oy9 target it v) (fun _ s1'=>wpAny (model prog w) A (assign target env v) (fun _ s2 =>
     wpAny (model prog w) A (eval kx env) (fun kv s3=>wpAny (model prog w) A (eval vx env) (fun vv s4=>wpAny (model prog w) A (dictSet D kv vv) (fun _ s5=>∃ m,m < n /\ J m s5)
      (fun _ _=>False) s4) (fun _ _=>False) s3) (fun _ _=>False) s2) (fun _ _=>False) s1') (fun _ _=>False) s1) (fun _ _=>False) s)
  (n : Nat) (h : J n s) : ly4 (model prog w) A (.compLoop (.DictComp kx vx [⟨target,iter,[],0⟩] scope pos) 0 it (.ref D) env) R s:=by
 refine codeAny_loop rfl J (fun n s hI=>?_) n h;show wpAny _ A ((compTurn (.DictComp kx vx [⟨target,iter,[],0⟩] scope pos) 0 it (.ref D) env).onRaise (fun x=>do noteFrame x env; theTreesLotGoes x)) _ _ s;refine wpAny_noted ?_;unfold compTurn;refine ay0 (ly3 (ay0 (fy6 (turn n s hI) (fun r s1 h1=>?_) fun _ _ h'=>h'.elim)));cases r with
 | none=>exact ay1 h1
 | some v =>
  refine ay0 (fy6 h1 (fun _ s1' h1'=>?_) fun _ _ h'=>h'.elim);refine ay0 (fy6 h1' (fun _ s2 h2=>?_) fun _ _ h'=>h'.elim);refine ay0 (ay1 ?_);refine ay0 (ay0 (fy6 h2 (fun kv s3 h3=>?_) fun _ _ h'=>h'.elim));refine ay0 (fy1 (fy6 h3 (fun vv s4 h4=>?_) fun _ _ h'=>h'.elim));refine ay0 (ly3 ?_);exact fy1 (fy6 h4 (fun _ s5 h5=>ay1 ⟨rfl,h5⟩) fun _ _ h'=>h'.elim)
end
theorem zi8 {P : cy7} {w : World} {h h' : Heap} {a : Addr} {vs : List (Key × Value)} (x : h.DictOf (zc5 P w) a vs) (k : ∀ o,h.get? a = some o->h'.get? a = some o) : h'.DictOf (zc5 P w) a vs:=by
 refine za0 fun gG=>?_;obtain ⟨o,es,ep,ho,r⟩:=x;refine gG ?_;clear gG;exact ⟨o,es,ep,k o ho,r⟩
theorem zW7 {P : cy7} {w : World} {h : Heap} {a : Addr} {vs : List (Key × Value)} (x : h.DictOf (zc5 P w) a vs) : ∃ o,h.get? a = some o /\ ∀ v,o.data ≠ .cell v:=by
 refine za0 fun gG=>?_;obtain ⟨o,es,ep,ho,_,hd,_⟩:=x;refine gG ?_;clear gG;exact ⟨o,ho,fun v z=>by rw [hd] at z; cases z⟩
def tDC (wi : TI) (O : List Str) (cap : List Nat) (g : TG) (tk tv : TE) : TE:=fun σ H Q=>wi σ H fun J H1=>∃ W : Nat->Nat->List (Key × V)->Hp->Prop,(∃ m,W 0 m [] H1) /\ ∀ i m kvs H,W i m kvs H->kvs.length < by3 /\
  ((J.stop i H /\ ∀ l,H l = none->Q (.ref l) (upd H l (.dK kvs))) \/
   (J.go i H /\ ∀ x H',J.yld i H x H'->g x (zc3 O cap σ) H' fun σ2 H2=>tk σ2 H2 fun kz H3=>∃ k : Str,kz = .str k /\ tv σ2 H3 fun z H4=>∃ m',m' < m /\ W (i + 1) m' (putK kvs (.inr k) z) H4))
section
variable {X : Cx} {tg iter kx vx : Expr} {scope : Scope} {pos : Pos} {wi : TI} {g : TG} {tk tv : TE} {O F : List Str} {cap : List Nat}
theorem zA0 {use : Option (Value->Sem Unit)} {R : Value->Shared->Prop} {pins : List (Addr × Obj)} {s : Shared} {σ : St} {H : Hp} {Q : VK} {ps0 : Pos} (hc : X.calm = true) (S : zb3 X.N X.env.scope O F cap scope) (hi : PI X tg iter wi)
  (hg : ∀ cl C ex s H,PG (zc2 X (O++F) scope cl C ex s H) tg g) (hk : ∀ cl C ex s H,PE (zc2 X (O++F) scope cl C ex s H) kx tk) (hv : ∀ cl C ex s H,PE (zc2 X (O++F) scope cl C ex s H) vx tv)
  (ho : Own O.length g) (hs : ∀ x,ey4 iter X.env x = pure x) (I : Inv X pins σ H s) (h : tDC wi O cap g tk tv σ H Q)
  (post : ∀ (s4 : Shared) (D C : Addr) (H4 : Hp) (kvs : List (Key × V)),(∃ m,s4.heap.Ns C m)->D ≠ C->(∀ h',fy3 C s4.heap h'->Inv X pins σ (upd H4 D (.dK kvs)) { s4 with heap:=h' })->zr9 X pins (upd H4 D (.dK kvs)) C->Q (.ref D) (upd H4 D (.dK kvs)) ->
   compPost (model X.prog X.w) X.A X.xe use R (.ref D) C (.ok .next) s4) :
  wpAny (model X.prog X.w) X.A (comprehension (.DictComp kx vx [⟨tg,iter,[],0⟩] scope pos) scope X.env ps0 newDict false (eval iter X.env) use) R X.xe s:=by
 have hfr : ∀ y∈scope.names,y.2 = .free->∃ c,X.env.cells.lookup y.1 = some c:=fun y hy e=>I.ok.has y.1 (S.frees y hy e);refine wpAny_comprehension_free (use:=use) rfl hs (zq6 hfr) S.kind S.names (thn (hi pins s σ H _ I h) fun v s1 h1=>thn h1 fun itv s2 h2=>?_);refine zF0 h2 fun it fp tn J H2 e I2 T st2 f2 qR=>?_;refine za0 fun gG=>?_;obtain ⟨W,⟨m0,w0⟩,turn⟩:=qR;subst e;refine gG ?_;clear gG;refine ey5 (wpAny_newFunctionEnv S.nocell (by intro y hy; simp at hy) (fun h1 hns1 hsb1=>?_) S.kind);dsimp only at hns1 hsb1 ⊢;have hS0 : (s2.heap.push { cls:=.type "dict",data:=.dict #[] }).DictOf (zc5 X.prog X.w) s2.heap.objs.size []:=Heap.DictOf.new _;generalize hH0 : s2.heap.push { cls:=.type "dict",data:=.dict #[] } = h0 at hns1 hsb1 hS0 ⊢;have h0s : h0.objs.size = s2.heap.objs.size + 1:=by rw [<- hH0,ny2]
 have k0 : ∀ b o,s2.heap.get? b = some o->h0.get? b = some o:=fun b o e=>hH0 ▸ ay2 _ e;have k1 : ∀ b o,h0.get? b = some o->h1.get? b = some o:=fun b o e=>hsb1.extBut b o (by8 (by2 e)) (ay2 _ e);have hDC : s2.heap.objs.size < h0.objs.size:=by rw [h0s]; exact ky6 _
 have hsC : s2.heap.objs.size <= h0.objs.size:=ky8 hDC
 have flt : ∀ b∈fp,b < s2.heap.objs.size:=fun b hb=>by
  refine za0 fun gG=>?_;obtain ⟨o,e,_⟩:=T.obj _ _ st2 b hb;refine gG ?_;clear gG;exact by2 e
 have Dfp : s2.heap.objs.size ∉ fp:=fun z=>ny1 _ (flt _ z)
 have I3 : Inv (zc2 X (O++F) scope (zt6 X.env.cells scope.names []) h0.objs.size (s2.heap.objs.size :: fp) { s2 with heap:=h0 } H2) [] (zc3 O cap σ) H2 { s2 with heap:=h1,toks:=s2.toks + ([] : List (Str × Value)).length } :=
  I2.comp S f2 (T.obj _ _ st2) hsC s2.heap.objs.size (ay6 _) hDC rfl k0 k1 hns1
 generalize hX' : zc2 X (O++F) scope (zt6 X.env.cells scope.names []) h0.objs.size (s2.heap.objs.size :: fp) { s2 with heap:=h0 } H2 = X' at I3;have hg' : PG X' tg g:=hX' ▸ hg _ _ _ _ _;have hk' : PE X' kx tk:=hX' ▸ hk _ _ _ _ _;have hv' : PE X' vx tv:=hX' ▸ hv _ _ _ _ _;have epn : X'.pn = []:=by rw [<- hX']; rfl
 have fpok : ∀ {H' : Hp} {b : Addr},b∈s2.heap.objs.size :: fp->H' b = none->zr9 X' [] H' b:=fun {H' b} hb hn=>by
  have hex : b∈X'.ex:=by rw [<- hX']; exact hb
  refine ⟨hn,(I3.ok.exf b hex).1,I3.ok.exfs b hex,.inl hex,(I3.ok.exf b hex).2,fun p hp=>?_⟩;rw [epn] at hp;exact absurd (show p∈([] : List (Addr × Obj)) from hp) (by simp)
 have eP : X'.prog = X.prog:=by rw [<- hX']; rfl
 have eW : X'.w = X.w:=by rw [<- hX']; rfl
 have eK : X'.K = X.K:=by rw [<- hX']; rfl
 have eA : X'.A = X.A:=by rw [<- hX']; rfl
 have eC : X'.calm = true:=by rw [<- hX']; exact hc
 have eE : X'.env = compEnvC scope (zt6 X.env.cells scope.names []) h0.objs.size X.env:=by rw [<- hX']; rfl
 have eX : X'.xe = fun _ _=>False:=by rw [<- hX']; rfl
 have sys : (s2.heap.objs.size == ky7) = false:=beq_eq_false_iff_ne.mpr (fy2 (by8 I2.big))
 have loop : ∀ s3 : Shared,s3 = { s2 with heap:=h1,toks:=s2.toks + ([] : List (Str × Value)).length } ->
   ly4 (model X.prog X.w) X.A (.compLoop (.DictComp kx vx [⟨tg,iter,[],0⟩] scope pos) 0 (.ref it) (.ref s2.heap.objs.size) (compEnvC scope (zt6 X.env.cells scope.names []) h0.objs.size X.env))
    (compPost (model X.prog X.w) X.A X.xe use R (.ref s2.heap.objs.size) h0.objs.size) s3:=by
  rintro s3 rfl
  refine zW6 (fun n s'=>∃ i kvs vs H',Inv X' [] (zc3 O cap σ) H' s' /\ tn i s'.heap /\ (∀ b∈s2.heap.objs.size :: fp,H' b = none) /\ s'.heap.DictOf (zc5 X.prog X.w) s2.heap.objs.size vs /\ KV kvs vs /\ W i n kvs H') ?_ m0
   ⟨0,[],[],H2,I3,T.keep _ _ _ st2 (fun b _ o e=>k1 b o (k0 b o e)),fun b hb=>?_,zi8 hS0 fun o e=>k1 _ _ e,.nil,w0⟩
  ·intro n s3 gX;refine za0 fun gG=>?_;obtain ⟨i,kvs,vs,H3,I3',st3,fr3,hS3,rv3,w3⟩:=gX;obtain ⟨hz,step⟩:=turn i n kvs H3 w3;obtain ⟨oD,gD,cD⟩:=zW7 hS3;refine gG ?_;clear gG;have hD3 : H3 s2.heap.objs.size = none:=fr3 _ ay9
   have J3 : Inv X' ([]++zf2 [s2.heap.objs.size] s3.heap) (zc3 O cap σ) H3 s3:=I3'.pinned (fp:=[s2.heap.objs.size]) (fun b hb=>by
    have e : b = s2.heap.objs.size:=by simpa using hb
    subst e; exact fpok ay9 hD3) fun b hb=>by
    have e : b = s2.heap.objs.size:=by simpa using hb
    subst e; exact ⟨oD,gD,cD⟩
   have fpJ : ∀ b∈fp,zr9 X' ([]++zf2 [s2.heap.objs.size] s3.heap) H3 b:=fun b hb=>(fpok (by0 _ hb) (fr3 b (by0 _ hb))).more fun p hp=>by
    have:=(zg5 hp).1;have e : p.1 = s2.heap.objs.size:=by simpa using this
    rw [e];exact fun z=>Dfp (z ▸ hb)
   rcases step with ⟨stop,q⟩ | ⟨go,step⟩
   ·have fin:=T.done X' eP eW eK eC i _ s3 (zc3 O cap σ) H3 (fun _ _=>False) J3 fpJ st3 stop;rw [eA] at fin;refine thn fin fun r s4 zR=>?_;refine za0 fun gG=>?_;obtain ⟨hr,J4⟩:=zR;subst hr;refine gG ?_;clear gG;have g4:=J4.zo3 (b:=s2.heap.objs.size) (by simp) gD;have hS4 : s4.heap.DictOf (zc5 X.prog X.w) s2.heap.objs.size vs:=zi8 hS3 fun o e=>by rw [gD] at e; cases e; exact g4.1
    have I4 : Inv X' [] (zc3 O cap σ) H3 s4:=J4.zC8;refine za0 fun gG=>?_;obtain ⟨m,hm,_⟩:=id I4.loc;refine gG ?_;clear gG;rw [eE] at hm
    have fC : H3 h0.objs.size = none:=by
     have:=I4.free;rw [eE] at this;exact this
    have nCD : h0.objs.size ≠ s2.heap.objs.size:=my2 hDC;refine post s4 s2.heap.objs.size h0.objs.size H3 kvs ⟨m,hm⟩ (fy2 nCD) (fun h' sb=>?_) (I2.zY7 hsC (by rw [za8 nCD]; exact fC)) (q _ hD3);rw [<- hX'] at I4;refine I2.za49 f2 hsC (ay6 _) hDC k0 I4 hD3 (zc21 (ky8 hz) sys rv3 (zi8 hS4 fun o e=>?_)) sb;exact (sb.2 _ (by8 hDC)).trans e
   ·have it3:=T.item X' eP eW eK eC i _ s3 (zc3 O cap σ) H3 (fun _ _=>False) J3 fpJ st3 go;rw [eA] at it3;refine thn it3 fun r s4 zR=>?_;refine za0 fun gG=>?_;obtain ⟨u,hr,h4⟩:=zR;subst hr;refine gG ?_;clear gG;refine thn h4 fun _ s5 zR=>?_;refine za0 fun gG=>?_;obtain ⟨x,H5,I5,r5,y5,st5,fr5⟩:=zR;refine gG ?_;clear gG;have g5:=I5.zo3 (b:=s2.heap.objs.size) (by simp) gD;have hS5 : s5.heap.DictOf (zc5 X.prog X.w) s2.heap.objs.size vs:=zi8 hS3 fun o e=>by rw [gD] at e; cases e; exact g5.1
    have fr5' : ∀ b∈s2.heap.objs.size :: fp,H5 b = none:=fun b hb=>(by7.mp hb).elim (fun z=>by rw [z]; exact g5.2) (fr5 b)
    have ob5 : ∀ b∈s2.heap.objs.size :: fp,∃ o,s5.heap.get? b = some o /\ ∀ v,o.data ≠ .cell v:=fun b hb=>by
     rcases by7.mp hb with e | hb
     ·subst e; exact ⟨oD,g5.1,cD⟩
     ·exact T.obj _ _ st5 b hb
    have I5' : Inv X' ([]++zf2 (s2.heap.objs.size :: fp) s5.heap) (zc3 O cap σ) H5 s5:=I5.zC8.pinned (fp:=s2.heap.objs.size :: fp) (fun b hb=>fpok hb (fr5' b hb)) ob5;have a5:=hg' _ s5 (zc3 O cap σ) H5 x u _ I5' r5 (ho _ _ _ _ (step x H5 y5));rw [eP,eW,eA,eE,eX] at a5;refine thn a5 fun _ s6 zR=>?_;refine za0 fun gG=>?_;obtain ⟨σ6,H6,I6,⟨l6,w6⟩,q6⟩:=zR;refine gG ?_;clear gG;have e7:=hk' _ s6 σ6 H6 _ I6 q6;rw [eP,eW,eA,eE,eX] at e7;refine thn e7 fun ku s7 zR=>?_;refine za0 fun gG=>?_;obtain ⟨kz,H7,I7,r7,k,hkz,q7⟩:=zR;subst hkz;obtain ⟨tk7,rfl⟩:=r7;refine gG ?_;clear gG;have e8:=hv' _ s7 σ6 H7 _ I7 q7;rw [eP,eW,eA,eE,eX] at e8;refine thn e8 fun y s8 zR=>?_;refine za0 fun gG=>?_;obtain ⟨z,H8,I8,r8,m',hm',w8⟩:=zR;refine gG ?_;clear gG;have g8:=I8.zo3 (b:=s2.heap.objs.size) ay9 g5.1;have hS8 : s8.heap.DictOf (zc5 X.prog X.w) s2.heap.objs.size vs:=zi8 hS5 fun o e=>by rw [g5.1] at e; cases e; exact g8.1
    have w6' : ∀ (j : Nat) v,(zc3 O cap σ)[j]? = some (some v)->σ6[j]? = some (some v):=fun j v e=>by
     by_cases hj : O.length <= j
     ·rw [w6 j hj]; exact e
     ·exfalso;unfold zc3 at e;rw [ay8 (by simpa using Nat.not_le.mp hj),by1] at e;cases q : O[j]? with
      | none=>rw [q] at e; cases e
      | some z=>rw [q] at e; cases e
    have I9 : Inv X' [] (zc3 O cap σ) H8 s8:=I8.zC8.weak l6.symm w6';refine wpAny_dictSet_pairs (zu5 X.prog X.w k tk7) hS8 (fun h' hS9 sb=>?_) (by rw [<- rv3.length]; exact ky8 hz);refine za0 fun gG=>?_;obtain ⟨q0,q1,q2,q3,q4,q5⟩:=fpok ay9 g8.2;refine gG ?_;clear gG;refine ⟨m',hm',i + 1,putK kvs (.inr k) z,stored vs (.inr k) y,H8,I9.turned (t':=s8.toks + 1) (fun b o hb e=>(sb.2 b hb).trans e) q0 q1 q3 q4 q5,?_,fun b hb=>?_,hS9,rv3.put _ r8,w8⟩
    ·refine T.keep _ _ _ st5 fun b hb o e=>(sb.2 b (fun z=>Dfp (z ▸ hb))).trans (I8.zo3 (by0 _ hb) e).1
    ·refine za0 fun gG=>?_;obtain ⟨o,e,_⟩:=ob5 b hb;refine gG ?_;clear gG;exact (I8.zo3 hb e).2
  ·rcases by7.mp hb with e | hb
   ·rw [e]; exact I2.hok.fresh (ay6 _)
   ·exact (f2 b hb).1
 exact codeAny_compStart_dict (g:=⟨tg,iter,[],0⟩) rfl rfl (loop _ rfl) (T.self _ 0 _ _ _ (T.keep _ _ _ st2 (fun b _ o e=>k1 b o (k0 b o e))) (loop _ rfl))
theorem zb81 (hc : X.calm = true) (S : zb3 X.N X.env.scope O F cap scope) (hi : PI X tg iter wi)
  (hg : ∀ cl C ex s H,PG (zc2 X (O++F) scope cl C ex s H) tg g) (hk : ∀ cl C ex s H,PE (zc2 X (O++F) scope cl C ex s H) kx tk) (hv : ∀ cl C ex s H,PE (zc2 X (O++F) scope cl C ex s H) vx tv)
  (ho : Own O.length g) (hs : ∀ x,ey4 iter X.env x = pure x:=by intro _; rfl) : PE X (.DictComp kx vx [⟨tg,iter,[],0⟩] scope pos) (tDC wi O cap g tk tv):=by
 intro pins s σ H Q I h;rw [arm_eval_DictComp];exact zA0 (use:=none) (R:=EP X pins σ Q) hc S hi hg hk hv ho hs I h fun s4 D C H4 ys hm hDC hI fp q=>hm.elim fun m hm=>⟨m,hm,fun h' sb=>⟨.ref D,_,hI h' sb,rfl,q⟩⟩
end
section
variable {X : Bc} {n : Nat} {S : Sl} {W : Wl} {D : DB} {k : KB} {tg iter kx vx : Expr} {O Fv : List Str} {cap : List Nat} {scope : Scope} {pos : Pos}
abbrev KD (X : Bc) (O Fv : List Str) (cap : List Nat) (scope : Scope) (S : Sl) (tg kx vx : Expr) (k : List (Key × El)->Wl->Prop) : Nat->(Wl->Prop)->List PyData->Wl->Prop:=fun m G ds W1=>∃ P : Nat->List (Key × El)->Wl->Prop,
 P 0 [] W1 /\ (∀ i kvs W',i <= ds.length->P i kvs W'->G W' /\ kvs.length < by3) /\
  (∀ i d kvs W',ds[i]? = some d->P i kvs W'->BGc X (O++Fv) scope O.length (zP2 O cap S) W' tg (.d d) fun S2 W2=>BEc X (O++Fv) scope S2 W2 kx fun kz W3=>∃ x : Str,kz = .d (.str x) /\ BEc X (O++Fv) scope S2 W3 vx fun z W4=>P (i + 1) (zz2 kvs (.inr x) z) W4) /\
  ∀ kvs W',P ds.length kvs W'->k kvs W'
theorem zW8 {F : Hp} {A : List Addr} {σ : St} {H : Hp} {Q : VK} {k : List (Key × El)->Wl->Prop} (h : BI X S W tg iter (KD X O Fv cap scope S tg kx vx k)) (x0 : X.Am F A) (r : RW X.K F A W H) (sr : SR X.K F A S σ)
  (q : ∀ F' A' W' H' kvs vs p,Ext F A F' A'->RW X.K F' A' W' H'->Paired (fun p q=>p.1 = q.1 /\ ElR X.K F' A' p.2 q.2) kvs vs->H' p = none->k kvs W'->Q (.ref p) (upd H' p (.dK vs))) :
  tDC (tUI X tg iter) O cap (tUGc X (O++Fv) scope O.length tg) (zL1 X (O++Fv) scope kx) (zL1 X (O++Fv) scope vx) σ H Q :=
 h F A σ H _ x0 r sr fun m G F1 A1 W1 H1 ds J e1 r1 hm1 wk zR=>by
  refine za0 fun gG=>?_;obtain ⟨P,p0,hG,hs,hd⟩:=zR;refine gG ?_;clear gG;have up : ∀ {F F' : Hp} {A A' : List Addr} {a : List (Key × El)} {b : List (Key × V)},Ext F A F' A'->Paired (fun p q=>p.1 = q.1 /\ ElR X.K F A p.2 q.2) a b->Paired (fun p q=>p.1 = q.1 /\ ElR X.K F' A' p.2 q.2) a b:=fun e p=>zg6 (fun _ _ t=>⟨t.1,t.2.ext e⟩) p;refine ⟨fun i μ vs H'=>μ = ds.length - i /\ i <= ds.length /\ ∃ F' A' W' kvs,Ext F1 A1 F' A' /\ RW X.K F' A' W' H' /\ Paired (fun p q=>p.1 = q.1 /\ ElR X.K F' A' p.2 q.2) kvs vs /\ P i kvs W',⟨ds.length,by simp,dy9 _,F1,A1,W1,[],.refl,r1,.nil,p0⟩,?_⟩;intro i μ vs H' gX;refine za0 fun gG=>?_;obtain ⟨rfl,hi,F',A',W',kvs,x,r',z',p⟩:=gX;obtain ⟨g,hz⟩:=hG i kvs W' hi p;refine gG ?_;clear gG;refine ⟨by rw [<- zb2 z']; exact hz,?_⟩
  by_cases hlt : i < ds.length
  ·refine .inr ⟨wk.go i F' A' W' H' hlt (x.ex1 hm1) r' g,fun v H'' hy=>?_⟩;refine za0 fun gG=>?_;obtain ⟨rfl,d,hd',zd⟩:=wk.yld i F' A' W' H' v H'' hlt (x.ex1 hm1) r' g hy;refine gG ?_;clear gG;have srx:=sr.ext (e1.trans x);refine hs i d kvs W' hd' p F' A' (zc3 O cap σ) H'' v _ r' srx.cmp zd fun S2 σ2 sr2 h2=>?_;refine ⟨tD X S2 W' _,fun cl C ex s H=>h2 cl C ex s H,F',A',x0.trans (e1.trans x),r',sr2,fun F3 A3 W3 H3 kz vk e3 r3 z3 ⟨y,hy,h3⟩=>?_⟩;subst hy;obtain rfl:=Rq.zf7 z3;refine ⟨y,rfl,tD X S2 W3 _,fun cl C ex s H=>h3 cl C ex s H,F3,A3,(x0.trans (e1.trans x)).trans e3,r3,sr2.ext e3,fun F4 A4 W4 H4 z vz e4 r4 z4 h4=>?_⟩;exact ⟨ds.length - (i + 1),by omega,rfl,hlt,F4,A4,W4,zz2 kvs (.inr y) z,(x.trans e3).trans e4,r4,zQ5 z4 (up (e3.trans e4) z'),h4⟩
  ·have hie : i = ds.length:=by omega
   subst hie;exact .inl ⟨wk.stop F' A' W' H' (x.ex1 hm1) r' g,fun l hl=>q F' A' W' H' kvs vs l (e1.trans x) r' z' hl (hd kvs W' p)⟩
theorem zb82 (hc : X.calm = true) (cs : zb3 X.N X.env.scope O Fv cap scope) (h : BI X S W tg iter (KD X O Fv cap scope S tg kx vx fun kvs W'=>k (.o W'.length) (W'++[.dK kvs])))
  (hs : ∀ x,ey4 iter X.env x = pure x:=by intro _; rfl) : BE X S W (.DictComp kx vx [⟨tg,iter,[],0⟩] scope pos) k :=
 .of (zb81 (g:=tUGc X (O++Fv) scope O.length tg) (tk:=zL1 X (O++Fv) scope kx) (tv:=zL1 X (O++Fv) scope vx) hc cs pi_U (fun cl C ex s H=>fun pins s' σ' H' v u Q I r zR=>by obtain ⟨t,h,_,q⟩:=zR; exact h cl C ex s H pins s' σ' H' v u Q I r q) (fun cl C ex s H=>fun pins s' σ' H' Q I zR=>by obtain ⟨t,h,q⟩:=zR; exact h cl C ex s H pins s' σ' H' Q I q)
  (fun cl C ex s H=>fun pins s' σ' H' Q I zR=>by obtain ⟨t,h,q⟩:=zR; exact h cl C ex s H pins s' σ' H' Q I q) za27 hs) fun F A σ H Q x0 r sr q=>zW8 h x0 r sr fun F' A' W' H' kvs vs p x r' z hp hk=>(q.ext x).zX4 r' hp (o:=.dK kvs) ⟨vs,rfl,z⟩ hk
end
section
variable {X : Cx} {tg iter kx vx : Expr} {scope : Scope} {pos : Pos} {wi : TI} {g : TG} {tk tv : TE} {O F : List Str} {cap : List Nat}
theorem zd11 {i : Nat} {x : Str} {pos' spos : Pos} (hN : X.N.Nodup) (hix : X.N[i]? = some x) (hx : Loc X.env.scope x) (hc : X.calm = true) (S : zb3 X.N X.env.scope O F cap scope) (hi : PI X tg iter wi)
  (hg : ∀ cl C ex s H,PG (zc2 X (O++F) scope cl C ex s H) tg g) (hk : ∀ cl C ex s H,PE (zc2 X (O++F) scope cl C ex s H) kx tk) (hv : ∀ cl C ex s H,PE (zc2 X (O++F) scope cl C ex s H) vx tv)
  (ho : Own O.length g) (hsw : swapsWith (.DictComp kx vx [⟨tg,iter,[],0⟩] scope pos) (some (.Name x pos')) spos.line X.env = pure true:=by rfl) (hs : ∀ x,ey4 iter X.env x = pure x:=by intro _; rfl)
  (hf : X.fn x = true \/ X.env.scope.names.lookup x = some .local:=by first | exact .inl rfl | exact .inr rfl | assumption) :
  PS X (.Assign [.Name x pos'] (.DictComp kx vx [⟨tg,iter,[],0⟩] scope pos) spos) (tAsg (tDC wi O cap g tk tv) (zn9 i)):=by
 intro pins s σ H D I h;rw [exec_Assign_Name_used _ _ _ _ hsw];refine ay0 (ly3 (ay0 ?_));show wpAny _ X.A (do let _ <- comprehension (.DictComp kx vx [⟨tg,iter,[],0⟩] scope pos) scope X.env _ newDict false (eval iter X.env) (some (assign (.Name x pos') X.env))) _ _ s;refine ay0 (fy6 (zA0 (R:=fun _ s'=>SP X pins D .next s') hc S hi hg hk hv ho hs I h ?_) (fun _ s' hq=>ay1 (ay1 hq)) fun _ _ e=>e);intro s4 D' C H4 kvs ⟨m,hm⟩ hDC hI fp q;show wpAny (model X.prog X.w) X.A (assign (.Name x pos') X.env (.ref D')) (fun _ s''=>∃ m,s''.heap.Ns C m /\ ∀ h',fy3 C s''.heap h'->SP X pins D .next { s'' with heap:=h' }) X.xe s4;refine za0 fun gG=>?_;obtain ⟨f0,f1,f2,f3,f4,f5⟩:=fp;refine gG ?_;clear gG;refine wpAny_assign_Name (zu6 (v:=.ref D') (hI s4.heap ⟨rfl,fun _ _=>rfl⟩) hN hix hx rfl (fun s5 I5 z=>?_) hf);refine za0 fun gG=>?_;obtain ⟨a,sb,ha⟩:=z;refine gG ?_;clear gG
 have hCa : C ≠ a:=by
  rcases ha with e | e
  ·rw [e]; exact f1
  ·exact fy2 (f4 x a e)
 refine ⟨m,hm.sameBut sb hCa,fun h' sb'=>?_⟩;exact ⟨_,upd H4 D' (.dK kvs),I5.turned (t':=s5.toks) (fun b o hb e=>(sb'.2 b hb).trans e) f0 f1 f3 f4 f5,q⟩
end
section
variable {X : Bc} {n : Nat} {S : Sl} {W : Wl} {D : DB} {tg iter kx vx : Expr} {O Fv : List Str} {cap : List Nat} {scope : Scope} {pos : Pos}
end
def ltL : List Str->List Str->Bool
 | x :: xs,y :: ys=>if x = y then ltL xs ys else ltS x y
 | _,_=>false
theorem za84 : ∀ xs : List Str,ltL xs xs = false
 | []=>rfl
 | x :: xs=>by simp [ltL,za84 xs]
theorem zx7 : ∀ {a b c : List Str},a.length = b.length->b.length = c.length->ltL a b = true->ltL b c = true->ltL a c = true
 | [],_,_,_,_,h,_=>by simp [ltL] at h
 | x :: a,[],_,h1,_,_,_=>by simp at h1
 | x :: a,y :: b,[],_,h2,_,_=>by simp at h2
 | x :: a,y :: b,z :: c,h1,h2,h,h'=>by
  have h1 : a.length = b.length:=by simpa using h1
  have h2 : b.length = c.length:=by simpa using h2
  unfold ltL at h h' ⊢
  by_cases e : x = y
  ·rw [if_pos e] at h
   by_cases e' : y = z
   ·rw [if_pos e'] at h'; rw [if_pos (e.trans e')]; exact zx7 h1 h2 h h'
   ·rw [if_neg e'] at h'; rw [if_neg (by rw [e]; exact e'),e]; exact h'
  ·rw [if_neg e] at h
   by_cases e' : y = z
   ·rw [if_pos e'] at h'; rw [if_neg (by rw [<- e']; exact e),<- e']; exact h
   ·rw [if_neg e'] at h';have h3:=zw8 h h';have : x ≠ z:=fun w=>by rw [w,za55] at h3; cases h3
    rw [if_neg this]; exact h3
theorem za85 : ∀ {a b : List Str},a.length = b.length->a ≠ b->ltL a b = false->ltL b a = true
 | [],[],_,h,_=>absurd rfl h
 | [],_ :: _,h,_,_=>by simp at h
 | _ :: _,[],h,_,_=>by simp at h
 | x :: a,y :: b,h1,h,h'=>by
  have h1 : a.length = b.length:=by simpa using h1
  unfold ltL at h' ⊢
  by_cases e : x = y
  ·rw [if_pos e] at h'; rw [if_pos e.symm];exact za85 h1 (fun z=>h (by rw [e,z])) h'
  ·rw [if_neg e] at h'; rw [if_neg (fy2 e)];exact zM3 e h'
section
variable {prog : cy7} {w : World} {A : Around} {E : Value->Shared->Prop} {s : Shared}
theorem zR8 {β : Type} {f : Value × Value->β->Sem (ForInStep β)} {b0 : β} {fin : Bool->β}
  (heq : ∀ (x : Str) (t u : Tok) (Q : ForInStep β->Shared->Prop) (s : Shared),Q (.yield b0) s->wpAny (model prog w) A (f (.str x t,.str x u) b0) Q E s)
  (hne : ∀ (x y : Str) (t u : Tok) (Q : ForInStep β->Shared->Prop) (s : Shared),x ≠ y->Q (.done (fin (ltS x y))) s->wpAny (model prog w) A (f (.str x t,.str y u) b0) Q E s) :
  ∀ (xs ys : List Str) (its its2 : List Value),Vals (xs.map V.str) its->Vals (ys.map V.str) its2->xs.length = ys.length->∀ (Q : β->Shared->Prop) (s : Shared),(xs = ys->Q b0 s)->(xs ≠ ys->Q (fin (ltL xs ys)) s)->wpAny (model prog w) A (forIn (its.zip its2) b0 f) Q E s
 | [],[],_,_,.nil,.nil,_,Q,s,h1,_=>by
  rw [List.zip_nil_left];exact ay1 (h1 rfl)
 | [],_ :: _,_,_,_,_,h,_,_,_,_=>by simp at h
 | _ :: _,[],_,_,_,_,h,_,_,_,_=>by simp at h
 | x :: xs,y :: ys,_,_,.cons (b:=v) rx r,.cons (b:=v') ry r',hl,Q,s,h1,h2=>by
  refine za0 fun gG=>?_;obtain ⟨t,rfl⟩:=rx;obtain ⟨u,rfl⟩:=ry;refine gG ?_;clear gG;rw [List.zip_cons_cons,List.forIn_cons]
  by_cases e : x = y
  ·subst e;refine ay0 (heq x t u _ s ?_);refine zR8 heq hne xs ys _ _ r r' (by simpa using hl) Q s (fun z=>h1 (by rw [z])) fun z=>?_;have:=h2 (fun z'=>z (by injection z'));unfold ltL at this;rw [if_pos rfl] at this;exact this
  ·refine ay0 (hne x y t u _ s e (ay1 ?_));have:=h2 (fun z'=>e (by injection z'));unfold ltL at this;rw [if_neg e] at this;exact this
theorem zb83 {xs ys : List Str} {its its2 : List Value} {a b : Addr} {oa ob : Obj} {n m : Nat} {Q : Bool->Shared->Prop} (hu : A.units < cLine) (ha : s.heap.get? a = some oa) (ca : oa.cls = .type "tuple") (da : oa.data = .seq its.toArray n)
  (hb : s.heap.get? b = some ob) (cb : ob.cls = .type "tuple") (db : ob.data = .seq its2.toArray m) (rx : Vals (xs.map V.str) its) (ry : Vals (ys.map V.str) its2) (hl : xs.length = ys.length) (hne : xs ≠ ys) (h : Q (ltL xs ys) s) : wpAny (model prog w) A (gy5 .Lt (.ref a) (.ref b)) (PySem.W.BoolBack Q) E s:=by
 have hTa : s.TypeIs (.ref a) "tuple" := ⟨_,ha,ca⟩
 have hTb : s.TypeIs (.ref b) "tuple" := ⟨_,hb,cb⟩
 refine wpAny_richCompare_same_room (op:=.Lt) hTa hTb F.slot_tuple_lt (dy4 F.slot_tuple_lt hTa F.entry_tuple_lt ?_ (F.args_tuple_lt_2 _ _)) hu;show wpAny _ _ (isInstance (.ref b) (.type "tuple") >>= _) _ _ s;refine ay0 (qy0 hTb isSubtype_tuple_tuple ?_);simp only [Bool.not_true,jy0,if_false];refine ay0 (wpAny_tupleItemsOf ha da (ay0 (wpAny_tupleItemsOf hb db (ay0 ?_))));show wpAny _ _ (forIn (its.zip its2) _ _) _ _ s;refine zR8 (fin:=fun c=>⟨some (.done (.ret (.bool c))),⟨⟩⟩) ?_ ?_ xs ys its its2 rx ry hl _ s (fun z=>absurd z hne) (fun _=>?_)
 ·intro x t u Q s hq;refine ay0 (py5 ?_);rw [decide_eq_true rfl];simp only [Bool.not_true,jy0,if_false];exact ay1 hq
 ·intro x y t u Q s e hq;refine ay0 (py5 ?_);rw [decide_eq_false e];simp only [Bool.not_false,if_true];refine ay0 (oy6 (ay0 (PySem.P.lt_str ?_)));exact ay0 (ay1 (ay1 hq))
 ·exact ay1 ⟨_,rfl,by simp,h⟩
end
theorem zR9 {a b : List Str} (hl : a.length = b.length) (h : ltL a b = true) : ltL b a = false:=by
 cases h' : ltL b a with
 | false=>rfl
 | true =>
  have:=zx7 hl hl.symm h h';rw [za84] at this;cases this
theorem za86 {ks : List (List Str)} {m : Nat} (nd : ks.Nodup) (hm : ∀ k∈ks,k.length = m) : Ord ks.length fun i j=>ltL (ks.getD i []) (ks.getD j []):=by
 have e : ∀ k (hk : k < ks.length),ks.getD k [] = ks[k]:=fun k hk=>by simp [ly8,hk]
 have hl : ∀ k (hk : k < ks.length),(ks.getD k []).length = m:=fun k hk=>by rw [e k hk]; exact hm _ (py9 hk)
 refine ⟨fun i j hi hj h=>zR9 ((hl i hi).trans (hl j hj).symm) h,fun i j k hi hj hk h h'=>zx7 ((hl i hi).trans (hl j hj).symm) ((hl j hj).trans (hl k hk).symm) h h',fun i j hi hj hij h=>?_⟩;refine za85 ((hl i hi).trans (hl j hj).symm) (fun z=>hij ?_) h;rw [e i hi,e j hj] at z;exact (iy4 nd).mp z
end L2
namespace L2
open PySem PySem.Spec PyProof.Rows
open PySem.W
section
variable {prog : cy7} {w : World} {A : Around} {E : Value->Shared->Prop} {s : Shared}
theorem zS0 {fin : Bool} {Q : Bool->Shared->Prop} : ∀ (xs ys : List Str) (its its2 : List Value) (i : Nat),Vals (xs.map V.str) its->Vals (ys.map V.str) its2->xs.length = ys.length->xs ≠ ys->Q (ltL xs ys) s->KatLex prog w A true fin Q (its.zip its2) (i + 1) s
 | [],[],_,_,_,_,_,_,h,_=>absurd rfl h
 | [],_ :: _,_,_,_,_,_,h,_,_=>by simp at h
 | _ :: _,[],_,_,_,_,_,h,_,_=>by simp at h
 | x :: xs,y :: ys,_,_,i,.cons rx r,.cons ry r',hl,hne,h=>by
  refine za0 fun gG=>?_;obtain ⟨t,rfl⟩:=rx;obtain ⟨u,rfl⟩:=ry;refine gG ?_;clear gG;rw [List.zip_cons_cons,KatLex.eq_2];refine py5 ?_;unfold ltL at h
  by_cases e : x = y
  ·rw [decide_eq_true e,if_pos rfl];rw [if_pos e] at h;exact zS0 xs ys _ _ (i + 1) r r' (by simpa using hl) (fun z=>hne (by rw [e,z])) h
  ·rw [decide_eq_false e,if_neg (by decide)];rw [if_neg e] at h;exact kat_one _ _ (PySem.P.lt_str h)
theorem za87 {fin : Bool} {Q : Bool->Shared->Prop} {xs ys : List Str} {its its2 : List Value} (rx : Vals (xs.map V.str) its) (ry : Vals (ys.map V.str) its2) (hl : xs.length = ys.length) (hne : xs ≠ ys) (h : Q (ltL xs ys) s) : KatLex prog w A true fin Q (its.zip its2) 0 s:=by
 cases xs with
 | nil =>
  cases ys with
  | nil=>exact absurd rfl hne
  | cons y ys=>simp at hl
 | cons x xs =>
  cases ys with
  | nil=>simp at hl
  | cons y ys =>
   cases rx with
   | cons rx r =>
    cases ry with
    | cons ry r' =>
     refine za0 fun gG=>?_;obtain ⟨t,rfl⟩:=rx;obtain ⟨u,rfl⟩:=ry;refine gG ?_;clear gG;rw [List.zip_cons_cons,KatLex.eq_2];refine py5 ?_;unfold ltL at h
     by_cases e : x = y
     ·rw [decide_eq_true e,if_pos rfl];rw [if_pos e] at h;exact zS0 xs ys _ _ 0 r r' (by simpa using hl) (fun z=>hne (by rw [e,z])) h
     ·rw [decide_eq_false e,if_neg (by decide)];rw [if_neg e] at h;refine strKind_oneLt prog w A _ s _ _ x.cps.toList y.cps.toList rfl rfl ?_;exact h
end
def IsTL (h : Heap) (b : Addr) (p : List Str) : Prop:=∃ o n,∃ its : List Value,h.get? b = some o /\ o.cls = .type "tuple" /\ o.data = .seq its.toArray n /\ Vals (p.map V.str) its
section
variable {X : Cx}
theorem zJ2 : zj8 X (.builtin "sorted") fun xs H Q=>∃ (p : Addr) (vs : List V) (ps : List (List Str)) (m : Nat),xs = [.ref p] /\ SqL X.K H p vs /\ vs.length < 64 /\ Paired (fun (p : List Str) v=>∃ b,v = .ref b /\ SqT X.K H b (p.map V.str)) ps vs /\ ps.Nodup /\ 0 < m /\ (∀ k∈ps,k.length = m) /\
  ∀ (l : Addr) (q : List Nat),H l = none->q.Perm (jy9 ps.length)->q.Pairwise (fun i j=>ltL (ps.getD i []) (ps.getD j []) = true)->Q (.ref l) (upd H l (.lst (q.map fun i=>vs.getD i .non))):=by
 intro pins s σ H xs us Q I r h;refine za0 fun gG=>?_;obtain ⟨p,vs,ps,m,rfl,hq,h64,hv,nd,hm0,hm,q⟩:=h;obtain ⟨u,rfl,rx⟩:=vals1 r;refine gG ?_;clear gG;cases rx;refine za0 fun gG=>?_;obtain ⟨its,r',pl,hz⟩:=I.list hq;refine gG ?_;clear gG;have hlen:=r'.length;have hpl : ps.length = vs.length:=zb2 hv;have gp : ∀ k (hk : k < ps.length),ps.getD k [] = ps[k]:=fun k hk=>by simp [ly8,hk]
 have gl : ∀ k (hk : k < ps.length),(ps.getD k []).length = m:=fun k hk=>by rw [gp k hk]; exact hm _ (py9 hk)
 have tup : ∀ i (hi : i < its.length),∃ b,its[i] = .ref b /\ IsTL s.heap b (ps.getD i []):=fun i hi=>by
  have hip : i < ps.length:=by omega
  refine za0 fun gG=>?_;obtain ⟨x,hx,rx⟩:=ze8 r' (by5 hi);obtain ⟨v,hv',b,e1,hb⟩:=zh6 hv (by5 hip);refine gG ?_;clear gG;rw [hx] at hv';cases hv';subst e1;have rx' : its[i] = cy9 b:=rx;refine ⟨b,rx',?_⟩;refine za0 fun gG=>?_;obtain ⟨ws,rw',⟨o,g1,g2,n,g3⟩,_⟩:=I.tuple hb;refine gG ?_;clear gG;rw [gp i hip];exact ⟨o,n,ws,g1,g2,g3,rw'⟩
 have O:=za86 nd hm;rw [hpl,hlen] at O;refine zI4 (κ:=tuples' true) O pl.isList (by omega) (fun h2 s' Q hb hQ=>?_) (fun h2 s' i j C hb hi hj hij hC=>?_) fun qq q1 q2=>?_
 ·obtain ⟨fs,k1,k2,k3⟩ : ∃ fs,KatTups s'.heap its fs /\ fs.length = its.length /\ ∀ v∈fs,∃ x t,v = .str x t:=by
   have : ∀ (l : List Value),(∀ v∈l,∃ b p,v = .ref b /\ IsTL s'.heap b p /\ p ≠ [])->∃ fs,KatTups s'.heap l fs /\ fs.length = l.length /\ ∀ v∈fs,∃ x t,v = .str x t:=by
    intro l
    induction l with
    | nil=>intro _; exact ⟨[],.nil,rfl,fun v hv=>absurd hv (by simp)⟩
    | cons a l ih =>
     intro h;refine za0 fun gG=>?_;obtain ⟨b,p,rfl,⟨o,n,ws,e1,e2,e3,rw'⟩,hp⟩:=h a ay9;obtain ⟨fs,f1,f2,f3⟩:=ih fun a ha=>h a (by0 _ ha);refine gG ?_;clear gG;cases p with
     | nil=>exact absurd rfl hp
     | cons x p =>
      cases rw' with
      | @cons _ v _ ws' rx rr =>
       refine za0 fun gG=>?_;obtain ⟨t,rfl⟩:=rx;refine gG ?_;clear gG;refine ⟨.str x t :: fs,.cons e1 e2 e3 (f:=.str x t) (by simp) f1,by simp [f2],fun v hv=>?_⟩;rcases by7.mp hv with rfl | hv
       ·exact ⟨_,_,rfl⟩
       ·exact f3 v hv
   refine this its fun v hv'=>?_;refine za0 fun gG=>?_;obtain ⟨i,hi,rfl⟩:=vy5.mp hv';obtain ⟨b,e1,o,n,ws,e2,e3⟩:=tup i hi;refine gG ?_;clear gG;exact ⟨b,_,e1,⟨o,n,ws,hb _ _ e2,e3⟩,fun z=>by have:=gl i (by omega); rw [z] at this; simp at this; omega⟩
  refine kat_kind (T:=.type "str") k1 (by omega) (fun v hv'=>?_) (by decide) hQ;refine za0 fun gG=>?_;obtain ⟨x,t,rfl⟩:=k3 v hv';refine gG ?_;clear gG;exact fun A Q E s _ q=>uy1 rfl q
 ·refine za0 fun gG=>?_;obtain ⟨b1,e1,o1,n1,w1,g1,c1,d1,rw1⟩:=tup i hi;obtain ⟨b2,e2,o2,n2,w2,g2,c2,d2,rw2⟩:=tup j hj;refine gG ?_;clear gG;unfold kas_ask;have gd : ∀ (k : Nat) (hk : k < its.length),its.getD k dy6 = its[k]:=fun k hk=>by simp [ly8,hk]
  rw [gd i hi,gd j hj,e1,e2];refine kat_lt (hb _ _ g1) d1 (hb _ _ g2) d2 ?_;refine za87 rw1 rw2 ((gl i (by omega)).trans (gl j (by omega)).symm) (fun z=>hij ?_) hC;rw [gp i (by omega),gp j (by omega)] at z;exact (iy4 nd).mp z
 ·obtain ⟨e,he⟩:=sortedAll_at s.heap its (qq.map fun i=>its.getD i dy6).toArray;rw [<- hlen,<- hpl] at q1
  have hvq : Vals (qq.map fun i=>vs.getD i .non) (qq.map fun i=>its.getD i dy6):=by
   have : ∀ l : List Nat,(∀ i∈l,i < vs.length)->Vals (l.map fun i=>vs.getD i .non) (l.map fun i=>its.getD i dy6):=by
    intro l
    induction l with
    | nil=>intro _; exact .nil
    | cons i l ih =>
     intro hl;have hi:=hl i ay9;refine .cons ?_ (ih fun j hj=>hl j (by0 _ hj));refine za0 fun gG=>?_;obtain ⟨w,hw,rw'⟩:=zh6 r' (by5 hi);refine gG ?_;clear gG;show RelV (vs.getD i .non) (its.getD i dy6);rw [show vs.getD i .non = vs[i] by simp [ly8,hi],show its.getD i dy6 = w by simp [ly8,hw]];exact rw'
   exact this qq fun i hi=>by
    have:=q1.mem_iff.mp hi;rw [<- hpl];simpa using this
  refine ⟨.ref (s.heap.objs.size + 1),_,I.laid (t':=s.toks) (fun _ _=>sortedAll_old) (uy2 _) (show zc1 X.prog X.w _ _ _ (.lst (qq.map fun i=>vs.getD i .non)) from ⟨?_,_,e,hvq,?_⟩),rfl,q _ qq (I.hok.fresh (uy2 _)) q1 q2⟩
  ·rw [ay3,q1.length_eq,List.length_range,hpl]; exact hz
  ·simpa [seqObj] using he
end
section
variable {α : Type}
theorem za88 [Inhabited α] {L : List α} {key : α->List Str} {q : List Nat} (hq : ∀ i∈q,i < L.length) (h : q.Pairwise fun i j=>ltL ((L.map key).getD i []) ((L.map key).getD j []) = true) : (q.map fun i=>L.getD i default).Pairwise fun a b=>ltL (key a) (key b) = true:=by
 rw [List.pairwise_map];refine h.imp_of_mem fun {i j} hi hj hij=>?_;have e : ∀ k,k < L.length->(L.map key).getD k [] = key (L.getD k default):=fun k hk=>by simp [ly8,hk]
 rw [e i (hq i hi),e j (hq j hj)] at hij;exact hij
end
section
variable {X : Bc} {S : Sl} {W : Wl} {k : KB}
theorem zS1 {K : ay5} {F : Hp} {xs : List Str} {vs : List V} (h : Paired (fun d v=>Rq K F v d) (xs.map hy3) vs) : vs = xs.map V.str:=zv8 h
theorem zW9 {α : Type} [Inhabited α] {x : El} {L : List α} {m : Nat} (key : α->List Str) (g : α->PyData) (hg : ∀ a∈L,g a = .tuple ((key a).map .str)) (hx : zX5 W x (L.map g)) (nd : (L.map key).Nodup) (h64 : L.length < 64) (hm0 : 0 < m) (hm : ∀ a∈L,(key a).length = m)
  (h : ∀ L' : List α,L'.Perm L->L'.Pairwise (fun a b=>ltL (key a) (key b) = true)->k (.o W.length) (W++[.lst (zb4 (L'.map g))])) : CB X (.builtin "sorted") [x] W k:=.of zJ2 fun F A H Q vs r zs q=>by
 refine za0 fun gG=>?_;obtain ⟨v,rfl,z⟩:=zi3 zs;obtain ⟨a,vs,rfl,hs,z⟩:=r.lst z hx;refine gG ?_;clear gG;have hl : L.length = vs.length:=by have:=zb2 z; simpa using this
 refine ⟨a,vs,L.map key,m,rfl,.inl hs,by omega,?_,nd,hm0,fun k hk=>?_,fun l qq hl0 h1 h2=>?_⟩
 ·refine za13 ?_;refine zs7 (zB0 z) fun x hx v hv=>?_;have hv : Rq X.K F v (g x):=hv;rw [hg x hx] at hv;refine za0 fun gG=>?_;obtain ⟨b,ws,rfl,hb,pw⟩:=Rq.zg7 hv;refine gG ?_;clear gG;obtain rfl:=zS1 pw;exact ⟨b,rfl,r.sub.zt3 hb⟩
 ·refine za0 fun gG=>?_;obtain ⟨a,ha,rfl⟩:=cy3.mp hk;refine gG ?_;clear gG;exact hm a ha
 ·rw [ay3] at h1;have hql : ∀ i∈qq,i < L.length:=fun i hi=>by have:=h1.mem_iff.mp hi; simpa using this
  refine q.zX4 r hl0 (o:=.lst (zb4 ((qq.map fun i=>L.getD i default).map g))) ⟨_,rfl,zg8 ?_⟩ (h _ (zz4 h1) (za88 hql h2))
  have : ∀ l : List Nat,(∀ i∈l,i < L.length)->Paired (fun d v=>Rq X.K F v d) ((l.map fun i=>L.getD i default).map g) (l.map fun i=>vs.getD i .non):=by
   intro l
   induction l with
   | nil=>intro _; exact .nil
   | cons i l ih =>
    intro hl';have hi:=hl' i ay9;refine .cons ?_ (ih fun j hj=>hl' j (by0 _ hj));obtain ⟨w,hw,rw'⟩:=zh6 z (i:=i) (a:=g L[i]) (by rw [by1,by5 hi]; rfl);show Rq X.K F (vs.getD i .non) (g (L.getD i default));rw [show L.getD i default = L[i] by simp [ly8,hi],show vs.getD i .non = w by simp [ly8,hw]];exact rw'
  exact this qq hql
end
section
variable {P : cy7} {w : World} {A : Around} {s : Shared} {l I S : Addr} {vs : List Value} {h0 : Heap} {n : Nat} {lt : Nat->Nat->Bool} {R : Result->Shared->Prop}
theorem zb84 (O : Ord vs.length lt) (hh : A.handled = none) (hlI : l ≠ I) (hSI : S ≠ I) (hSl : S ≠ l) (hI : h0.get? I = none) (hS : h0.get? S = none)
  (hc : ∀ (s' : Shared) i j vi vj (Q : Value->Shared->Prop) (E : Value->Shared->Prop),(∀ b o,h0.get? b = some o->s'.heap.get? b = some o)->vs[i]? = some vi->vs[j]? = some vj->i ≠ j->Q (.bool (lt i j)) s'->wpAny (model P w) A.in1 (richCompare .Lt vi vj) Q E s')
  (hR : ∀ i v h' tk,vs[i]? = some v->(∀ j,j < vs.length->j ≠ i->lt i j = true)->(∀ b o,h0.get? b = some o->h'.get? b = some o)->R (.ok (.ret v)) { s with heap:=h',toks:=tk }) :
  ∀ (k j i : Nat) (vb : Value) (h : Heap) (tk c : Nat),j + k = vs.length->i < j->vs[i]? = some vb->(∀ j',j' < j->j' ≠ i->lt i j' = true)->h.IsListIter I l j->h.IsList l vs.toArray->h.get? S = some { cls:=.type "list",data:=.seq #[vb,vb] c }->(∀ b o,h0.get? b = some o->h.get? b = some o) ->
   ly4 (model P w) A (.builtin "min.loop" ⟨[.ref I,.none,.ref S],[]⟩) R { s with heap:=h,toks:=tk }:=by
 have Wk:=Walks.list (prog:=P) (w:=w) (A:=A.in1) hh I l hlI vs.toArray;have n0I : ∀ b o,h0.get? b = some o->b ≠ I:=fun b o e z=>by rw [z,hI] at e; cases e
 have n0S : ∀ b o,h0.get? b = some o->b ≠ S:=fun b o e z=>by rw [z,hS] at e; cases e
 have wr : ∀ {b : Addr},b ≠ I->¬ b∈[I]:=fun h z=>h (ey2.mp z);intro k
 induction k with
 | zero =>
  intro j i vb h tk c hk hij hvb hbest hit hl hSo hkeep;obtain rfl : j = vs.length:=by omega
  refine iy0 PySem.F.entry_min_loop ?_;rw [fy8 ky5 _];show wpAny _ A.in1 (seqItems? (.ref S) >>= _) _ _ _;refine ay0 (sy9 (s:={ s with heap:=h,toks:=tk }) hSo rfl ?_);refine ay0 (wpAny_tryCatch ?_);refine Wk.done { s with heap:=h,toks:=tk } _ _ ?_ fun h' tk' kp=>?_
  ·rw [cy1]; exact ⟨hit,hl⟩
  ·have hS':=kp S _ (wr hSI) hSo;refine ay0 (py3 (s:={ s with heap:=h',toks:=tk' }) hS' rfl ?_ (by show 2 <= by3; decide) (by show 0 <= by3 + 1; decide));refine ay0 (wpAny_letGo (ay1 (hR i vb _ tk' hvb hbest fun b o e=>?_)));exact (dy5 _ _ (fy2 (n0S b o e))).trans (kp b o (wr (n0I b o e)) (hkeep b o e))
 | succ k ih =>
  intro j i vb h tk c hk hij hvb hbest hit hl hSo hkeep;have hlt : j < vs.length:=by omega
  refine iy0 PySem.F.entry_min_loop ?_;rw [fy8 ky5 _];show wpAny _ A.in1 (seqItems? (.ref S) >>= _) _ _ _;refine ay0 (sy9 (s:={ s with heap:=h,toks:=tk }) hSo rfl ?_);refine ay0 (wpAny_tryCatch ?_);refine Wk.item j { s with heap:=h,toks:=tk } _ _ (by rw [cy1]; exact hlt) ⟨hit,hl⟩ fun v h' tk' hv st' kp=>?_;have hv' : vs[j]? = some v:=by simpa using hv
  have hS':=kp S _ (wr hSI) hSo;have keep' : ∀ b o,h0.get? b = some o->h'.get? b = some o:=fun b o e=>kp b o (wr (n0I b o e)) (hkeep b o e);show wpAny _ A.in1 (pure v >>= _) _ _ _;refine ay0 (ay1 ?_);refine ay0 (wpAny_tryCatch (fy1 (ay0 ?_)));refine hc { s with heap:=h',toks:=tk' } j i v vb _ _ keep' hv' hvb (by omega) ?_;refine ay0 (fy1 (ky9 (ay0 (wpAny_letGo (ay1 ?_)))));cases hb : lt j i with
  | true =>
   rw [if_pos rfl];refine ay0 (py3 (s:={ s with heap:=h',toks:=tk' }) hS' rfl ?_ (by show 2 <= by3; decide) (by show 2 <= by3 + 1; decide));obtain ⟨c',eS⟩ : ∃ c',(h'.update S (hy9 fun _=>#[v,v])).get? S = some { cls:=.type "list",data:=.seq #[v,v] c' }:=⟨_,get?_update_seq (n:=c) (c := "list") (xs:=#[vb,vb]) hS' (fun _=>#[v,v])⟩
   have up : ∀ b o,b ≠ S->h'.get? b = some o->(h'.update S (hy9 fun _=>#[v,v])).get? b = some o:=fun b o hb e=>(dy5 _ _ (fy2 hb)).trans e;refine ay0 (wpAny_letGo (ay1 ⟨ky2 ky5 _,ih (j + 1) j v _ tk' c' (by omega) (by omega) hv' (fun j' hj' hne=>?_) ?_ ?_ eS fun b o e=>up b o (n0S b o e) (keep' b o e)⟩))
   ·by_cases e : j' = i
    ·rw [e]; exact hb
    ·exact O.trans j i j' hlt (by omega) (by omega) hb (hbest j' (by omega) e)
   ·refine za0 fun gG=>?_;obtain ⟨o,e,r⟩:=st'.1;refine gG ?_;clear gG;exact ⟨o,up I o (fy2 hSI) e,r⟩
   ·refine za0 fun gG=>?_;obtain ⟨o,e,r⟩:=st'.2;refine gG ?_;clear gG;exact ⟨o,up l o (fy2 hSl) e,r⟩
  | false =>
   rw [if_neg (by simp)];refine ay0 (wpAny_letGo (ay1 ⟨ky2 ky5 _,ih (j + 1) i vb _ tk' c (by omega) (by omega) hvb (fun j' hj' hne=>?_) st'.1 st'.2 hS' keep'⟩))
   by_cases e : j' = j
   ·rw [e]; exact O.tot j i hlt (by omega) (by omega) hb
   ·exact hbest j' (by omega) hne
theorem za89 (O : Ord vs.length lt) (hh : A.handled = none) (hlI : l ≠ I) (hSI : S ≠ I) (hSl : S ≠ l) (hI : h0.get? I = none) (hS : h0.get? S = none)
  (hc : ∀ (s' : Shared) i j vi vj (Q : Value->Shared->Prop) (E : Value->Shared->Prop),(∀ b o,h0.get? b = some o->s'.heap.get? b = some o)->vs[i]? = some vi->vs[j]? = some vj->i ≠ j->Q (.bool (lt i j)) s'->wpAny (model P w) A.in1 (richCompare .Lt vi vj) Q E s')
  (hR : ∀ i v h' tk,vs[i]? = some v->(∀ j,j < vs.length->j ≠ i->lt i j = true)->(∀ b o,h0.get? b = some o->h'.get? b = some o)->R (.ok (.ret v)) { s with heap:=h',toks:=tk })
  (h : Heap) (tk c : Nat) (h0l : 0 < vs.length) (hit : h.IsListIter I l 0) (hl : h.IsList l vs.toArray) (hSo : h.get? S = some { cls:=.type "list",data:=.seq #[] c }) (hkeep : ∀ b o,h0.get? b = some o->h.get? b = some o) :
   ly4 (model P w) A (.builtin "min.loop" ⟨[.ref I,.none,.ref S],[]⟩) R { s with heap:=h,toks:=tk }:=by
 have Wk:=Walks.list (prog:=P) (w:=w) (A:=A.in1) hh I l hlI vs.toArray;have n0I : ∀ b o,h0.get? b = some o->b ≠ I:=fun b o e z=>by rw [z,hI] at e; cases e
 have n0S : ∀ b o,h0.get? b = some o->b ≠ S:=fun b o e z=>by rw [z,hS] at e; cases e
 have wr : ∀ {b : Addr},b ≠ I->¬ b∈[I]:=fun h z=>h (ey2.mp z);refine iy0 PySem.F.entry_min_loop ?_;rw [fy8 ky5 _];show wpAny _ A.in1 (seqItems? (.ref S) >>= _) _ _ _;refine ay0 (sy9 (s:={ s with heap:=h,toks:=tk }) hSo rfl ?_);refine ay0 (wpAny_tryCatch ?_);refine Wk.item 0 { s with heap:=h,toks:=tk } _ _ (by rw [cy1]; exact h0l) ⟨hit,hl⟩ fun v h' tk' hv st' kp=>?_;have hv' : vs[0]? = some v:=by simpa using hv
 have hS':=kp S _ (wr hSI) hSo;have keep' : ∀ b o,h0.get? b = some o->h'.get? b = some o:=fun b o e=>kp b o (wr (n0I b o e)) (hkeep b o e);show wpAny _ A.in1 (pure v >>= _) _ _ _;refine ay0 (ay1 ?_);show wpAny _ A.in1 (updateSeq S (fun _=>#[v,v]) >>= _) _ _ _;refine ay0 (py3 (s:={ s with heap:=h',toks:=tk' }) hS' rfl ?_ (by show 0 <= by3; decide) (by show 2 <= by3 + 1; decide));obtain ⟨c',eS⟩ : ∃ c',(h'.update S (hy9 fun _=>#[v,v])).get? S = some { cls:=.type "list",data:=.seq #[v,v] c' }:=⟨_,get?_update_seq (n:=c) (c := "list") (xs:=#[]) hS' (fun _=>#[v,v])⟩
 have up : ∀ b o,b ≠ S->h'.get? b = some o->(h'.update S (hy9 fun _=>#[v,v])).get? b = some o:=fun b o hb e=>(dy5 _ _ (fy2 hb)).trans e;refine ay1 ⟨ky2 ky5 _,zb84 O hh hlI hSI hSl hI hS hc hR (vs.length - 1) 1 0 v _ tk' c' (by omega) (by omega) hv' (fun j' hj' hne=>absurd hj' (by omega)) ?_ ?_ eS fun b o e=>up b o (n0S b o e) (keep' b o e)⟩
 ·refine za0 fun gG=>?_;obtain ⟨o,e,r⟩:=st'.1;refine gG ?_;clear gG;exact ⟨o,up I o (fy2 hSI) e,r⟩
 ·refine za0 fun gG=>?_;obtain ⟨o,e,r⟩:=st'.2;refine gG ?_;clear gG;exact ⟨o,up l o (fy2 hSl) e,r⟩
theorem zO0 {Q : Value->Shared->Prop} {E : Value->Shared->Prop} (O : Ord vs.length lt) (hh : A.handled = none) (hl : s.heap.IsList l vs.toArray) (h0l : 0 < vs.length)
  (hc : ∀ (s' : Shared) i j vi vj (Q : Value->Shared->Prop) (E : Value->Shared->Prop),(∀ b o,s.heap.get? b = some o->s'.heap.get? b = some o)->vs[i]? = some vi->vs[j]? = some vj->i ≠ j->Q (.bool (lt i j)) s'->wpAny (model P w) A.in1 (richCompare .Lt vi vj) Q E s')
  (hQ : ∀ i v h' tk,vs[i]? = some v->(∀ j,j < vs.length->j ≠ i->lt i j = true)->(∀ b o,s.heap.get? b = some o->h'.get? b = some o)->Q v { s with heap:=h',toks:=tk }) : wpAny (model P w) A (call (.builtin "min") [.ref l]) Q E s:=by
 refine call_function_tree PySem.F.kind_min PySem.F.plain_min PySem.F.entry_min (PySem.F.args_min1 (cy9 l)) ?_;show wpAny _ _ (Builtin.Builtins.bindParams "min" ["key", "default"] 0 ⟨[],[]⟩ >>= _) _ _ s;refine ay0 (wpAny_of_eq (a:=[none,none]) rfl ?_);show wpAny _ _ (pure (cy9 l) >>= _) _ _ s;refine ay0 (ay1 (ay0 (wpAny_pyIter_list hl (ay0 (wpAny_newList ?_)))));have hll : l < s.heap.objs.size:=by obtain ⟨_,e,_⟩:=hl; exact by2 e
 have hnone : ∀ b,s.heap.objs.size <= b->s.heap.get? b = none:=fun b hb=>by
  cases e : s.heap.get? b with
  | none=>rfl
  | some o=>exact absurd (by2 e) (Nat.not_lt.mpr hb)
 have sz : ∀ o,(s.heap.push o).objs.size = s.heap.objs.size + 1:=fun o=>ny2 ..;refine ay1 ⟨ky2 ky5 _,?_⟩;refine za89 (s:=s) (h0:=s.heap) (l:=l) (I:=s.heap.objs.size) (S:=(s.heap.push { cls:=.type "list_iterator",data:=.fields #[.ref l,.int 0 0] }).objs.size) O hh (by8 hll) ?_ ?_ (hnone _ (ay6 _)) ?_ hc (fun i v h' tk h1 h2 h3=>?_) ((s.heap.push { cls:=.type "list_iterator",data:=.fields #[.ref l,.int 0 0] }).push { cls:=.type "list",data:=.seq #[] }) s.toks 0 h0l ?_ ?_ ?_ ?_
 ·rw [sz]; exact Nat.succ_ne_self _
 ·rw [sz]; exact my2 (ly1 hll)
 ·rw [sz]; exact hnone _ (uy2 _)
 ·exact hQ i v h' tk h1 h2 h3
 ·exact ⟨_,ay2 _ (ay7 _ rfl),rfl,rfl⟩
 ·refine za0 fun gG=>?_;obtain ⟨o,e,r⟩:=hl;refine gG ?_;clear gG;exact ⟨o,ay2 _ (ay2 _ e),r⟩
 ·exact ay7 _ rfl
 ·exact fun b o e=>ay2 _ (ay2 _ e)
end
section
variable {X : Cx}
theorem za90 (hcm : X.calm = true) (hu : X.A.units + 1 < cLine) : zj8 X (.builtin "min") fun xs H Q=>∃ (p : Addr) (vs : List V) (ps : List (List Str)) (m : Nat),xs = [.ref p] /\ SqL X.K H p vs /\ Paired (fun (p : List Str) v=>∃ b,v = .ref b /\ SqT X.K H b (p.map V.str)) ps vs /\ ps.Nodup /\ 0 < ps.length /\ (∀ k∈ps,k.length = m) /\
  ∀ (i : Nat) v,vs[i]? = some v->(∀ j,j < ps.length->j ≠ i->ltL (ps.getD i []) (ps.getD j []) = true)->Q v H:=by
 intro pins s σ H xs us Q I r h;refine za0 fun gG=>?_;obtain ⟨p,vs,ps,m,rfl,hq,hv,nd,hp0,hm,q⟩:=h;obtain ⟨u,rfl,rx⟩:=vals1 r;refine gG ?_;clear gG;cases rx;refine za0 fun gG=>?_;obtain ⟨its,r',pl,hz⟩:=I.list hq;refine gG ?_;clear gG;have hlen:=r'.length;have hpl : ps.length = vs.length:=zb2 hv;have gp : ∀ k (hk : k < ps.length),ps.getD k [] = ps[k]:=fun k hk=>by simp [ly8,hk]
 have tup : ∀ i v,its[i]? = some v->i < ps.length /\ ∃ b,v = .ref b /\ IsTL s.heap b (ps.getD i []):=fun i v hi=>by
  have hil : i < its.length:=(ay4.mp hi).1;have hip : i < ps.length:=by omega
  refine za0 fun gG=>?_;obtain ⟨x,hx,rx⟩:=ze8 r' hi;obtain ⟨v',hv',b,e1,hb⟩:=zh6 hv (by5 hip);refine gG ?_;clear gG;rw [hx] at hv';cases hv';subst e1;have rx' : v = cy9 b:=rx;refine ⟨hip,b,rx',?_⟩;refine za0 fun gG=>?_;obtain ⟨ws,rw',⟨o,g1,g2,n,g3⟩,_⟩:=I.tuple hb;refine gG ?_;clear gG;rw [gp i hip];exact ⟨o,n,ws,g1,g2,g3,rw'⟩
 have O:=za86 nd hm;rw [hpl,hlen] at O;have gl : ∀ k (hk : k < ps.length),(ps.getD k []).length = m:=fun k hk=>by rw [gp k hk]; exact hm _ (py9 hk)
 refine zO0 O (I.ok.hd hcm) pl.isList (by omega) (fun s' i j vi vj Q' E' kp hi hj hij hQ=>?_) fun i v h' tk hi hb kp=>?_
 ·refine za0 fun gG=>?_;obtain ⟨hip,b,rfl,o,n,ws,g1,g2,g3,rw1⟩:=tup i vi hi;obtain ⟨hjp,b',rfl,o',n',ws',g1',g2',g3',rw2⟩:=tup j vj hj;refine gG ?_;clear gG;refine thn (zb83 (s:=s') (A:=X.A.in1) (Q:=fun b s=>Q' (.bool b) s) ?_ (kp _ _ g1) g2 g3 (kp _ _ g1') g2' g3' rw1 rw2 ((gl i hip).trans (gl j hjp).symm) (fun z=>?_) hQ) fun v s2 hv=>?_
  ·exact hu
  ·rw [gp i hip,gp j hjp] at z;exact hij ((iy4 nd).mp z)
  ·cases v <;> first | exact hv | exact hv.elim
 ·refine za0 fun gG=>?_;obtain ⟨x,hx,rx⟩:=ze8 r' hi;refine gG ?_;clear gG;exact ⟨x,H,I.kept kp,rx,q i x hx fun j hj hne=>hb j (by omega) hne⟩
end
section
variable {X : Bc} {S : Sl} {W : Wl} {k : KB}
theorem zd12 {α : Type} {x : El} {L : List α} {m : Nat} (hcm : X.calm = true) (hu : X.A.units + 64 < cLine) (key : α->List Str) (g : α->PyData) (hg : ∀ a∈L,g a = .tuple ((key a).map .str)) (hx : zX5 W x (L.map g)) (nd : (L.map key).Nodup) (h0 : L ≠ []) (hm : ∀ a∈L,(key a).length = m)
  (h : ∀ a∈L,(∀ b∈L,key b ≠ key a->ltL (key a) (key b) = true)->k (.d (g a)) W) : CB X (.builtin "min") [x] W k:=.of (za90 hcm (by omega)) fun F A H Q vs r zs q=>by
 refine za0 fun gG=>?_;obtain ⟨v,rfl,z⟩:=zi3 zs;obtain ⟨a,vs,rfl,hs,z⟩:=r.lst z hx;refine gG ?_;clear gG;have hl : L.length = vs.length:=by have:=zb2 z; simpa using this
 refine ⟨a,vs,L.map key,m,rfl,.inl hs,?_,nd,?_,fun k hk=>?_,fun i v hv hb=>?_⟩
 ·refine za13 ?_;refine zs7 (zB0 z) fun x hx v hv=>?_;have hv : Rq X.K F v (g x):=hv;rw [hg x hx] at hv;refine za0 fun gG=>?_;obtain ⟨b,ws,rfl,hb,pw⟩:=Rq.zg7 hv;refine gG ?_;clear gG;obtain rfl:=zS1 pw;exact ⟨b,rfl,r.sub.zt3 hb⟩
 ·rw [ay3]; exact List.length_pos_iff.mpr h0
 ·refine za0 fun gG=>?_;obtain ⟨a,ha,rfl⟩:=cy3.mp hk;refine gG ?_;clear gG;exact hm a ha
 ·refine za0 fun gG=>?_;obtain ⟨d,hd,zd⟩:=ze8 z hv;rw [by1] at hd;obtain ⟨a',ha',rfl⟩:=fy7.mp hd;refine gG ?_;clear gG;have hil : i < L.length:=(ay4.mp ha').1;have e : ∀ k (hk : k < L.length),(L.map key).getD k [] = key L[k]:=fun k hk=>by simp [ly8,hk]
  refine q.same r (.dd zd) (h a' (cy8 ha') fun b hb' hne=>?_);refine za0 fun gG=>?_;obtain ⟨j,hj,rfl⟩:=vy5.mp hb';refine gG ?_;clear gG;have ea : L[i] = a':=(ay4.mp ha').2;have hji : j ≠ i:=fun z=>hne (by subst z; rw [ea]);have:=hb j (by rw [ay3]; exact hj) hji;rw [e i hil,e j hj,ea] at this;exact this
end
theorem za91 {P : cy7} {w : World} {es : List my6} {vs : List (Key × Value)} (h : Pairs (zc5 P w) es vs) : es.length = vs.length /\ ∀ (i : Nat) q,vs[i]? = some q->∃ en,es[i]? = some en /\ zJ6 q.1 en.key = true /\ en.val = q.2:=by
 induction h with
 | nil=>exact ⟨rfl,fun i q h=>by simp at h⟩
 | @cons e kv es kvs h1 h2 h3 ih =>
  refine ⟨by simp [ih.1],fun i q hq=>?_⟩;cases i with
  | zero=>simp at hq; subst hq; exact ⟨e,rfl,h1,h2⟩
  | succ i=>exact ih.2 i q (by simpa using hq)
theorem zc4 {P : cy7} {w : World} {H : Hp} {h : Heap} {d : Addr} {o : Obj} {vs : List (Key × V)} (x : zc1 P w H h d (.frz o (.dK vs))) : h.get? d = some o /\ (d == ky7) = false /\ ∃ es ep,o.ExactDict /\ o.data = .dict es ep /\ es.size = vs.length /\ ∀ (i : Nat) p,vs[i]? = some p->∃ en,es[i]? = some en /\ RelV (kV p.1) en.key /\ RelV p.2 en.val:=by
 refine za0 fun gG=>?_;obtain ⟨hg,_,hs,qs,kv,o',es,ep,h1,h2,h3,h4,h5,h6⟩:=x;refine gG ?_;clear gG;rw [hg] at h1;cases h1;obtain ⟨g1,g2⟩:=za91 h5
 have hl : es.size = vs.length:=by
  have:=kv.length;rw [<- jy2,g1];exact this.symm
 refine ⟨hg,hs,es,ep,h2,h3,hl,fun i p hp=>?_⟩;refine za0 fun gG=>?_;obtain ⟨q,hq,e1,e2⟩:=zh6 kv hp;obtain ⟨en,a1,a2,a3⟩:=g2 i q hq;refine gG ?_;clear gG;refine ⟨en,by rw [<- ly0]; exact a1,?_,by rw [a3]; exact e2⟩;rw [e1];rcases zd5 a2 with ⟨j,t,hj,hk⟩ | ⟨y,t,hy,hk⟩
 ·rw [hj,hk]; exact ⟨t,rfl⟩
 ·rw [hy,hk]; exact ⟨t,rfl⟩
section
variable {X : Cx} {tg : Expr}
theorem Inv.frzK {pins : List (Addr × Obj)} {σ : St} {H : Hp} {s : Shared} {d : Addr} {kvs : List (Key × V)} (I : Inv X pins σ H s) (e : H d = some (.dK kvs)) : ∃ o,Inv X pins σ (upd H d (.frz o (.dK kvs))) s:=by
 refine za0 fun gG=>?_;obtain ⟨z,hs,vs,kv,o,es,ep,h1,h2⟩:=I.hok d _ e;refine gG ?_;clear gG;refine ⟨o,?_⟩
 have ht : ∀ b ys,H b = some (.tup ys)->upd H d (.frz o (.dK kvs)) b = some (.tup ys):=fun b ys hb=>by
  rw [za8 (zJ8 hb e (by simp))]; exact hb
 refine I.write (x:=d) (e:=d) (h':=s.heap) (t':=s.toks) (o:=.frz o (.dK kvs)) (by rw [e]; trivial) (.inl rfl) (fun _ _ _ q=>q) ⟨o,h1⟩ ⟨h1,?_⟩;exact zc1.zS7 (I.hok d _ e) (fun _ _ _ q=>q) (fun b hb=>by rw [za8 (zJ8 hb e (by simp))]; exact hb) ht
theorem zd13 {e : Expr} {t : TE} (h : PE X e t) : PE X e fun σ H Q=>∃ d kvs,H d = some (.dK kvs) /\ ∀ o,t σ (upd H d (.frz o (.dK kvs))) fun v H'=>∃ kvs',H' d = some (.frz o (.dK kvs')) /\ Q v (upd H' d (.dK kvs')):=by
 intro pins s σ H Q I ⟨d,kvs,hd,q⟩;obtain ⟨o,I1⟩:=I.frzK hd
 have h0 : ∀ o' u',X.H₀ d ≠ some (.frz o' u'):=fun o' u' z=>by
  have:=I.base.frzs d o' u' z;rw [hd] at this;cases this
 refine thn (h pins s σ _ _ I1 (q o)) fun v s1 zR=>?_;refine za0 fun gG=>?_;obtain ⟨y,H1,I2,r,kvs',e1,q1⟩:=zR;refine gG ?_;clear gG;exact ⟨y,_,I2.zV7 e1 h0,r,q1⟩
theorem zd14 {st : Stmt} {t : TS} (h : PS X st t) : PS X st fun E σ H=>∃ d kvs,H d = some (.dK kvs) /\ ∀ o,t ⟨fun σ' H'=>∃ kvs',H' d = some (.frz o (.dK kvs')) /\ E.nx σ' (upd H' d (.dK kvs')),fun v H'=>∃ kvs',H' d = some (.frz o (.dK kvs')) /\ E.rt v (upd H' d (.dK kvs')),fun σ' H'=>∃ kvs',H' d = some (.frz o (.dK kvs')) /\ E.bk σ' (upd H' d (.dK kvs')),fun σ' H'=>∃ kvs',H' d = some (.frz o (.dK kvs')) /\ E.ct σ' (upd H' d (.dK kvs'))⟩ σ (upd H d (.frz o (.dK kvs))):=by
 intro pins s σ H E I ⟨d,kvs,hd,q⟩;obtain ⟨o,I1⟩:=I.frzK hd
 have h0 : ∀ o' u',X.H₀ d ≠ some (.frz o' u'):=fun o' u' z=>by
  have:=I.base.frzs d o' u' z;rw [hd] at this;cases this
 refine thn (h pins s σ _ _ I1 (q o)) fun f s1 hf=>?_;cases f with
 | next=>obtain ⟨σ',H',I2,kvs',e1,q1⟩:=hf; exact ⟨σ',_,I2.zV7 e1 h0,q1⟩
 | brk=>obtain ⟨σ',H',I2,kvs',e1,q1⟩:=hf; exact ⟨σ',_,I2.zV7 e1 h0,q1⟩
 | cont=>obtain ⟨σ',H',I2,kvs',e1,q1⟩:=hf; exact ⟨σ',_,I2.zV7 e1 h0,q1⟩
 | ret u=>obtain ⟨v,σ',H',I2,r,kvs',e1,q1⟩:=hf; exact ⟨v,σ',_,I2.zV7 e1 h0,r,q1⟩
end
section
variable {X : Bc} {n : Nat} {S : Sl} {W : Wl} {k : KB} {D : DB}
theorem za92 {e : Expr} {j : Nat} {kvs : List (Key × El)} (hj : W[j]? = some (.dK kvs)) (h : ∀ o,BE X S (W.set j (.fK o kvs)) e fun y W1=>W1[j]? = some (.fK o kvs) /\ k y (W1.set j (.dK kvs))) : BE X S W e k :=
 .of (zd13 zi1) fun F A σ H Q x0 r sr q=>by
  have hlW : j < W.length:=(ay4.mp hj).1;have hlA : j < A.length:=by rw [r.len]; exact hlW
  have hjA : A[j]? = some A[j]:=by simp [hlA]
  refine za0 fun gG=>?_;obtain ⟨ho,eH,vs,rfl,p⟩:=r.obj j _ _ hjA hj;refine gG ?_;clear gG;refine ⟨A[j],vs,eH,fun o=>?_⟩;have r2 : RW X.K F A (W.set j (.fK o kvs)) (upd H A[j] (.frz o (.dK vs))):=r.put hjA ⟨vs,rfl,p⟩;refine (h o).use x0 r2 sr fun F2 A2 W2 H2 y v x2 r3 z3 zR=>?_;refine za0 fun gG=>?_;obtain ⟨hw,hk⟩:=zR;have hjA2 : A2[j]? = some A[j]:=zv4 x2.pre hjA;obtain ⟨h',e',vs',rfl,p'⟩:=r3.obj j _ _ hjA2 hw;refine gG ?_;clear gG;exact ⟨vs',e',q F2 A2 _ _ y v x2 (r3.put (o:=.dK kvs) hjA2 ⟨vs',rfl,p'⟩) z3 hk⟩
theorem za93 {st : Stmt} {j mb : Nat} {kvs : List (Key × El)} (hj : W[j]? = some (.dK kvs)) (hnm : n <= mb) (hn' : j < mb) (hmW : mb <= W.length) (h : ∀ o,BS X mb S (W.set j (.fK o kvs)) st ⟨fun S1 W1=>W1[j]? = some (.fK o kvs) /\ D.nx S1 (W1.set j (.dK kvs)),fun y W1=>W1[j]? = some (.fK o kvs) /\ D.rt y (W1.set j (.dK kvs)),fun S1 W1=>W1[j]? = some (.fK o kvs) /\ D.bk S1 (W1.set j (.dK kvs)),fun S1 W1=>W1[j]? = some (.fK o kvs) /\ D.ct S1 (W1.set j (.dK kvs))⟩) : BS X n S W st D :=
 .of (zd14 ps_U) fun F A σ H E hn x0 r sr q=>by
  have hlW : j < W.length:=(ay4.mp hj).1;have hlA : j < A.length:=by rw [r.len]; exact hlW
  have hmA : mb <= A.length:=by rw [r.len]; exact hmW
  have hjA : A[j]? = some A[j]:=by simp [hlA]
  refine za0 fun gG=>?_;obtain ⟨ho,eH,vs,rfl,p⟩:=r.obj j _ _ hjA hj;refine gG ?_;clear gG;refine ⟨A[j],vs,eH,fun o=>?_⟩;have r2 : RW X.K F A (W.set j (.fK o kvs)) (upd H A[j] (.frz o (.dK vs))):=r.put hjA ⟨vs,rfl,p⟩
  have at_ : ∀ {F2 A2},Ex1 mb F A F2 A2->A2[j]? = some A[j]:=fun {F2 A2} x=>by
   have e:=zm8 x.pre hmA;have:=congrArg (fun l=>l[j]?) e;simp only [gy2 hn'] at this;rw [this]; exact hjA
  have back : ∀ {F2 A2 W2 H2},Ex1 mb F A F2 A2->RW X.K F2 A2 W2 H2->W2[j]? = some (.fK o kvs)->∃ vs',H2 A[j] = some (.frz o (.dK vs')) /\ RW X.K F2 A2 (W2.set j (.dK kvs)) (upd H2 A[j] (.dK vs')):=fun {F2 A2 W2 H2} x r3 hw=>by
   refine za0 fun gG=>?_;obtain ⟨h',e',vs',rfl,p'⟩:=r3.obj j _ _ (at_ x) hw;refine gG ?_;clear gG;exact ⟨vs',e',r3.put (o:=.dK kvs) (at_ x) ⟨vs',rfl,p'⟩⟩
  refine (h o).use hmA (x0.up hnm) r2 sr ⟨fun F2 A2 W2 H2 S2 σ2 x r3 sr3 ⟨hw,hk⟩=>?_,fun F2 A2 W2 H2 S2 σ2 x r3 sr3 ⟨hw,hk⟩=>?_,fun F2 A2 W2 H2 S2 σ2 x r3 sr3 ⟨hw,hk⟩=>?_,fun F2 A2 W2 H2 e v x r3 z3 ⟨hw,hk⟩=>?_⟩
  ·refine za0 fun gG=>?_;obtain ⟨vs',e',r4⟩:=back x r3 hw;refine gG ?_;clear gG;exact ⟨vs',e',q.nx _ _ _ _ _ _ (x.le hnm) r4 sr3 hk⟩
  ·refine za0 fun gG=>?_;obtain ⟨vs',e',r4⟩:=back x r3 hw;refine gG ?_;clear gG;exact ⟨vs',e',q.bk _ _ _ _ _ _ (x.le hnm) r4 sr3 hk⟩
  ·refine za0 fun gG=>?_;obtain ⟨vs',e',r4⟩:=back x r3 hw;refine gG ?_;clear gG;exact ⟨vs',e',q.ct _ _ _ _ _ _ (x.le hnm) r4 sr3 hk⟩
  ·refine za0 fun gG=>?_;obtain ⟨vs',e',r4⟩:=back x r3 hw;refine gG ?_;clear gG;exact ⟨vs',e',q.rt _ _ _ _ _ _ (x.le hnm) r4 z3 hk⟩
end
def ItKK (d : Addr) (o : Obj) : It:=⟨fun i H=>∃ vs,H d = some (.frz o (.dK vs)) /\ i < vs.length,fun i H x H'=>H' = H /\ ∀ vs,H d = some (.frz o (.dK vs))->∃ p,vs[i]? = some p /\ x = kV p.1,fun i H=>∃ vs,H d = some (.frz o (.dK vs)) /\ vs.length <= i⟩
def ItVK (d : Addr) (o : Obj) : It:=⟨fun i H=>∃ vs,H d = some (.frz o (.dK vs)) /\ i < vs.length,fun i H x H'=>H' = H /\ ∀ vs,H d = some (.frz o (.dK vs))->∃ p,vs[i]? = some p /\ x = p.2,fun i H=>∃ vs,H d = some (.frz o (.dK vs)) /\ vs.length <= i⟩
theorem zX0 {P : cy7} {w : World} {K : ay5} {tg : Expr} {d : Addr} {o : Obj} {es : Array my6} {ep : Nat} (it : Addr) (hd : o.data = .dict es ep) :
  Turn P w K tg (ItKK d o) [it] it (fun i h=>h.IsKeyIter it d i es.size ep) where
 mem:=by simp
 obj:=fun i h st b hb=>by
  have e : b = it:=by simpa using hb
  subst e;refine za0 fun gG=>?_;obtain ⟨o,e,c,d⟩:=st;refine gG ?_;clear gG;exact ⟨o,e,fun v z=>by rw [d] at z; cases z⟩
 keep:=fun i h h' st k=>by
  refine za0 fun gG=>?_;obtain ⟨o,e,r⟩:=st;refine gG ?_;clear gG;exact ⟨o,k it (by simp) o e,r⟩
 item:=by
  intro X hP hw hK hcm i pins s σ H E I hf st hg;subst hP hw hK;refine za0 fun gG=>?_;obtain ⟨f0,f1,f2,f3,f4,f5⟩:=hf it (by simp);obtain ⟨vs,hu,hi⟩:=hg;obtain ⟨hget,hs,es',ep',g1,g2,g3,g4⟩:=zc4 (show zc1 X.prog X.w H s.heap d (.frz o (.dK vs)) from I.hok d _ hu);refine gG ?_;clear gG;rw [hd] at g2;cases g2;refine za0 fun gG=>?_;obtain ⟨en,hen,rk,rv⟩:=g4 i vs[i] (by5 hi);refine gG ?_;clear gG;refine zQ3 st ⟨o,hget,g1,hd⟩ hen fun h' hit' hs'=>?_;have I1 : Inv X pins σ H { s with heap:=h' }:=I.turned (t':=s.toks) (fun b o hb e=>hs'.extBut b o hb e) f0 f1 f3 f4 f5;refine za0 fun gG=>?_;obtain ⟨o',e,c,dd⟩:=id hit';refine gG ?_;clear gG
  exact ⟨_,rfl,zJ9 (s:={ s with heap:=h' }) e c dd (by decide) ⟨kV vs[i].1,H,I1,rk,⟨rfl,fun vs' hv'=>by
   rw [hu] at hv';cases hv'
   exact ⟨_,by5 hi,rfl⟩⟩,hit',fun b hb=>(hf b hb).1⟩⟩
 done:=by
  intro X hP hw hK hcm i pins s σ H E I hf st hg;subst hP hw hK;refine za0 fun gG=>?_;obtain ⟨f0,f1,f2,f3,f4,f5⟩:=hf it (by simp);obtain ⟨vs,hu,hi⟩:=hg;obtain ⟨hget,hs,es',ep',g1,g2,g3,g4⟩:=zc4 (show zc1 X.prog X.w H s.heap d (.frz o (.dK vs)) from I.hok d _ hu);refine gG ?_;clear gG;rw [hd] at g2;cases g2;exact za48 (I.ok.hd hcm) st ⟨o,hget,g1,hd⟩ (by omega) fun h' eb=>⟨rfl,I.turned (t':=s.toks) (fun b o hb e=>eb b o hb e) f0 f1 f3 f4 f5⟩
 self:=fun _ _ _ _ _ st h=>wpAny_pyIter_keyiter st h
theorem zX1 {P : cy7} {w : World} {K : ay5} {tg : Expr} {d : Addr} {o : Obj} {es : Array my6} {ep : Nat} (it : Addr) (hd : o.data = .dict es ep) :
  Turn P w K tg (ItVK d o) [it] it (fun i h=>h.IsValIter it d i es.size ep) where
 mem:=by simp
 obj:=fun i h st b hb=>by
  have e : b = it:=by simpa using hb
  subst e;refine za0 fun gG=>?_;obtain ⟨o,e,c,d⟩:=st;refine gG ?_;clear gG;exact ⟨o,e,fun v z=>by rw [d] at z; cases z⟩
 keep:=fun i h h' st k=>by
  refine za0 fun gG=>?_;obtain ⟨o,e,r⟩:=st;refine gG ?_;clear gG;exact ⟨o,k it (by simp) o e,r⟩
 item:=by
  intro X hP hw hK hcm i pins s σ H E I hf st hg;subst hP hw hK;refine za0 fun gG=>?_;obtain ⟨f0,f1,f2,f3,f4,f5⟩:=hf it (by simp);obtain ⟨vs,hu,hi⟩:=hg;obtain ⟨hget,hs,es',ep',g1,g2,g3,g4⟩:=zc4 (show zc1 X.prog X.w H s.heap d (.frz o (.dK vs)) from I.hok d _ hu);refine gG ?_;clear gG;rw [hd] at g2;cases g2;refine za0 fun gG=>?_;obtain ⟨en,hen,rk,rv⟩:=g4 i vs[i] (by5 hi);refine gG ?_;clear gG;refine zD1 st ⟨o,hget,g1,hd⟩ hen fun h' hit' hs'=>?_;have I1 : Inv X pins σ H { s with heap:=h' }:=I.turned (t':=s.toks) (fun b o hb e=>hs'.extBut b o hb e) f0 f1 f3 f4 f5;refine za0 fun gG=>?_;obtain ⟨o',e,c,dd⟩:=id hit';refine gG ?_;clear gG
  exact ⟨_,rfl,zJ9 (s:={ s with heap:=h' }) e c dd (by decide) ⟨vs[i].2,H,I1,rv,⟨rfl,fun vs' hv'=>by
   rw [hu] at hv';cases hv'
   exact ⟨_,by5 hi,rfl⟩⟩,hit',fun b hb=>(hf b hb).1⟩⟩
 done:=by
  intro X hP hw hK hcm i pins s σ H E I hf st hg;subst hP hw hK;refine za0 fun gG=>?_;obtain ⟨f0,f1,f2,f3,f4,f5⟩:=hf it (by simp);obtain ⟨vs,hu,hi⟩:=hg;obtain ⟨hget,hs,es',ep',g1,g2,g3,g4⟩:=zc4 (show zc1 X.prog X.w H s.heap d (.frz o (.dK vs)) from I.hok d _ hu);refine gG ?_;clear gG;rw [hd] at g2;cases g2;exact zM4 (I.ok.hd hcm) st ⟨o,hget,g1,hd⟩ (by omega) fun h' eb=>⟨rfl,I.turned (t':=s.toks) (fun b o hb e=>eb b o hb e) f0 f1 f3 f4 f5⟩
 self:=fun _ _ _ _ _ st h=>wpAny_pyIter_valiter st h
section
variable {X : Cx} {tg : Expr}
theorem zb85 {l : Expr} {tl : TE} (hl : PE X l tl) : PI X tg l (fun σ H R=>tl σ H fun v H1=>∃ d o vs,v = .ref d /\ H1 d = some (.frz o (.dK vs)) /\ R (ItKK d o) H1):=by
 intro pins s σ H R I h;refine thn (hl pins s σ H _ I h) fun v s1 zR=>?_;refine za0 fun gG=>?_;obtain ⟨y,H1,I1,r1,d,o,vs,hy,hd,q⟩:=zR;subst hy;refine gG ?_;clear gG;cases r1;refine za0 fun gG=>?_;obtain ⟨hget,hs,es,ep,g1,g2,_⟩:=zc4 (show zc1 X.prog X.w H1 s1.heap d (.frz o (.dK vs)) from I1.hok d _ hd);refine gG ?_;clear gG;refine zQ4 hs ⟨o,hget,g1,g2⟩ ?_;refine ⟨s1.heap.objs.size,[s1.heap.objs.size],_,_,H1,rfl,I1.kept (t':=s1.toks) fun b o e=>ay2 _ e,zX0 _ g2,⟨_,ay7 _ rfl,rfl,rfl⟩,fun b hb=>?_,q⟩;have e : b = s1.heap.objs.size:=by simpa using hb
 subst e;exact I1.zY7 (ay6 _) (I1.hok.fresh (ay6 _))
theorem zS2 {o : Expr} {to : TE} {apos cpos : Pos} (ho : PE X o to) (hbase : oy4 o "values" X.env (eval o X.env) = eval o X.env:=by rfl) (hline : (apos.endLine == cpos.line) = true:=by rfl) :
  PE X (.Call (.Attribute o "values" apos) [] [] cpos) (fun σ H Q=>to σ H fun x H1=>∃ d ob vs,x = .ref d /\ H1 d = some (.frz ob (.dK vs)) /\ ∀ v,H1 v = none->Q (.ref v) (upd H1 v (zj4 v d))):=by
 intro pins s σ H Q I h;refine wpAny_Call_method0_late hbase hline (thn (ho pins s σ H _ I h) fun v s1 ⟨x,H1,I1,r1,d,ob,vs,hx,hd,q⟩=>?_);subst hx;cases r1;refine za0 fun gG=>?_;obtain ⟨hget,hs,es,ep,g1,g2,_⟩:=zc4 (show zc1 X.prog X.w H1 s1.heap d (.frz ob (.dK vs)) from I1.hok d _ hd);refine gG ?_;clear gG;have ty : s1.TypeIs (.ref d) "dict" := ⟨ob,hget,g1.1⟩
 refine ⟨"dict", "dict.values",iy3,sy2,PySem.F.type_dict_values,ty,fun a e=>by cases e; exact ⟨ob,hget,g1.2.1⟩,ty3 rfl (PySem.evalArgs_none ?_)⟩;refine dy4 sy2 ty PySem.F.entry_dict_values ?_ (PySem.F.args_dict_values_1 _);refine ay0 ?_;unfold Builtin.Dict.noArgs;refine ay0 (qy3 ty ?_);show wpAny _ _ (pure d) _ _ s1;refine ay1 ?_;show wpAny _ _ (jy7 d >>= _) _ _ s1;unfold Builtin.Dict.showsAll;rw [if_neg (by rw [hs]; exact by9)];refine ay0 (ay1 (ay0 (ey5 (ay1 ⟨_,rfl,?_⟩))));refine ⟨.ref s1.heap.objs.size,_,I1.laid (t':=s1.toks) (o:=zj4 s1.heap.objs.size d) (fun b u q=>ay2 _ q) (ay6 _) ?_,rfl,q _ (I1.hok.fresh (ay6 _))⟩;exact ⟨⟨_,ay7 _ rfl,rfl,rfl⟩,⟨_,ay7 _ rfl⟩,fun h1 h2 ⟨o,a,b,c⟩ k=>⟨o,k o a,b,c⟩⟩
theorem zb86 {l : Expr} {tl : TE} (hl : PE X l tl) : PI X tg l (fun σ H R=>tl σ H fun v H1=>∃ vw d o vs,v = .ref vw /\ H1 vw = some (zj4 vw d) /\ H1 d = some (.frz o (.dK vs)) /\ R (ItVK d o) H1):=by
 intro pins s σ H R I h;refine thn (hl pins s σ H _ I h) fun v s1 zR=>?_;refine za0 fun gG=>?_;obtain ⟨y,H1,I1,r1,vw,d,o,vs,hy,hv,hd,q⟩:=zR;subst hy;refine gG ?_;clear gG;cases r1;refine za0 fun gG=>?_;obtain ⟨hvw,_,_⟩:=(show zc1 X.prog X.w H1 s1.heap vw (zj4 vw d) from I1.hok vw _ hv)
 obtain ⟨hget,hs,es,ep,g1,g2,_⟩:=zc4 (show zc1 X.prog X.w H1 s1.heap d (.frz o (.dK vs)) from I1.hok d _ hd);refine gG ?_;clear gG;refine zD2 hvw ⟨o,hget,g1,g2⟩ ?_;refine ⟨s1.heap.objs.size,[s1.heap.objs.size],_,_,H1,rfl,I1.kept (t':=s1.toks) fun b o e=>ay2 _ e,zX1 _ g2,⟨_,ay7 _ rfl,rfl,rfl⟩,fun b hb=>?_,q⟩;have e : b = s1.heap.objs.size:=by simpa using hb
 subst e;exact I1.zY7 (ay6 _) (I1.hok.fresh (ay6 _))
end
section
variable {X : Bc} {S : Sl} {W : Wl} {k : KB}
theorem zf27 {tg iter : Expr} {ki : Nat->(Wl->Prop)->List PyData->Wl->Prop} (h : BE X S W iter fun y W1=>∃ (j : Nat) (o : Obj) (L : List (Str × El)),y = .o j /\ W1[j]? = some (.fK o (L.map fun p=>(.inr p.1,p.2))) /\ ki (j + 1) (fun W'=>W'[j]? = some (.fK o (L.map fun p=>(.inr p.1,p.2)))) (L.map fun p=>.str p.1) W1) : BI X S W tg iter ki:=fun F A σ H R x0 r sr q =>
 ⟨_,zb85 zi1,h.use x0 r sr fun F1 A1 W1 H1 y vy e1 r1 z1 zR=>by
  refine za0 fun gG=>?_;obtain ⟨j,o,L,hy,hj,h1⟩:=zR;subst hy;obtain ⟨a,ha,rfl⟩:=z1;have hja : j < A1.length:=(ay4.mp ha).1
  have ha' : ∀ {F' A'},Ex1 (j + 1) F1 A1 F' A'->A'[j]? = some a:=fun {F' A'} x=>by
   have e:=zm8 x.pre (by omega);have:=congrArg (fun l=>l[j]?) e;simp only [gy2 (ky6 j)] at this;rw [this]; exact ha
  obtain ⟨u0,e0,vs0,rfl,p0⟩:=r1.obj j a _ ha hj;refine gG ?_;clear gG
  have key : ∀ {F' A' W' H'},Ex1 (j + 1) F1 A1 F' A'->RW X.K F' A' W' H'->W'[j]? = some (.fK o (L.map fun p=>(.inr p.1,p.2)))->∃ vs,H' a = some (.frz o (.dK vs)) /\ Paired (fun p q=>p.1 = q.1 /\ ElR X.K F' A' p.2 q.2) (L.map fun p=>(.inr p.1,p.2)) vs:=fun x r' hG=>by
   refine za0 fun gG=>?_;obtain ⟨u,e,vs,rfl,p⟩:=r'.obj j a _ (ha' x) hG;refine gG ?_;clear gG;exact ⟨vs,e,p⟩
  refine ⟨a,o,vs0,rfl,e0,q (j + 1) _ F1 A1 W1 _ _ _ e1 r1 hja ⟨fun i F' A' W' H' hi x r' hG=>?_,fun i F' A' W' H' y H'' hi x r' hG hy=>?_,fun F' A' W' H' x r' hG=>?_⟩ h1⟩
  ·refine za0 fun gG=>?_;obtain ⟨vs,e,p⟩:=key x r' hG;refine gG ?_;clear gG;refine ⟨vs,e,?_⟩;have:=zb2 p;rw [ay3] at this hi;omega
  ·refine za0 fun gG=>?_;obtain ⟨vs,e,p⟩:=key x r' hG;obtain ⟨e',hy⟩:=hy;obtain ⟨pp,hp,rfl⟩:=hy vs e;obtain ⟨b,hb,zb⟩:=ze8 p hp;rw [by1] at hb;obtain ⟨l,hl,rfl⟩:=fy7.mp hb;refine gG ?_;clear gG;refine ⟨e',.str l.1,by rw [by1,hl]; rfl,?_⟩;rw [<- zb.1];exact Rq.str l.1
  ·refine za0 fun gG=>?_;obtain ⟨vs,e,p⟩:=key x r' hG;refine gG ?_;clear gG;refine ⟨vs,e,?_⟩;have:=zb2 p;rw [ay3] at this ⊢
   omega⟩
theorem zb87 {tg o : Expr} {apos cpos : Pos} {ki : Nat->(Wl->Prop)->List El->Wl->Prop} (h : BE X S W o fun y W1=>∃ (j : Nat) (ob : Obj) (L : List (Key × El)),y = .o j /\ W1[j]? = some (.fK ob L) /\ ki (j + 1) (fun W'=>W'[j]? = some (.fK ob L)) (L.map (·.2)) W1)
  (hbase : oy4 o "values" X.env (eval o X.env) = eval o X.env:=by rfl) (hline : (apos.endLine == cpos.line) = true:=by rfl) : BIE X S W tg (.Call (.Attribute o "values" apos) [] [] cpos) ki:=fun F A σ H R x0 r sr q =>
 ⟨_,zb86 (zS2 zi1 hbase hline),h.use x0 r sr fun F1 A1 W1 H1 y vy e1 r1 z1 zR=>by
  refine za0 fun gG=>?_;obtain ⟨j,ob,L,hy,hj,h1⟩:=zR;subst hy;obtain ⟨a,ha,rfl⟩:=z1;have hja : j < A1.length:=(ay4.mp ha).1
  have ha' : ∀ {F' A'},Ex1 (j + 1) F1 A1 F' A'->A'[j]? = some a:=fun {F' A'} x=>by
   have e:=zm8 x.pre (by omega);have:=congrArg (fun l=>l[j]?) e;simp only [gy2 (ky6 j)] at this;rw [this]; exact ha
  obtain ⟨u0,e0,vs0,rfl,p0⟩:=r1.obj j a _ ha hj;refine gG ?_;clear gG;refine ⟨a,ob,vs0,rfl,e0,fun v hv=>⟨v,a,ob,vs0,rfl,zb5,by rw [za8 (za5 e0 hv)]; exact e0,?_⟩⟩;have r2 : RW X.K F1 A1 W1 (upd H1 v (zj4 v a)):=r1.grown (zj9 hv)
  have key : ∀ {F' A' W' H'},Ex1 (j + 1) F1 A1 F' A'->RW X.K F' A' W' H'->W'[j]? = some (.fK ob L)->∃ vs,H' a = some (.frz ob (.dK vs)) /\ Paired (fun p q=>p.1 = q.1 /\ ElR X.K F' A' p.2 q.2) L vs:=fun x r' hG=>by
   refine za0 fun gG=>?_;obtain ⟨u,e,vs,rfl,p⟩:=r'.obj j a _ (ha' x) hG;refine gG ?_;clear gG;exact ⟨vs,e,p⟩
  refine q (j + 1) _ F1 A1 W1 _ _ _ e1 r2 hja ⟨fun i F' A' W' H' hi x r' hG=>?_,fun i F' A' W' H' y H'' hi x r' hG hy=>?_,fun F' A' W' H' x r' hG=>?_⟩ h1
  ·refine za0 fun gG=>?_;obtain ⟨vs,e,p⟩:=key x r' hG;refine gG ?_;clear gG;refine ⟨vs,e,?_⟩;have:=zb2 p;rw [ay3] at hi;omega
  ·refine za0 fun gG=>?_;obtain ⟨vs,e,p⟩:=key x r' hG;obtain ⟨e',hy⟩:=hy;obtain ⟨pp,hp,rfl⟩:=hy vs e;obtain ⟨b,hb,zb⟩:=ze8 p hp;refine gG ?_;clear gG;exact ⟨e',b.2,by rw [by1,hb]; rfl,zb.2⟩
  ·refine za0 fun gG=>?_;obtain ⟨vs,e,p⟩:=key x r' hG;refine gG ?_;clear gG;refine ⟨vs,e,?_⟩;have:=zb2 p;rw [ay3]
   omega⟩
end
section
variable {P : cy7} {w : World} {A : Around} {s : Shared} {I d : Addr} {es : Array my6} {ep : Nat} {h0 : Heap} {bs : List Bool} {R : Result->Shared->Prop}
theorem zb88 (hh : A.handled = none) (hI : h0.get? I = none) (hd : zI2 h0 d es ep) (hb : bs.length = es.size)
  (hc : ∀ (h' : Heap) (tk i : Nat) (en : my6) (b : Bool) (Q : Bool->Shared->Prop) (E : Value->Shared->Prop),(∀ b o,h0.get? b = some o->h'.get? b = some o)->es[i]? = some en->bs[i]? = some b->(∀ tk',Q b { s with heap:=h',toks:=tk' })->wpAny (model P w) A.in1 (truthy en.val) Q E { s with heap:=h',toks:=tk })
  (hR : ∀ (h' : Heap) (tk : Nat),(∀ b o,h0.get? b = some o->h'.get? b = some o)->R (.ok (.ret (.bool (bs.any id)))) { s with heap:=h',toks:=tk }) :
  ∀ (k i : Nat) (h : Heap) (tk : Nat),i + k = es.size->(bs.take i).any id = false->h.IsValIter I d i es.size ep->(∀ b o,h0.get? b = some o->h.get? b = some o) ->
   ly4 (model P w) A (.builtin "any.loop" ⟨[.ref I],[]⟩) R { s with heap:=h,toks:=tk }:=by
 have n0I : ∀ b o,h0.get? b = some o->b ≠ I:=fun b o e z=>by rw [z,hI] at e; cases e
 intro k
 induction k with
 | zero =>
  intro i h tk hk hb0 hit hkeep;refine iy0 PySem.F.entry_any_loop ?_;rw [fy8 ty4 _];unfold Builtin.«any.loop»;refine ay0 (zM4 (s:={ s with heap:=h,toks:=tk }) (A:=A.in1) hh hit (hd.move (hkeep d)) (by omega) fun h' he=>?_);refine ay0 (oy6 (ay1 ?_));have e : bs.any id = false:=by rw [<- hb0,my8 (by omega)]
  have:=hR h' tk fun b o z=>he b o (n0I b o z) (hkeep b o z);rw [e] at this;exact this
 | succ k ih =>
  intro i h tk hk hb0 hit hkeep;have hlt : i < es.size:=by omega
  refine iy0 PySem.F.entry_any_loop ?_;rw [fy8 ty4 _];unfold Builtin.«any.loop»;refine ay0 (zD1 (s:={ s with heap:=h,toks:=tk }) (A:=A.in1) hit (hd.move (hkeep d)) (qy9 hlt) fun h' hit' sb=>?_);have keep' : ∀ b o,h0.get? b = some o->h'.get? b = some o:=fun b o e=>sb.extBut b o (n0I b o e) (hkeep b o e);have hbi : bs[i]? = some bs[i]:=by5 (by omega);refine ay0 (fy1 (hc h' tk i _ bs[i] _ _ keep' (qy9 hlt) hbi fun tk'=>?_));refine ay0 (wpAny_letGo ?_);cases e : bs[i] with
  | true =>
   rw [if_pos rfl];refine ay0 (oy6 (ay1 ?_));have e' : bs.any id = true:=wy2.mpr ⟨bs[i],py9 _,e⟩;have:=hR h' tk' keep';rw [e'] at this;exact this
  | false =>
   rw [if_neg (by simp)];refine ay1 ⟨ky2 ty4 _,ih (i + 1) h' tk' (by omega) ?_ hit' keep'⟩;rw [fy5,hbi,List.any_append,hb0,e];rfl
theorem zE0 {v : Addr} {Q : Value->Shared->Prop} {E : Value->Shared->Prop} (hh : A.handled = none) (hv : s.heap.IsValuesView v d) (hd : zI2 s.heap d es ep) (hb : bs.length = es.size)
  (hc : ∀ (h' : Heap) (tk i : Nat) (en : my6) (b : Bool) (Q : Bool->Shared->Prop) (E : Value->Shared->Prop),(∀ b o,s.heap.get? b = some o->h'.get? b = some o)->es[i]? = some en->bs[i]? = some b->(∀ tk',Q b { s with heap:=h',toks:=tk' })->wpAny (model P w) A.in1 (truthy en.val) Q E { s with heap:=h',toks:=tk })
  (hQ : ∀ (h' : Heap) (tk : Nat),(∀ b o,s.heap.get? b = some o->h'.get? b = some o)->Q (.bool (bs.any id)) { s with heap:=h',toks:=tk }) : wpAny (model P w) A (call (.builtin "any") [.ref v]) Q E s:=by
 refine call_function_tree PySem.F.kind_any PySem.F.plain_any PySem.F.entry_any (PySem.F.args_any1 (cy9 v)) ?_;show wpAny _ _ (pure (cy9 v) >>= _) _ _ s;refine ay0 (ay1 (ay0 (zD2 hv hd ?_)))
 have hnone : ∀ b,s.heap.objs.size <= b->s.heap.get? b = none:=fun b hb=>by
  cases e : s.heap.get? b with
  | none=>rfl
  | some o=>exact absurd (by2 e) (Nat.not_lt.mpr hb)
 refine ay1 ⟨ky2 ty4 _,?_⟩;exact zb88 (s:=s) (h0:=s.heap) hh (hnone _ (ay6 _)) hd hb hc (fun h' tk hk=>hQ h' tk hk) es.size 0 _ s.toks (by omega) rfl ⟨_,ay7 _ rfl,rfl,rfl⟩ fun b o e=>ay2 _ e
end
section
variable {X : Cx}
theorem za94 (hcm : X.calm = true) : zj8 X (.builtin "any") fun xs H Q=>∃ (v d : Addr) (o : Obj) (vs : List (Key × V)) (bs : List Bool),xs = [.ref v] /\ H v = some (zj4 v d) /\ H d = some (.frz o (.dK vs)) /\ Paired (fun (p : Key × V) (b : Bool)=>∃ a xs,p.2 = .ref a /\ SqL X.K H a xs /\ b = !xs.isEmpty) vs bs /\ Q (.bl (bs.any id)) H:=by
 intro pins s σ H xs us Q I r h;refine za0 fun gG=>?_;obtain ⟨v,d,o,vs,bs,rfl,hv,hd,hp,q⟩:=h;obtain ⟨u,rfl,rx⟩:=vals1 r;refine gG ?_;clear gG;cases rx;refine za0 fun gG=>?_;obtain ⟨hvw,_,_⟩:=(show zc1 X.prog X.w H s.heap v (zj4 v d) from I.hok v _ hv)
 obtain ⟨hget,hs,es,ep,g1,g2,g3,g4⟩:=zc4 (show zc1 X.prog X.w H s.heap d (.frz o (.dK vs)) from I.hok d _ hd);refine gG ?_;clear gG;have hl63:=zu8;have hsl : by3 = 16777216:=my9;refine zE0 (I.ok.hd hcm) hvw ⟨o,hget,g1,g2⟩ (by rw [g3]; exact (zb2 hp).symm) (fun h' tk i en b Q' E' kp hen hb hQ=>?_) fun h' tk kp=>⟨.bl (bs.any id),H,I.kept kp,rfl,q⟩
 refine za0 fun gG=>?_;obtain ⟨p,hpi,a,xs,e1,hx,e2⟩:=ze8 hp hb;obtain ⟨en',hen',rk,rv⟩:=g4 i p hpi;refine gG ?_;clear gG;rw [hen] at hen';cases hen';rw [e1] at rv;have rv' : en.val = cy9 a:=rv;rw [rv'];have I' : Inv X pins σ H { s with heap:=h',toks:=tk }:=I.kept kp;refine za0 fun gG=>?_;obtain ⟨its,r,pl,hz⟩:=I'.list hx;refine gG ?_;clear gG;have hlen:=r.length;refine wpAny_truthy_list pl.isList (by simp only [cy1]; omega) ?_;rw [zq4 r,<- e2];exact hQ _
end
section
variable {X : Bc} {S : Sl} {W : Wl} {k : KB}
theorem zd15 {o : Expr} {p pos apos cpos : Pos} (hc : X.calm = true) (hg : Gl X "any") (hm : X.mg "any" = none) (hv : fy0 "any" = some (.builtin "any"))
  (h : BE X S W o fun y W1=>∃ (j : Nat) (ob : Obj) (L : List (Key × El)) (bs : List Bool),y = .o j /\ W1[j]? = some (.fK ob L) /\ Paired (fun (e : Key × El) (b : Bool)=>∃ i es,e.2 = .o i /\ W1[i]? = some (.lst es) /\ b = !es.isEmpty) L bs /\ k (.d (.bool (bs.any id))) W1)
  (hbase : oy4 o "values" X.env (eval o X.env) = eval o X.env:=by rfl) (hline : (apos.endLine == cpos.line) = true:=by rfl) (he : fy4 [.Call (.Attribute o "values" apos) [] [] cpos] X.env = (false,eval (.Call (.Attribute o "values" apos) [] [] cpos) X.env) :: fy4 [] X.env:=by rfl) (hpl : (backTo pos (fy4 [] X.env)).any (·.1) = false:=by rfl) :
  BE X S W (.Call (.Name "any" p) [.Call (.Attribute o "values" apos) [] [] cpos] [] pos) k :=
 .of (zp0 (za94 hc) hg hm hv (zl8 (zS2 zi1 hbase hline) zu9 he) (by decide) (by decide) he hpl) fun F A σ H Q x0 r sr q =>
  h.use x0 r sr fun F1 A1 W1 H1 y vy e1 r1 z1 zR=>by
   refine za0 fun gG=>?_;obtain ⟨j,ob,L,bs,hy,hj,hp,h1⟩:=zR;subst hy;obtain ⟨a,ha,rfl⟩:=z1;obtain ⟨u,eH,vs,rfl,pk⟩:=r1.obj j a _ ha hj;refine gG ?_;clear gG;refine ⟨a,ob,vs,rfl,eH,fun v hv0=>?_⟩;have hav : a ≠ v:=fun z=>by rw [z,hv0] at eH; cases eH
   have r2 : RW X.K F1 A1 W1 (upd H1 v (zj4 v a)):=r1.grown (zj9 hv0);refine ⟨v,a,ob,vs,bs,rfl,zb5,by rw [za8 hav]; exact eH,?_,(q.ext e1).same r2 (.dd (Rq.bl _)) h1⟩
   have : ∀ {L : List (Key × El)} {vs : List (Key × V)} {bs : List Bool},Paired (fun p q=>p.1 = q.1 /\ ElR X.K F1 A1 p.2 q.2) L vs->Paired (fun (e : Key × El) (b : Bool)=>∃ i es,e.2 = .o i /\ W1[i]? = some (.lst es) /\ b = !es.isEmpty) L bs->Paired (fun (p : Key × V) (b : Bool)=>∃ a' xs,p.2 = .ref a' /\ SqL X.K (upd H1 v (zj4 v a)) a' xs /\ b = !xs.isEmpty) vs bs:=by
    intro L
    induction L with
    | nil=>intro vs bs h1 h2; cases h1; cases h2; exact .nil
    | cons e L ih =>
     intro vs bs h1 h2;cases h1 with
     | cons z1 t1 =>
      cases h2 with
      | cons z2 t2 =>
       refine .cons ?_ (ih t1 t2);refine za0 fun gG=>?_;obtain ⟨i,es,e2,hw,rfl⟩:=z2;have z:=z1.2;rw [e2] at z;obtain ⟨a',ha',e3⟩:=z;obtain ⟨u,eU,ws,rfl,pw⟩:=r2.obj i a' _ ha' hw;refine gG ?_;clear gG;refine ⟨a',ws,e3,SqL.of eU,?_⟩;cases pw <;> rfl
   exact this pk hp
end
end L2
namespace L2
open PySem PySem.Spec PyProof.Rows
section
variable {X : Bc} {n : Nat} {S : Sl} {W : Wl} {D : DB} {k : KB} {tg iter elt : Expr} {ifs : List Expr} {O Fv : List Str} {cap : List Nat} {scope : Scope} {pos : Pos}
theorem zb89 (hc : X.calm = true) (cs : zb3 X.N X.env.scope O Fv cap scope) (h : BIE X S W tg iter (KCE X O Fv cap scope S tg elt ifs fun ys W'=>k (.d (.list ys)) W'))
  (hs : ∀ x,ey4 iter X.env x = pure x:=by intro _; rfl) : BE X S W (.ListComp elt [⟨tg,iter,ifs,0⟩] scope pos) k :=
 .of (za10 (g:=tUGc X (O++Fv) scope O.length tg) (tt:=tUTc X (O++Fv) scope ifs) (te:=zL1 X (O++Fv) scope elt) hc cs pi_U (fun cl C ex s H=>fun pins s' σ' H' v u Q I r zR=>by obtain ⟨t,h,_,q⟩:=zR; exact h cl C ex s H pins s' σ' H' v u Q I r q) (fun cl C ex s H=>fun pins s' σ' H' Q I zR=>by obtain ⟨t,h,q⟩:=zR; exact h cl C ex s H pins s' σ' H' Q I q)
  (fun cl C ex s H=>fun pins s' σ' H' Q I zR=>by obtain ⟨t,h,q⟩:=zR; exact h cl C ex s H pins s' σ' H' Q I q) za27 hs) fun F A σ H Q x0 r sr q=>zy9 h x0 r sr fun F' A' W' H' ys vs p x r' z hp hk=>(q.ext x).newL r' hp z hk
end
end L2
namespace L2
open PySem PySem.Spec PyProof.Rows
open PySem.W
section
variable {P : cy7} {w : World} {A : Around} {E : Value->Shared->Prop} {s : Shared} {it d : Addr} {i ep : Nat} {es : Array my6}
theorem za95 {Q : Option Value->Shared->Prop} {en : my6} {ok ov : Value} (hI : IsItemIter s.heap it d i es.size ep ok ov) (hm : zI2 s.heap d es ep) (hx : es[i]? = some en)
  (hQ : ∀ h' : Heap,IsItemIterOut h' it d (i + 1) es.size ep en.key en.val s.heap.objs.size->h'.get? s.heap.objs.size = some { cls:=.type "tuple",data:=.seq #[en.key,en.val] }->(∀ b o,b ≠ it->s.heap.get? b = some o->h'.get? b = some o)->Q (some (.ref s.heap.objs.size)) { s with heap:=h' }) : wpAny (model P w) A (pyNext (.ref it)) Q E s:=by
 refine za0 fun gG=>?_;obtain ⟨ob,b1,b2,b3⟩:=hm;refine gG ?_;clear gG
 have lt : i < es.size:=by
  rcases Nat.lt_or_ge i es.size with z | z
  ·exact z
  ·rw [my7 z] at hx; cases hx
 have ty : s.TypeIs (.ref it) "dict_itemiterator" := ⟨_,hI,rfl⟩
 have own : gy6 "dict_itemiterator" = true:=by decide
 unfold pyNext;refine ay0 (qy5 (ey8 (name:=my3 "__next__") ty iy6 (dy4 iy6 ty F.entry_dict_itemiterator_next ?_ (F.args_dict_itemiterator_next_1 _))));refine ay0 (ay1 (ay0 (ay0 ?_)))
 first | refine ay0 (ny9 ty (ay1 ?_)) | refine ay0 (ry1 ty (ay1 ?_))
 refine ay0 (ty2 hI rfl ?_);simp only [own,if_true];show wpAny _ _ (if (cy9 d == dy6) = true then _ else _) _ _ s;rw [if_neg (show ¬ ((cy9 d == dy6) = true) from by9)];refine ay0 (ay1 (ay0 (ky1 b1 b3 ?_)));rw [if_neg (by simp)];refine ay0 (ay1 (ay0 (ny8 b1 b3 ?_)));rw [if_neg (by simp)];refine ay1 ?_;simp only [show ¬ ((i : Int) < 0) from by omega,if_false,ky0,hx];refine ay0 ?_
 first | refine ay0 (ny9 ty (ay1 ?_)) | refine ay0 (ry1 ty (ay1 ?_))
 refine ay0 (wpAny_isOneOf_itemiter ty ?_);show wpAny _ _ (ty6 (.ref it) 3 (rawInt ((i : Int) + 1)) >>= _) _ _ s;refine ay0 (iy9 hI (by simp) fun h1 e1 s1=>?_)
 have e1' : h1.get? it = some { cls:=.type "dict_itemiterator",dict:=none,data:=.fields #[.none,.bool false,.ref d,.int ((i + 1 : Nat) : Int) 0,.int es.size 0,.int ep 0,ok,ov],slots:=#[] }:=by
  rw [show ((i + 1 : Nat) : Int) = (i : Int) + 1 by omega];simpa [rawInt] using e1
 have ty1 : Shared.TypeIs { s with heap:=h1 } (.ref it) "dict_itemiterator" := ⟨_,e1',rfl⟩
 refine ay0 (fy1 (ay0 (wpAny_isOneOf_itemiter ty1 (ay0 (wpAny_isOneOf_itemiter ty1 ?_)))));show wpAny _ _ (Builtin.Dict_items.pairFromOwner (.ref it) 6 en.key en.val) _ _ { s with heap:=h1 };unfold Builtin.Dict_items.pairFromOwner;refine ay0 (wpAny_newTuple ?_);have z1 : h1.objs.size = s.heap.objs.size:=s1.1;have lit : it < s.heap.objs.size:=by2 hI;have e2:=ay2 ({ cls:=.type "tuple",data:=.seq #[en.key,en.val] } : Obj) e1';have t2 : (h1.push { cls:=.type "tuple",data:=.seq #[en.key,en.val] }).get? s.heap.objs.size = some { cls:=.type "tuple",data:=.seq #[en.key,en.val] }:=by rw [<- z1]; exact ay7 _ rfl
 have k2 : ∀ b o,b ≠ it->s.heap.get? b = some o->(h1.push { cls:=.type "tuple",data:=.seq #[en.key,en.val] }).get? b = some o:=fun b o hb e=>ay2 _ (s1.extBut b o hb e);show wpAny _ _ (wy6 (.ref it) >>= _) _ _ { s with heap:=h1.push { cls:=.type "tuple",data:=.seq #[en.key,en.val] } };rw [z1];generalize h1.push { cls:=.type "tuple",data:=.seq #[en.key,en.val] } = h2 at e2 t2 k2;clear e1 e1' s1 ty1 z1;refine ay0 ?_;unfold Builtin.Dict_items.ownedTupleIsFree;refine ay0 (jy5 e2 rfl (x:=.none) rfl (ay1 ?_));simp only [if_true];refine ay0 (jy5 e2 rfl (x:=ok) rfl (ay0 (jy5 e2 rfl (x:=ov) rfl ?_)));refine ay0 (iy9 e2 (by simp) fun h3 e3 s3=>?_);refine ay0 (iy9 e3 (by simp) fun h4 e4 s4=>?_);refine ay0 (iy9 e4 (by simp) fun h5 e5 s5=>?_);refine ay0 (iy9 e5 (by simp) fun h6 e6 s6=>?_);have all : Heap.ExtBut it h2 h6:=fun b o hb e=>s6.extBut b o hb (s5.extBut b o hb (s4.extBut b o hb (s3.extBut b o hb e)));exact ay0 (wpAny_letGo (ay1 (ay1 ⟨_,rfl,ay1 (hQ h6 e6 (all _ _ (my2 lit) t2) fun b o hb e=>all b o hb (k2 b o hb e))⟩)))
end
theorem zx8 : entryFor table "dict_itemiterator.__iter__" = some ry5.«dict_keyiterator.__iter__»:=entryFor_alias (id' := "dict_keyiterator.__iter__") (by kernel_rfl) rfl (by decide +kernel) (by kernel_rfl)
theorem za96 {P : cy7} {w : World} {A : Around} {E : Value->Shared->Prop} {s : Shared} {it d : Addr} {i n ep : Nat} {ok ov : Value} {Q : Value->Shared->Prop} (st : IsItemIter s.heap it d i n ep ok ov) (h : Q (.ref it) s) : wpAny (model P w) A (pyIter (.ref it)) Q E s:=by
 have ty : s.TypeIs (.ref it) "dict_itemiterator" := ⟨_,st,rfl⟩
 refine ry8 ty F.slot_dict_itemiterator_iter (dy4 F.slot_dict_itemiterator_iter ty zx8 ?_ (F.args_dict_itemiterator_iter_1 _));exact ay1 ⟨_,rfl,_,_,ty,iy6.lookup,h⟩
def ItIK (d : Addr) (o : Obj) : It:=⟨fun i H=>∃ vs,H d = some (.frz o (.dK vs)) /\ i < vs.length,fun i H x H'=>∃ p q,x = .ref p /\ H p = none /\ H' = upd H p (.tup [kV q.1,q.2]) /\ ∀ vs,H d = some (.frz o (.dK vs))->vs[i]? = some q,fun i H=>∃ vs,H d = some (.frz o (.dK vs)) /\ vs.length <= i⟩
theorem zO1 {P : cy7} {w : World} {K : ay5} {elts : List Expr} {c : Nat} {tp : Pos} {d : Addr} {o : Obj} {es : Array my6} {ep : Nat} (it : Addr) (hd : o.data = .dict es ep) :
  Turn P w K (.Tuple elts c tp) (ItIK d o) [it] it (fun i h=>∃ ok ov,IsItemIter h it d i es.size ep ok ov) where
 mem:=by simp
 obj:=fun i h ⟨ok,ov,st⟩ b hb=>by
  have e : b = it:=by simpa using hb
  subst e;exact ⟨_,st,fun v z=>by cases z⟩
 keep:=fun i h h' ⟨ok,ov,st⟩ k=>⟨ok,ov,k it (by simp) _ st⟩
 item:=by
  intro X hP hw hK hcm i pins s σ H E I hf ⟨ok,ov,st⟩ hg;subst hP hw hK;have fi:=hf it (by simp);refine za0 fun gG=>?_;obtain ⟨vs,hu,hi⟩:=hg;obtain ⟨hget,hs,es',ep',g1,g2,g3,g4⟩:=zc4 (show zc1 X.prog X.w H s.heap d (.frz o (.dK vs)) from I.hok d _ hu);refine gG ?_;clear gG;rw [hd] at g2;cases g2;refine za0 fun gG=>?_;obtain ⟨en,hen,rk,rv⟩:=g4 i vs[i] (by5 hi);refine gG ?_;clear gG;have nn : H s.heap.objs.size = none:=I.hok.fresh (ay6 _);refine za95 st ⟨o,hget,g1,hd⟩ hen fun g eo t' kp=>?_;refine ⟨_,rfl,wpAny_letOwnedTupleGo_items eo fun h2 e2 sb=>?_⟩;have sb : fy3 it g h2:=sb;have hel : s.heap.objs.size ≠ it:=my2 (by2 st);have k2 : ∀ b o,b ≠ it->s.heap.get? b = some o->h2.get? b = some o:=fun b o bi hb=>(sb.2 b bi).trans (kp b o bi hb);have tracked : ∀ b u,H b = some u->b ≠ it:=fun b u hb=>za5 hb fi.1;have t2 : h2.get? s.heap.objs.size = some { cls:=.type "tuple",data:=.seq #[en.key,en.val] }:=(sb.2 _ hel).trans t';refine ⟨.ref s.heap.objs.size,upd H s.heap.objs.size (.tup [kV vs[i].1,vs[i].2]),I.zb13 (ch:=[it]) rfl ⟨fun b o q n hb hx=>?_,fun b o q n hb hx=>?_,fun b o q n hx=>?_,fun b o q hx=>?_,fun b ys q=>?_,fun b o v q=>?_,fun b ps q=>?_⟩ (fun b v q=>?_) I.bare (fun b hb=>?_),rfl,⟨_,vs[i],rfl,nn,rfl,fun vs' hv'=>?_⟩,⟨_,_,e2⟩,fun b hb=>?_⟩
  ·exact k2 b o (fun z=>hx (by simp [z])) q
  ·exact ⟨o.slots,k2 b o (fun z=>hx (by simp [z])) q⟩
  ·rw [za8 (by8 (by2 q))];exact n
  ·exact ⟨o,k2 b o (fun z=>hx (by simp [z])) q⟩
  ·rw [za8 (za5 q nn)]; exact q
  ·rw [za8 (za5 q nn)]; exact q
  ·exact ⟨#[],by rw [za8 (za5 q nn),Array.append_empty]; exact q⟩
  ·by_cases hb : b = s.heap.objs.size
   ·subst hb;rw [zb5] at q;cases q;exact ⟨by show 2 <= by3; decide,[en.key,en.val],.cons rk (.cons rv .nil),_,t2,rfl,_,rfl⟩
   ·rw [za8 hb] at q;refine (I.hok b v q).zS7 (fun c w' hc z=>?_) (fun c z=>by rw [za8 (za5 z nn)]; exact z) fun c ys z=>by rw [za8 (za5 z nn)]; exact z
    rcases hc with rfl | hc
    ·exact k2 c w' (tracked c v q) z
    ·exact k2 c w' (tracked c _ hc) z
  ·cases ey2.mp hb;exact ⟨fi.2.2.2.1,fi.2.1,fi.2.2.2.2⟩
  ·rw [hu] at hv';cases hv';exact by5 hi
  ·cases ey2.mp hb;rw [za8 (fy2 hel)];exact fi.1
 done:=by
  intro X hP hw hK hcm i pins s σ H E I hf ⟨ok,ov,st⟩ hg;subst hP hw hK;refine za0 fun gG=>?_;obtain ⟨f0,f1,f2,f3,f4,f5⟩:=hf it (by simp);obtain ⟨vs,hu,hi⟩:=hg;obtain ⟨hget,hs,es',ep',g1,g2,g3,g4⟩:=zc4 (show zc1 X.prog X.w H s.heap d (.frz o (.dK vs)) from I.hok d _ hu);refine gG ?_;clear gG;rw [hd] at g2;cases g2;exact zb65 (S:=it + 1) (I.ok.hd hcm) (.inl ⟨ok,ov,st⟩) ⟨o,hget,g1,hd⟩ (by omega) fun h' eb=>⟨rfl,I.turned (t':=s.toks) (fun b o hb e=>eb b o hb e) f0 f1 f3 f4 f5⟩
 self:=fun _ _ _ _ _ ⟨_,_,st⟩ h=>za96 st h
section
variable {X : Cx}
theorem za97 {o : Expr} {to : TE} {apos cpos : Pos} (ho : PE X o to) (hbase : oy4 o "items" X.env (eval o X.env) = eval o X.env:=by rfl) (hline : (apos.endLine == cpos.line) = true:=by rfl) :
  PE X (.Call (.Attribute o "items" apos) [] [] cpos) (fun σ H Q=>to σ H fun x H1=>∃ d ob vs,x = .ref d /\ H1 d = some (.frz ob (.dK vs)) /\ ∀ v,H1 v = none->Q (.ref v) (upd H1 v (za58 v d))):=by
 intro pins s σ H Q I h;refine wpAny_Call_method0_late hbase hline (thn (ho pins s σ H _ I h) fun v s1 ⟨x,H1,I1,r1,d,ob,vs,hx,hd,q⟩=>?_);subst hx;cases r1;refine za0 fun gG=>?_;obtain ⟨hget,hs,es,ep,g1,g2,_⟩:=zc4 (show zc1 X.prog X.w H1 s1.heap d (.frz ob (.dK vs)) from I1.hok d _ hd);refine gG ?_;clear gG;have ty : s1.TypeIs (.ref d) "dict" := ⟨ob,hget,g1.1⟩
 refine ⟨"dict", "dict.items",iy3,PySem.F.slot_dict_items,PySem.F.type_dict_items,ty,fun a e=>by cases e; exact ⟨ob,hget,g1.2.1⟩,ty3 rfl (PySem.evalArgs_none ?_)⟩;refine dy4 PySem.F.slot_dict_items ty PySem.F.entry_dict_items ?_ (PySem.F.args_dict_items_1 _);unfold Builtin.«dict.items»;refine ay0 ?_;unfold Builtin.Dict.noArgs;refine ay0 (qy3 ty ?_);show wpAny _ _ (pure d) _ _ s1;refine ay1 ?_;show wpAny _ _ (jy7 d >>= _) _ _ s1;unfold Builtin.Dict.showsAll;rw [if_neg (by rw [hs]; exact by9)];refine ay0 (ay1 (ay0 (ey5 (ay1 ⟨_,rfl,?_⟩))));refine ⟨.ref s1.heap.objs.size,_,I1.laid (t':=s1.toks) (o:=za58 s1.heap.objs.size d) (fun b u q=>ay2 _ q) (ay6 _) ?_,rfl,q _ (I1.hok.fresh (ay6 _))⟩;exact ⟨⟨_,ay7 _ rfl,rfl,rfl⟩,⟨_,ay7 _ rfl⟩,fun h1 h2 ⟨o,a,b,c⟩ k=>⟨o,k o a,b,c⟩⟩
theorem za98 {elts : List Expr} {c : Nat} {tp : Pos} {l : Expr} {tl : TE} (hl : PE X l tl) : PI X (.Tuple elts c tp) l (fun σ H R=>tl σ H fun v H1=>∃ vw d o vs,v = .ref vw /\ H1 vw = some (za58 vw d) /\ H1 d = some (.frz o (.dK vs)) /\ R (ItIK d o) H1):=by
 intro pins s σ H R I h;refine thn (hl pins s σ H _ I h) fun v s1 zR=>?_;refine za0 fun gG=>?_;obtain ⟨y,H1,I1,r1,vw,d,o,vs,hy,hv,hd,q⟩:=zR;subst hy;refine gG ?_;clear gG;cases r1;refine za0 fun gG=>?_;obtain ⟨hvw,_,_⟩:=(show zc1 X.prog X.w H1 s1.heap vw (za58 vw d) from I1.hok vw _ hv)
 obtain ⟨hget,hs,es,ep,g1,g2,_⟩:=zc4 (show zc1 X.prog X.w H1 s1.heap d (.frz o (.dK vs)) from I1.hok d _ hd);refine gG ?_;clear gG;refine za57 hvw ⟨o,hget,g1,g2⟩ ?_;refine ⟨s1.heap.objs.size,[s1.heap.objs.size],_,_,H1,rfl,I1.kept (t':=s1.toks) fun b o e=>ay2 _ e,zO1 _ g2,⟨.none,.none,ay7 _ rfl⟩,fun b hb=>?_,q⟩;have e : b = s1.heap.objs.size:=by simpa using hb
 subst e;exact I1.zY7 (ay6 _) (I1.hok.fresh (ay6 _))
end
section
variable {X : Bc} {n : Nat} {S : Sl} {W : Wl} {D : DB} {k : KB} {kx vx : Expr} {O Fv : List Str} {cap : List Nat} {scope : Scope} {pos : Pos} {elts : List Expr} {c : Nat} {tp : Pos}
theorem zO2 {o : Expr} {apos cpos : Pos} {F : Hp} {A : List Addr} {σ : St} {H : Hp} {Q : VK} {k : List (Key × El)->Wl->Prop}
  (h : BE X S W o fun y W1=>∃ (j : Nat) (ob : Obj) (L : List (Str × PyData)),y = .o j /\ W1[j]? = some (.fK ob (L.map fun p=>(.inr p.1,.d p.2))) /\
   ∃ P : Nat->List (Key × El)->Wl->Prop,P 0 [] W1 /\ (∀ i kvs W',i <= L.length->P i kvs W'->W'[j]? = some (.fK ob (L.map fun p=>(.inr p.1,.d p.2))) /\ kvs.length < by3) /\
    (∀ i p kvs W',L[i]? = some p->P i kvs W'->BGc X (O++Fv) scope O.length (zP2 O cap S) W' (.Tuple elts c tp) (.d (.tuple [.str p.1,p.2])) fun S2 W2=>BEc X (O++Fv) scope S2 W2 kx fun kz W3=>∃ x : Str,kz = .d (.str x) /\ BEc X (O++Fv) scope S2 W3 vx fun z W4=>P (i + 1) (zz2 kvs (.inr x) z) W4) /\
    ∀ kvs W',P L.length kvs W'->k kvs W')
  (x0 : X.Am F A) (r : RW X.K F A W H) (sr : SR X.K F A S σ)
  (q : ∀ F' A' W' H' kvs vs p,Ext F A F' A'->RW X.K F' A' W' H'->Paired (fun p q=>p.1 = q.1 /\ ElR X.K F' A' p.2 q.2) kvs vs->H' p = none->k kvs W'->Q (.ref p) (upd H' p (.dK vs)))
  (hbase : oy4 o "items" X.env (eval o X.env) = eval o X.env:=by rfl) (hline : (apos.endLine == cpos.line) = true:=by rfl) :
  tDC (tUI X (.Tuple elts c tp) (.Call (.Attribute o "items" apos) [] [] cpos)) O cap (tUGc X (O++Fv) scope O.length (.Tuple elts c tp)) (zL1 X (O++Fv) scope kx) (zL1 X (O++Fv) scope vx) σ H Q :=
 ⟨_,za98 (za97 zi1 hbase hline),h.use x0 r sr fun F1 A1 W1 H1 y vy e1 r1 z1 zR=>by
  refine za0 fun gG=>?_;obtain ⟨j,ob,L,hy,hj,P,p0,hG,hs,hd⟩:=zR;subst hy;obtain ⟨a,ha,rfl⟩:=z1;have hja : j < A1.length:=(ay4.mp ha).1;have up : ∀ {F F' : Hp} {A A' : List Addr} {a : List (Key × El)} {b : List (Key × V)},Ext F A F' A'->Paired (fun p q=>p.1 = q.1 /\ ElR X.K F A p.2 q.2) a b->Paired (fun p q=>p.1 = q.1 /\ ElR X.K F' A' p.2 q.2) a b:=fun e p=>zg6 (fun _ _ t=>⟨t.1,t.2.ext e⟩) p;obtain ⟨u0,e0,vs0,rfl,pp0⟩:=r1.obj j a _ ha hj;refine gG ?_;clear gG;refine ⟨a,ob,vs0,rfl,e0,fun v hv=>⟨v,a,ob,vs0,rfl,zb5,by rw [za8 (za5 e0 hv)]; exact e0,?_⟩⟩;have r2 : RW X.K F1 A1 W1 (upd H1 v (za58 v a)):=r1.grown (zj9 hv)
  have key : ∀ {F' A' W' H'},Ext F1 A1 F' A'->RW X.K F' A' W' H'->W'[j]? = some (.fK ob (L.map fun p=>(.inr p.1,.d p.2)))->∃ vs,H' a = some (.frz ob (.dK vs)) /\ Paired (fun p q=>p.1 = q.1 /\ ElR X.K F' A' p.2 q.2) (L.map fun p=>(.inr p.1,.d p.2)) vs:=fun x r' hG=>by
   refine za0 fun gG=>?_;obtain ⟨u,e,vs,rfl,p⟩:=r'.obj j a _ (zv4 x.pre ha) hG;refine gG ?_;clear gG;exact ⟨vs,e,p⟩
  refine ⟨fun i μ vs H'=>μ = L.length - i /\ i <= L.length /\ ∃ F' A' W' kvs,Ext F1 A1 F' A' /\ RW X.K F' A' W' H' /\ Paired (fun p q=>p.1 = q.1 /\ ElR X.K F' A' p.2 q.2) kvs vs /\ P i kvs W',⟨L.length,by simp,dy9 _,F1,A1,W1,[],.refl,r2,.nil,p0⟩,?_⟩;intro i μ vs H' gX;refine za0 fun gG=>?_;obtain ⟨rfl,hi,F',A',W',kvs,x,r',z',p⟩:=gX;obtain ⟨g,hz⟩:=hG i kvs W' hi p;refine gG ?_;clear gG;refine ⟨by rw [<- zb2 z']; exact hz,?_⟩;refine za0 fun gG=>?_;obtain ⟨ws,eH,pw⟩:=key x r' g;refine gG ?_;clear gG;have hwl : L.length = ws.length:=by have:=zb2 pw; simpa using this
  by_cases hlt : i < L.length
  ·refine .inr ⟨⟨ws,eH,by omega⟩,fun v H'' hy=>?_⟩;refine za0 fun gG=>?_;obtain ⟨t,qq,rfl,hn',rfl,hget⟩:=hy;obtain ⟨lp,hlp,zd⟩:=ze8 pw (hget ws eH);rw [by1] at hlp;obtain ⟨l,hl,rfl⟩:=fy7.mp hlp;obtain ⟨r3,e3⟩:=r'.newF hn' (.tup [kV qq.1,qq.2]);refine gG ?_;clear gG;have zt : ElR X.K (upd F' t (.tup [kV qq.1,qq.2])) A' (.d (.tuple [.str l.1,l.2])) (.ref t):=.dd (Rq.tup (SqT.of zb5) (.cons (by rw [<- zd.1]; exact Rq.str l.1) (.cons (Rq.same e3.same _ zd.2) .nil)));have x3:=x.trans e3;have srx:=sr.ext (e1.trans x3);refine hs i l kvs W' hl p _ A' (zc3 O cap σ) _ _ _ r3 srx.cmp zt fun S2 σ2 sr2 h2=>?_;refine ⟨tD X S2 W' _,fun cl C ex s H=>h2 cl C ex s H,_,A',x0.trans (e1.trans x3),r3,sr2,fun F3 A3 W3 H3 kz vk e3' r3' z3 ⟨y,hy,h3⟩=>?_⟩;subst hy;obtain rfl:=Rq.zf7 z3;refine ⟨y,rfl,tD X S2 W3 _,fun cl C ex s H=>h3 cl C ex s H,F3,A3,(x0.trans (e1.trans x3)).trans e3',r3',sr2.ext e3',fun F4 A4 W4 H4 z vz e4 r4 z4 h4=>?_⟩;exact ⟨L.length - (i + 1),by omega,rfl,hlt,F4,A4,W4,zz2 kvs (.inr y) z,(x3.trans e3').trans e4,r4,zQ5 z4 (up ((e3.trans e3').trans e4) z'),h4⟩
  ·have hie : i = L.length:=by omega
   subst hie
   exact .inl ⟨⟨ws,eH,by omega⟩,fun l hl=>q F' A' W' H' kvs vs l (e1.trans x) r' z' hl (hd kvs W' p)⟩⟩
end
end L2
namespace L2
open PySem PySem.Spec PyProof.Rows
section
variable {X : Bc} {n : Nat} {S : Sl} {W : Wl} {D : DB} {kx vx : Expr} {O Fv : List Str} {cap : List Nat} {scope : Scope} {pos : Pos} {elts : List Expr} {c : Nat} {tp : Pos}
theorem zb90 {o : Expr} {apos cpos : Pos} {i : Nat} {x : Str} {pos' spos : Pos} (hN : X.N.Nodup) (hix : X.N[i]? = some x) (hx : Loc X.env.scope x) (hc : X.calm = true) (cs : zb3 X.N X.env.scope O Fv cap scope)
  (h : BE X S W o fun y W1=>∃ (j : Nat) (ob : Obj) (L : List (Str × PyData)),y = .o j /\ W1[j]? = some (.fK ob (L.map fun p=>(.inr p.1,.d p.2))) /\
   ∃ P : Nat->List (Key × El)->Wl->Prop,P 0 [] W1 /\ (∀ i kvs W',i <= L.length->P i kvs W'->W'[j]? = some (.fK ob (L.map fun p=>(.inr p.1,.d p.2))) /\ kvs.length < by3) /\
    (∀ i p kvs W',L[i]? = some p->P i kvs W'->BGc X (O++Fv) scope O.length (zP2 O cap S) W' (.Tuple elts c tp) (.d (.tuple [.str p.1,p.2])) fun S2 W2=>BEc X (O++Fv) scope S2 W2 kx fun kz W3=>∃ x : Str,kz = .d (.str x) /\ BEc X (O++Fv) scope S2 W3 vx fun z W4=>P (i + 1) (zz2 kvs (.inr x) z) W4) /\
    ∀ kvs W',P L.length kvs W'->D.nx (S.set i (some (.o W'.length))) (W'++[.dK kvs]))
  (hbase : oy4 o "items" X.env (eval o X.env) = eval o X.env:=by rfl) (hline : (apos.endLine == cpos.line) = true:=by rfl)
  (hsw : swapsWith (.DictComp kx vx [⟨.Tuple elts c tp,.Call (.Attribute o "items" apos) [] [] cpos,[],0⟩] scope pos) (some (.Name x pos')) spos.line X.env = pure true:=by rfl) (hs : ∀ x,ey4 (.Call (.Attribute o "items" apos) [] [] cpos) X.env x = pure x:=by intro _; rfl)
  (hf : X.fn x = true \/ X.env.scope.names.lookup x = some .local:=by first | exact .inl rfl | exact .inr rfl | assumption) : BS X n S W (.Assign [.Name x pos'] (.DictComp kx vx [⟨.Tuple elts c tp,.Call (.Attribute o "items" apos) [] [] cpos,[],0⟩] scope pos) spos) D :=
 .of (zd11 (g:=tUGc X (O++Fv) scope O.length (.Tuple elts c tp)) (tk:=zL1 X (O++Fv) scope kx) (tv:=zL1 X (O++Fv) scope vx) hN hix hx hc cs pi_U (fun cl C ex s H=>fun pins s' σ' H' v u Q I r zR=>by obtain ⟨t,h,_,q⟩:=zR; exact h cl C ex s H pins s' σ' H' v u Q I r q) (fun cl C ex s H=>fun pins s' σ' H' Q I zR=>by obtain ⟨t,h,q⟩:=zR; exact h cl C ex s H pins s' σ' H' Q I q)
  (fun cl C ex s H=>fun pins s' σ' H' Q I zR=>by obtain ⟨t,h,q⟩:=zR; exact h cl C ex s H pins s' σ' H' Q I q) za27 hsw hs hf) fun F A σ H E hn x0 r sr q=>zO2 (k:=fun kvs W'=>D.nx (S.set i (some (.o W'.length))) (W'++[.dK kvs])) h x0.am r sr (fun F' A' W' H' kvs vs p x r' z hp hk=>by
   obtain ⟨r2,y⟩:=r'.zX4 hp (o:=.dK kvs) (u:=.dK vs) ⟨vs,rfl,z⟩
   exact q.nx _ _ _ _ _ _ ((x.trans y).ex1 hn) r2 ((sr.ext (x.trans y)).set (ElR.oo (k:=W'.length) (by rw [<- r'.len]; simp)) i) hk) hbase hline
end
section
variable {X : Bc} {W : Wl} {k : KB}
end
section
variable {X : Cx}
theorem zf28 (hu : X.A.units + 1 < cLine) : IxR X (fun x y H Q=>∃ a kvs k v,x = .ref a /\ y = kV k /\ Rd H a (.dK kvs) /\ zy0 kvs k = some v /\ Q v H):=by
 intro value slice pins s σ H x y v u Q I rx ry h hs;refine za0 fun gG=>?_;obtain ⟨a,kvs,k,z,rfl,rfl,e,hv,q⟩:=h;refine gG ?_;clear gG;cases (show v = cy9 a from rx);refine za0 fun gG=>?_;obtain ⟨_,hd,vs,rel,dd⟩:=zd94 I.hok e;refine gG ?_;clear gG;obtain ⟨w',hw,rw'⟩:=zA1.some_of (v:=z) (o:=valueAt vs k) (by rw [<- hv]; exact rel.val k);exact py4 (x:=w') dd.typeIs vy9.lookup (wpAny_getItem_of (Q:=fun r s'=>r = w' /\ EP X pins σ Q r s') (zb43 ry) dd.mapOf hw ⟨rfl,z,H,I.tok _,rw',q⟩) hs
end
section
variable {X : Bc} {W : Wl} {k : KB}
theorem zb91 {j : Nat} {o : Obj} {kvs : List (Key × El)} {x : Str} {e : El} (hu : X.A.units + 64 < cLine) (hj : W[j]? = some (.fK o kvs)) (he : zX6 kvs (.inr x) = some e) (h : k e W) : IB X (.o j) (.d (.str x)) W k:=.of (zf28 (by omega)) fun F A H Q vx vy r zx zy q=>by
 refine za0 fun gG=>?_;obtain ⟨a,ha,rfl⟩:=zx;obtain ⟨u,hH,ws,rfl,p⟩:=r.obj j a _ ha hj;refine gG ?_;clear gG;obtain rfl:=Rq.zf7 zy;refine za0 fun gG=>?_;obtain ⟨v,h1,h2⟩:=zc24 p he;refine gG ?_;clear gG;exact ⟨a,ws,.inr x,v,rfl,rfl,.inr ⟨o,hH⟩,h1,q.same r h2 h⟩
end
theorem zu2 {W : Wl} {j : Nat} {o o' : OD} (h : W[j]? = some o) : (W.set j o').set j o = W:=by
 rw [List.set_set];refine oy8 fun i=>?_
 by_cases e : j = i
 ·subst e;rw [gy3 (ay4.mp h).1,h]
 ·rw [cy6 e]
theorem get_set {W : Wl} {j i : Nat} {o o' : OD} (h : W[i]? = some o) (hij : j ≠ i) : (W.set j o')[i]? = some o:=by rw [cy6 hij]; exact h
theorem zd8 {W : Wl} {j : Nat} {o o' : OD} (h : W[j]? = some o) : (W.set j o')[j]? = some o':=gy3 (ay4.mp h).1
theorem zE1 {α : Type} {L : List (Str × α)} {g : α->El} (nd : (L.map (·.1)).Nodup) {p : Str × α} (h : p∈L) : zX6 (L.map fun e=>(.inr e.1,g e.2)) (.inr p.1) = some (g p.2):=by
 unfold zX6
 induction L with
 | nil=>simp at h
 | cons a L ih =>
  rw [ey9,ly5] at nd;rw [ey9,iy5];rcases by7.mp h with e | h'
  ·subst e;simp
  ·have : a.1 ≠ p.1:=fun z=>nd.1 (by rw [z]; exact cy3.mpr ⟨p,h',rfl⟩);rw [decide_eq_false (fun z=>this (ty7 z))];exact ih nd.2 h'
theorem zE2 {κ : Type} [DecidableEq κ] {kvs : List (κ × El)} {k : κ} {e : El} (h : ∀ p∈kvs,p.1 ≠ k) : zz2 kvs k e = kvs++[(k,e)]:=by
 unfold zz2;rw [if_neg];intro z;refine za0 fun gG=>?_;obtain ⟨p,hp,hk⟩:=wy2.mp z;refine gG ?_;clear gG;exact h p hp (by simpa using hk)
section
variable {X : Bc} {n : Nat} {S : Sl} {W : Wl} {D : DB} {k : KB} {tg iter elt : Expr} {ifs : List Expr} {O Fv : List Str} {cap : List Nat} {scope : Scope} {pos : Pos}
theorem zO3 {α : Type} {L : List α} {m : Nat} {G : Wl->Prop} {W1 : Wl} {k : List PyData->Wl->Prop} {c : Expr} (g : α->El) (p : α->Bool) (f : α->PyData) (hG : G W1) (hl : L.length <= by3)
  (h : ∀ a∈L,BGc X (O++Fv) scope O.length (zP2 O cap S) W1 tg (g a) fun S2 W2=>(∀ cl C ex s H,BT (cxB X (O++Fv) scope cl C ex s H) S2 W2 c fun b W3=>b = p a /\ W3 = W1) /\ (p a = true->BEc X (O++Fv) scope S2 W2 elt fun y W4=>y = .d (f a) /\ W4 = W1)) (hk : k ((L.filter p).map f) W1) : KCE X O Fv cap scope S tg elt [c] k m G (L.map g) W1:=by
 refine ⟨fun i ys W'=>W' = W1 /\ ys = ((L.take i).filter p).map f,⟨rfl,rfl⟩,fun i ys W' hi q=>?_,fun i d ys W' hd q=>?_,fun ys W' q=>?_⟩
 ·rw [q.1,q.2];refine ⟨hG,?_⟩;rw [ay3];have:=qy1 p (L.take i);rw [dy1] at this;omega
 ·refine za0 fun gG=>?_;obtain ⟨rfl,rfl⟩:=q;rw [by1] at hd;obtain ⟨a,ha,rfl⟩:=fy7.mp hd;refine gG ?_;clear gG;refine fun F A σ H v Q r sr z q=>h a (cy8 ha) F A σ H v Q r sr z fun S' σ' sr' hh=>q S' σ' sr' (za28 fun cl C ex s H=>?_);refine BT.mono (hh.1 cl C ex s H) fun b W3 hb=>?_;refine za0 fun gG=>?_;obtain ⟨rfl,rfl⟩:=hb;refine gG ?_;clear gG
  by_cases e : p a = true
  ·rw [if_pos e];refine fun cl C ex s H=>(hh.2 e cl C ex s H).mono fun y W4 hy=>⟨f a,hy.1,hy.2,?_⟩
   rw [fy5,ha,ty5,gy1];simp [e]
  ·rw [if_neg e];refine ⟨rfl,?_⟩;rw [fy5,ha,ty5,gy1];simp [e]
 ·rw [q.1,q.2,ay3,hy5];exact hk
end
theorem za99 {α β : Type} {f : α->β} : ∀ {l : List α},(l.map f).Nodup->∀ {a b : α},a∈l->b∈l->f a = f b->a = b
 | [],_,_,_,ha,_,_=>by simp at ha
 | c :: l,nd,a,b,ha,hb,h=>by
  rw [ey9,ly5] at nd;have no : ∀ z∈l,f c ≠ f z:=fun z hz e=>nd.1 (cy3.mpr ⟨z,hz,e.symm⟩);rcases by7.mp ha with ea | ha'
  ·rcases by7.mp hb with eb | hb'
   ·rw [ea,eb]
   ·rw [ea] at h; exact absurd h (no b hb')
  ·rcases by7.mp hb with eb | hb'
   ·rw [eb] at h; exact absurd h.symm (no a ha')
   ·exact za99 nd.2 ha' hb' h
end L2
namespace K1
open PySem L2
def zE7 (d : za7) : List Str:=[d.kd,d.x,d.y,d.w]
theorem zE3 {a b : za7} (h : zE7 a = zE7 b) : a = b:=by
 refine za0 fun gG=>?_;obtain ⟨t,x,y,z⟩:=a;obtain ⟨t',x',y',z'⟩:=b;refine gG ?_;clear gG;simp only [zE7,List.cons.injEq,and_true] at h;refine za0 fun gG=>?_;obtain ⟨h1,h2,h3,h4⟩:=h;refine gG ?_;clear gG
 have : t = t':=by
  cases t <;> cases t' <;> first | rfl | exact absurd h1 zd07 | exact absurd h1.symm zd07
 rw [this,h2,h3,h4]
theorem zS3 (d : za7) : (zE7 d).length = 4:=rfl
def zr7 (V : Str->List za7) (x : Str) (vs : List za7) : Str->List za7:=fun y=>if y = x then vs else V y
inductive Lst : Wd->(Str->List za7)->List za7->Prop
 | nil {f : Wd} {V : Str->List za7} : (∀ x,V x = [])->Lst f V []
 | cons {f : Wd} {V : Str->List za7} {d : za7} {vs out : List za7} : V (handOf d) = d :: vs->zn1 f d = true->(∀ x e es,V x = e :: es->zn1 f e = true->e ≠ d->ltL (zE7 d) (zE7 e) = true)->Lst (zd6 f d) (zr7 V (handOf d) vs) out->Lst f V (d :: out)
theorem Lst.uniq {f : Wd} {V : Str->List za7} {a b : List za7} (h : Lst f V a) (h' : Lst f V b) : a = b:=by
 induction h generalizing b with
 | nil h0 =>
  cases h' with
  | nil _=>rfl
  | cons h1 _ _ _=>rw [h0] at h1; cases h1
 | @cons f V d vs out h1 h2 h3 h4 ih =>
  cases h' with
  | nil h0=>rw [h0] at h1; cases h1
  | @cons _ _ d' vs' out' g1 g2 g3 g4 =>
   by_cases e : d = d'
   ·subst e;rw [h1] at g1;injection g1 with _ e
    subst e;rw [ih g4]
   ·have a1:=h3 _ _ _ g1 g2 (fy2 e);have a2:=g3 _ _ _ h1 h2 e;rw [zR9 (by rw [zS3,zS3]) a1] at a2;cases a2
theorem Lst.goes {f : Wd} {V : Str->List za7} {a : List za7} (h : Lst f V a) : goF f a /\ ∀ x,viewOf x a = V x:=by
 induction h with
 | nil h0=>exact ⟨trivial,fun x=>by rw [h0]; rfl⟩
 | @cons f V d vs out h1 h2 h3 h4 ih =>
  refine ⟨⟨h2,ih.1⟩,fun x=>?_⟩;rw [zf6,ih.2 x];unfold zr7
  by_cases e : handOf d = x
  ·subst e;rw [if_pos rfl,if_pos rfl,h1]
  ·rw [if_neg e,if_neg (fy2 e)]
theorem zx9 {d : za7} : ∀ (B : List za7) {f : Wd} {C : List za7},zn1 f d = true->(∀ b∈B,handOf b ≠ handOf d)->goF f (B++d :: C)->goF f (d :: (B++C))
 | [],f,C,_,_,h=>h
 | b :: B,f,C,hc,hB,h=>by
  have hb:=hB b ay9;have ih:=zx9 B (f:=zd6 f b) (C:=C) (zR7 hb hc) (fun z hz=>hB z (by0 _ hz)) h.2;exact zb80 (show goF f (b :: d :: (B++C)) from ⟨h.1,ih⟩) hb hc
theorem zJ3 {f : Wd} {V : Str->List za7} {R : List za7} {d : za7} {vs : List za7} (hg : goF f R) (hV : ∀ x,viewOf x R = V x) (h1 : V (handOf d) = d :: vs) (h2 : zn1 f d = true) : ∃ R',goF (zd6 f d) R' /\ (∀ x,viewOf x R' = zr7 V (handOf d) vs x) /\ R'.length + 1 = R.length:=by
 obtain ⟨B,C,rfl,hB⟩:=zD9 (by rw [hV]; exact h1);have:=zx9 B h2 hB hg;refine ⟨B++C,this.2,fun x=>?_,by simp; omega⟩;have hx:=hV x;rw [zj6,zf6] at hx;rw [zj6];unfold zr7
 by_cases e : x = handOf d
 ·subst e;rw [if_pos rfl];rw [if_pos rfl,zk5 hB,h1] at hx;rw [zk5 hB];injection hx
 ·rw [if_neg e];rw [if_neg (fy2 e)] at hx;exact hx
theorem zJ4 {f : Wd} {V : Str->List za7} {R : List za7} (hg : goF f R) (hV : ∀ x,viewOf x R = V x) (hne : R ≠ []) : ∃ d vs,V (handOf d) = d :: vs /\ zn1 f d = true:=by
 cases R with
 | nil=>exact absurd rfl hne
 | cons d R=>exact ⟨d,viewOf (handOf d) R,by rw [<- hV,zf6,if_pos rfl],hg.1⟩
theorem zJ5 {x : Str} {R : List za7} {d : za7} (h : d∈viewOf x R) : handOf d = x:=by
 unfold viewOf at h;have:=(gy4.mp h).2;simpa using this
theorem zu3 {x : Str} {R : List za7} {d : za7} (h : d∈viewOf x R) : d∈R:=(gy4.mp h).1
structure zn8 (W : Wl) (p : Nat) (ks : List (Str × Nat)) (V : Str->List za7) : Prop where
 at_ : W[p]? = some (.dK (ks.map fun e=>(.inr e.1,El.o e.2)))
 obj : ∀ e∈ks,W[e.2]? = some (.lst (zb4 ((V e.1).map dP)))
 nd : (ks.map (·.1)).Nodup
 ndj : (ks.map (·.2)).Nodup
 np : ∀ e∈ks,e.2 ≠ p
 none_ : ∀ x,x ∉ ks.map (·.1)->V x = []
 hand : ∀ x,∀ d∈V x,handOf d = x
 ok : ∀ x,∀ d∈V x,d.Ok
theorem zn8.frame {W W' : Wl} {p : Nat} {ks : List (Str × Nat)} {V : Str->List za7} (h : zn8 W p ks V) (hp : W'[p]? = W[p]?) (ho : ∀ e∈ks,W'[e.2]? = W[e.2]?) : zn8 W' p ks V :=
 ⟨hp.trans h.at_,fun e he=>(ho e he).trans (h.obj e he),h.nd,h.ndj,h.np,h.none_,h.hand,h.ok⟩
theorem zn8.pop {W : Wl} {p : Nat} {ks : List (Str × Nat)} {V : Str->List za7} (h : zn8 W p ks V) {e : Str × Nat} {d : za7} {vs : List za7} (he : e∈ks) (hv : V e.1 = d :: vs) : zn8 (W.set e.2 (.lst (zb4 (vs.map dP)))) p ks (zr7 V e.1 vs):=by
 refine ⟨get_set h.at_ (h.np e he),fun a ha=>?_,h.nd,h.ndj,h.np,fun x hx=>?_,fun x z hz=>?_,fun x z hz=>?_⟩
 ·unfold zr7
  by_cases e1 : a.1 = e.1
  ·obtain rfl:=za99 h.nd ha he e1;rw [if_pos rfl];exact zd8 (h.obj a ha)
  ·rw [if_neg e1];exact get_set (h.obj a ha) fun z=>e1 (by rw [za99 h.ndj he ha z])
 ·unfold zr7;rw [if_neg (fun z=>hx (by rw [z]; exact cy3.mpr ⟨e,he,rfl⟩))];exact h.none_ x hx
 ·unfold zr7 at hz
  by_cases e1 : x = e.1
  ·rw [if_pos e1] at hz;rw [e1];exact h.hand e.1 z (by rw [hv]; exact by0 _ hz)
  ·rw [if_neg e1] at hz;exact h.hand x z hz
 ·unfold zr7 at hz
  by_cases e1 : x = e.1
  ·rw [if_pos e1] at hz;exact h.ok e.1 z (by rw [hv]; exact by0 _ hz)
  ·rw [if_neg e1] at hz;exact h.ok x z hz
theorem zn8.at {W : Wl} {p : Nat} {ks : List (Str × Nat)} {V : Str->List za7} (h : zn8 W p ks V) {x : Str} {d : za7} {vs : List za7} (hv : V x = d :: vs) : ∃ e∈ks,e.1 = x:=by
 by_cases hx : x∈ks.map (·.1)
 ·refine za0 fun gG=>?_;obtain ⟨e,he,z⟩:=cy3.mp hx;refine gG ?_;clear gG;exact ⟨e,he,z⟩
 ·rw [h.none_ x hx] at hv;cases hv
def ze32 : za7:=⟨false, "", "", ""⟩
def hdV (V : Str->List za7) (x : Str) : za7:=(V x).headD ze32
def zj7 (f : Wd) (V : Str->List za7) (x : Str) : Bool:=!(V x).isEmpty && zn1 f (hdV V x)
theorem zh3 {f : Wd} {V : Str->List za7} {x : Str} : zj7 f V x = true ↔ ∃ vs,V x = hdV V x :: vs /\ zn1 f (hdV V x) = true:=by
 unfold zj7 hdV;cases V x with
 | nil=>simp
 | cons d vs=>simp
section
variable {W : Wl} {p : Nat} {ks : List (Str × Nat)} {V : Str->List za7} {f : Wd}
theorem zb00 {α : Type} (x : α->Str) (hand : ∀ x,∀ d∈V x,handOf d = x) (l : List α) (nd : (l.map x).Nodup) : ((l.filter fun e=>zj7 f V (x e)).map fun e=>zE7 (hdV V (x e))).Nodup:=by
 have h1 : l.Pairwise fun a b=>x a ≠ x b:=List.pairwise_map.mp nd;have h2 : (l.filter fun e=>zj7 f V (x e)).Pairwise fun a b=>x a ≠ x b:=h1.sublist List.filter_sublist;refine List.pairwise_map.mpr (h2.imp_of_mem fun {c c'} hx hy hne e=>hne ?_);refine za0 fun gG=>?_;obtain ⟨vs,h3,_⟩:=zh3.mp (gy4.mp hx).2;obtain ⟨ws,h4,_⟩:=zh3.mp (gy4.mp hy).2;refine gG ?_;clear gG;have a:=hand (x c) _ (by rw [h3]; exact ay9);have b:=hand (x c') _ (by rw [h4]; exact ay9);rw [<- a,<- b,zE3 e]
end
theorem zf1.set {W : Wl} {q : Nat} {L : List Ln} (h : zf1 W q L) {i : Nat} (hi : i ≠ q) (hL : ∀ l∈L,l.j ≠ i) (o : OD) : zf1 (W.set i o) q L :=
 ⟨get_set h.at_ hi,fun e he=>get_set (h.obj e he) (fy2 (hL e he)),h.nd,h.nq⟩
structure LB (W0 W : Wl) (q p r m : Nat) (L : List Ln) (ks : List (Str × Nat)) (f : Wd) (V : Str->List za7) (row : List za7) : Prop where
 la : zf1 W q L
 kn : zf5 L
 sm : zj5 m L
 fs : ∀ x y,zi7 L x y = f x y
 lf : zn8 W p ks V
 rw_ : W[r]? = some (.lst (zb4 (row.map dP)))
 pq : p ≠ q
 rq : r ≠ q
 rp : r ≠ p
 kq : ∀ e∈ks,e.2 ≠ q /\ e.2 ≠ r
 lj : ∀ l∈L,l.j ≠ p /\ l.j ≠ r /\ ∀ e∈ks,l.j ≠ e.2
 hq : W0.length <= q
 hp : W0.length <= p
 hr : W0.length <= r
 hk : ∀ e∈ks,W0.length <= e.2
 hj : ∀ l∈L,W0.length <= l.j
 old : ∀ i,i < W0.length->W[i]? = W0[i]?
 le : W0.length <= W.length
section
variable {W0 W W2 : Wl} {q p r m : Nat} {L L2 : List Ln} {ks : List (Str × Nat)} {f : Wd} {V : Str->List za7} {row : List za7}
theorem zd4 {W : Wl} {i : Nat} {o : OD} (h : W[i]? = some o) : i < W.length:=(ay4.mp h).1
theorem LB.step (h : LB W0 W q p r m L ks f V row) {d : za7} (a : zf1 W2 q L2) (b : zf5 L2) (c : zj5 (m + 1) L2) (s : Step L d L2) (fr : Frame W q L W2) (nj : NewJ W.length L L2) : LB W0 W2 q p r (m + 1) L2 ks (zd6 f d) V row:=by
 have gp : W2[p]? = W[p]?:=fr.2 p (zd4 h.lf.at_) h.pq fun l hl=>(h.lj l hl).1;have gr : W2[r]? = W[r]?:=fr.2 r (zd4 h.rw_) h.rq fun l hl=>(h.lj l hl).2.1;have gk : ∀ e∈ks,W2[e.2]? = W[e.2]?:=fun e he=>fr.2 e.2 (zd4 (h.lf.obj e he)) (h.kq e he).1 fun l hl=>(h.lj l hl).2.2 e he;refine ⟨a,b,c,s.words h.fs,h.lf.frame gp gk,gr.trans h.rw_,h.pq,h.rq,h.rp,h.kq,fun l hl=>?_,h.hq,h.hp,h.hr,h.hk,fun l hl=>?_,fun i hi=>?_,ey1 h.le fr.1⟩
 ·rcases nj l hl with ⟨l0,h0,h1⟩ | h1
  ·rw [<- h1]; exact h.lj l0 h0
  ·have h2:=zd4 h.lf.at_;have h3:=zd4 h.rw_;exact ⟨by omega,by omega,fun e he=>by have:=zd4 (h.lf.obj e he); omega⟩
 ·rcases nj l hl with ⟨l0,h0,h1⟩ | h1
  ·rw [<- h1]; exact h.hj l0 h0
  ·exact ey1 h.le h1
 ·have hq:=h.hq;exact (fr.2 i (by6 hi h.le) (by omega) fun l hl z=>by have:=h.hj l hl; omega).trans (h.old i hi)
theorem zE4 {W0 W : Wl} {i : Nat} {o : OD} (old : ∀ i,i < W0.length->W[i]? = W0[i]?) (hi : W0.length <= i) : ∀ j,j < W0.length->(W.set i o)[j]? = W0[j]?:=fun j hj=>by
 rw [cy6 (by omega)];exact old j hj
theorem LB.pop (h : LB W0 W q p r m L ks f V row) {e : Str × Nat} {d : za7} {vs : List za7} (he : e∈ks) (hv : V e.1 = d :: vs) : LB W0 (W.set e.2 (.lst (zb4 (vs.map dP)))) q p r m L ks f (zr7 V e.1 vs) row :=
 ⟨h.la.set (h.kq e he).1 (fun l hl=>(h.lj l hl).2.2 e he) _,h.kn,h.sm,h.fs,h.lf.pop he hv,get_set h.rw_ (h.kq e he).2,h.pq,h.rq,h.rp,h.kq,h.lj,h.hq,h.hp,h.hr,h.hk,h.hj,zE4 h.old (h.hk e he),by rw [ly6]; exact h.le⟩
theorem LB.push (h : LB W0 W q p r m L ks f V row) (d : za7) : LB W0 (W.set r (.lst (zb4 (row.map dP)++[.d (dP d)]))) q p r m L ks f V (row++[d]) :=
 ⟨h.la.set h.rq (fun l hl=>(h.lj l hl).2.1) _,h.kn,h.sm,h.fs,h.lf.frame (by rw [cy6 h.rp]) (fun e he=>by rw [cy6 (fy2 (h.kq e he).2)]),by rw [zd8 h.rw_,gy1]; simp [zb4],h.pq,h.rq,h.rp,h.kq,h.lj,h.hq,h.hp,h.hr,h.hk,h.hj,zE4 h.old h.hr,by rw [ly6]; exact h.le⟩
theorem LB.app (h : LB W0 W q p r m L ks f V row) : ∃ U,W = W0++U:=⟨W.drop W0.length,by
 refine oy8 fun i=>?_
 by_cases hi : i < W0.length
 ·rw [ay8 hi];exact h.old i hi
 ·rw [cy2 (by omega),List.getElem?_drop]
  congr 1
  omega⟩
end
structure zd16 (K : ay5) (mg : Str->Option Value) (fN fD fC fO fB fH : Addr) (dN dD dC dO dB dH : ey7) : Prop where
 name : Def K mg "is_name" zw9 fN dN ["thing"]
 deed : Def K mg "is_deed" zI5 fD dD ["thing"]
 can : Def K mg "can_be_done" sCan fC dC ["lines", "deed"]
 do_ : Def K mg "do_deed" sDo fO dO ["lines", "deed"]
 beh : Def K mg "lines_behind" zo5 fB dB ["row"]
 hand : Def K mg "hand_of" zl0 fH dH ["deed"]
def zd17 : RB:=fun as W k=>∃ (v : Nat) (b R : List za7) (vw : List Str),as = [.d (rP b),.o v] /\ W[v]? = some (.dK ((vw.map fun x=>(x,rP (viewOf x R))).map fun p=>(.inr p.1,.d p.2))) /\ vw.Nodup /\ (∀ d∈b,d.Ok) /\ Goes b /\ goF (zg2 b) R /\ (∀ d∈R,d.Ok) /\ (∀ d∈R,handOf d∈vw) /\ b.length + R.length <= 900 /\ vw.length <= 16 /\
 ∀ out,Lst (zg2 b) (fun x=>viewOf x R) out->k (.d (rP out)) W
abbrev nLb : List Str:=["begun", "views", "lines", "left", "row", "deed"]
theorem scLb : zb8 nLb ["begun", "views"] (za1 zi6):=⟨rfl,rfl,rfl,by decide +kernel,rfl,by decide +kernel,by decide +kernel⟩
theorem ndLb : nLb.Nodup:=by decide +kernel
def cLb1 : Scope:=match za9 zi6 with
 | [_,.Assign _ (.DictComp _ _ _ sc _) _,_,_,_]=>sc
 | _=>zN1
def cLb2 : Scope:=match za9 zi6 with
 | [_,_,_,.While _ [.Assign _ (.Call _ [.ListComp _ _ sc _] _ _) _,_,_,_] _ _,_]=>sc
 | _=>zN1
theorem zf29 : zb3 nLb (za1 zi6) ["hand", "deeds"] [] [] cLb1:=⟨rfl,by decide +kernel,by decide +kernel,by decide +kernel,rfl,by decide +kernel⟩
theorem zf30 : zb3 nLb (za1 zi6) ["deeds"] ["lines"] [2] cLb2:=⟨rfl,by decide +kernel,by decide +kernel,by decide +kernel,rfl,by decide +kernel⟩
theorem ze33 : (["hand", "deeds"] : List Str).Nodup:=by decide +kernel
theorem zf31 : (["deeds", "lines"] : List Str).Nodup:=by decide +kernel
theorem zb92 {α : Type} (a : α) (l : List α) : atI (a :: l) 0 = some a:=by simp [atI,ixN]
abbrev lsV (vw : List Str) (R : List za7) : Wl:=vw.map fun x=>OD.lst (zb4 ((viewOf x R).map dP))
theorem zS4 {vw : List Str} {i n : Nat} {x : Str} (h : vw[i]? = some x) : (vw.take (i + 1)).zipIdx n = (vw.take i).zipIdx n++[(x,n + i)]:=by
 have hi : i < vw.length:=(ay4.mp h).1;rw [fy5,h,List.zipIdx_append];simp [dy1,py1 (ky8 hi)]
theorem zi9 {vw : List Str} {n : Nat} {e : Str × Nat} (h : e∈vw.zipIdx n) : n <= e.2 /\ e.2 < n + vw.length /\ vw[e.2 - n]? = some e.1:=by
 obtain ⟨a,b⟩:=e;have:=List.mem_zipIdx_iff_le_and_getElem?_sub.mp h;exact ⟨this.1,by have:=(ay4.mp this.2).1; simp only; omega,this.2⟩
theorem four {Z ls : Wl} {a b : OD} : (∀ i,i < Z.length->(Z++ls++[a]++[b])[i]? = Z[i]?) /\ (∀ i,i < ls.length->(Z++ls++[a]++[b])[Z.length + i]? = ls[i]?) /\ (Z++ls++[a]++[b])[Z.length + ls.length]? = some a /\ (Z++ls++[a]++[b])[Z.length + ls.length + 1]? = some b:=by
 have e : Z++ls++[a]++[b] = Z++(ls++([a]++[b])):=by simp
 rw [e];refine ⟨fun i hi=>ay8 hi,fun i hi=>?_,?_,?_⟩
 ·rw [cy2 (by omega),my0,ay8 hi]
 ·rw [cy2 (by omega),my0,cy2 (ay6 _),Nat.sub_self];rfl
 ·rw [Nat.add_assoc,cy2 (by omega),my0,cy2 (by omega),my0];rfl
theorem LB.start {W Z : Wl} {m : Nat} {f : Wd} {L : List Ln} {vw : List Str} {R : List za7} (h : zo7 W W.length m f Z L) (nd : vw.Nodup) (hok : ∀ d∈R,d.Ok) (hin : ∀ d∈R,handOf d∈vw) :
  LB W (Z++lsV vw R++[.dK ((vw.zipIdx Z.length).map fun e=>(.inr e.1,El.o e.2))]++[.lst []]) W.length (Z.length + vw.length) (Z.length + vw.length + 1) m L (vw.zipIdx Z.length) f (fun x=>viewOf x R) []:=by
 have hlq : W.length < Z.length:=zd4 h.at_.at_;refine za0 fun gG=>?_;obtain ⟨f1,f2,f3,f4⟩:=@four Z (lsV vw R) (.dK ((vw.zipIdx Z.length).map fun e=>(.inr e.1,El.o e.2))) (.lst []);refine gG ?_;clear gG;have hls : (lsV vw R).length = vw.length:=ay3 _;rw [hls] at f2 f3 f4;have hln : ∀ l∈L,l.j < Z.length:=fun l hl=>zd4 (h.at_.obj l hl);refine ⟨⟨(f1 _ hlq).trans h.at_.at_,fun e he=>(f1 _ (hln e he)).trans (h.at_.obj e he),h.at_.nd,h.at_.nq⟩,h.ks,h.sm,h.fs,⟨f3,fun e he=>?_,?_,?_,fun e he=>?_,fun x hx=>?_,fun x d hd=>zJ5 hd,fun x d hd=>hok d (zu3 hd)⟩,f4,by omega,by omega,by omega,fun e he=>?_,fun l hl=>?_,ay6 _,by omega,by omega,fun e he=>?_,h.js,fun i hi=>?_,?_⟩
 ·refine za0 fun gG=>?_;obtain ⟨h1,h2,h3⟩:=zi9 he;refine gG ?_;clear gG;have:=f2 (e.2 - Z.length) (by omega);rw [show Z.length + (e.2 - Z.length) = e.2 by omega] at this;rw [this,by1,h3];rfl
 ·rw [wy7]; exact nd
 ·rw [List.zipIdx_map_snd]; exact List.nodup_range'
 ·obtain ⟨h1,h2,h3⟩:=zi9 he; omega
 ·rw [wy7] at hx;exact zk5 fun d hd z=>hx (z ▸ hin d hd)
 ·obtain ⟨h1,h2,h3⟩:=zi9 he; omega
 ·have:=hln l hl;exact ⟨by omega,by omega,fun e he=>by obtain ⟨h1,_,_⟩:=zi9 he; omega⟩
 ·obtain ⟨h1,h2,h3⟩:=zi9 he; omega
 ·exact (f1 i (by omega)).trans (h.old i hi (by omega))
 ·simp only [cy5]; omega
section
variable {P : cy7} {w : World} {K : ay5} {mg : Str->Option Value} {base : Heap} {kA : Addr}
abbrev sLb (b : List za7) (v : Nat) (W : Wl) (p : Nat) (r : Nat) (dd : Option El) : Sl:=[some (.d (rP b)),some (.o v),some (.o W.length),some (.o p),some (.o r),dd]
abbrev iLb (b R0 : List za7) (v p r : Nat) (ks : List (Str × Nat)) (W : Wl) : Sl->Wl->Prop:=fun S' W'=>∃ (dd : Option El) (L : List Ln) (row R : List za7) (f : Wd) (V : Str->List za7),S' = sLb b v W p r dd /\ LB W W' W.length p r (b.length + row.length) L ks f V row /\ goF f R /\ (∀ x,viewOf x R = V x) /\ R.length + row.length = R0.length /\ ∀ out,Lst f V out->Lst (zg2 b) (fun x=>viewOf x R0) (row++out)
def lenO : Option OD->Nat
 | some (.lst es)=>es.length
 | _=>0
def muLb (R0 : List za7) (r : Nat) (_ : Sl) (W' : Wl) : Nat:=R0.length + 1 - lenO W'[r]?
set_option maxHeartbeats 1000000 in
theorem zb01 {f fN fD fC fO fB fH : Addr} {fd dN dD dC dO dB dH : ey7} (F : Fun K "least_behind" "least_behind" zi6 f fd) (T : zX7 K mg kA) (D : zd16 K mg fN fD fC fO fB fH dN dD dC dO dB dH) : zj0 P w K mg base CX0 4 f fd ["begun", "views"] (spB K zd17):=by
 have NC:=@zc28 P w K mg base kA _ _ D.can.fn T;have NO:=@ze21 P w K mg base kA _ _ D.do_.fn T;have NB:=@zI8 P w K mg base kA _ _ _ _ _ _ _ _ _ _ D.beh.fn T D.name D.deed D.can D.do_;have NH:=@zJ0 P w K mg base _ _ D.hand.fn;refine zo8 F scLb (fun as W k hR=>by obtain ⟨v,b,R,vw,e,_⟩:=hR; subst e; rfl) fun cc hr as W k hcl hR=>?_;refine exE4 hR fun v b R0 vw qA=>?_;clear hR;refine ze55 qA fun e hv nd hbo hgb hg0 hok hin hlen hvl hk=>?_;clear qA;subst e;have hvW:=zd4 hv;refine za4 (zc0 (i:=2) ndLb rfl (Or.inr rfl) (za6 NB (hr.mono (by decide)) rfl D.beh.at_ D.beh.fn.kp D.beh.bd (za2 (bv 0 rfl ⟨b,rfl,hbo,by omega,hgb,fun U L0 hL0 _=>?_⟩))));obtain ⟨Z,hZ⟩ : ∃ Z,Z = W++U:=⟨_,rfl⟩
 rw [<- hZ] at hL0 ⊢;have hWZ : W.length <= Z.length:=by rw [hZ]; simp
 have hvZ : Z[v]? = some (.dK ((vw.map fun x=>(x,rP (viewOf x R0))).map fun p=>(.inr p.1,.d p.2))):=by rw [hZ,ay8 hvW]; exact hv
 refine za4 (za93 (j:=v) (mb:=W.length) hvZ (ay6 _) hvW hWZ fun ob=>zb90 (i:=3) ndLb rfl (Or.inl rfl) rfl zf29 (bv 1 rfl ⟨v,ob,_,rfl,zd8 hvZ,fun i kvs W'=>W' = Z.set v (.fK ob ((vw.map fun x=>(x,rP (viewOf x R0))).map fun p=>(.inr p.1,.d p.2)))++lsV (vw.take i) R0 /\ kvs = ((vw.take i).zipIdx Z.length).map fun e=>(.inr e.1,El.o e.2),⟨by simp,rfl⟩,?_,?_,?_⟩))
 ·intro i kvs W' hi gX;refine za0 fun gG=>?_;obtain ⟨rfl,rfl⟩:=gX;refine gG ?_;clear gG;refine ⟨?_,?_⟩
  ·rw [ay8 (by rw [ly6]; omega)];exact zd8 hvZ
  ·rw [ay3,List.length_zipIdx,dy1];exact ly7 (show _ <= 16 by omega) (by6 (show 16 < 17 by decide) (zb6 (by decide)))
 ·intro i p kvs W' hp gX;refine za0 fun gG=>?_;obtain ⟨rfl,rfl⟩:=gX;rw [by1] at hp;obtain ⟨x,hx,rfl⟩:=fy7.mp hp;refine gG ?_;clear gG;have hil:=(ay4.mp hx).1;refine zc73 rfl (fun _ _ _ _ _=>.cons (i:=0) ze33 rfl (Or.inl rfl) (.cons (i:=1) ze33 rfl (Or.inl rfl) .nil)) (by decide) rfl fun cl C ex s H=>?_;refine bv 0 rfl ⟨x,rfl,fun cl C ex s H=>zg3 rfl T.t.list_ za64 (za2 (bv 1 rfl (zK7 ⟨?_,?_⟩)))⟩
  ·rw [fy5,hx];simp [lsV]
  ·rw [zE2,zS4 hx,gy1]
   ·simp only [cy5,ly6,ay3,dy1,py1 (ky8 hil)];rfl
   ·intro p hp z;refine za0 fun gG=>?_;obtain ⟨e,he,rfl⟩:=cy3.mp hp;obtain ⟨h1,h2,h3⟩:=zi9 he;have z : e.1 = x:=ty7 z;rw [z] at h3;have h4:=ay4.mp h3;obtain ⟨l4,e4⟩:=h4;rw [List.getElem_take] at e4;obtain ⟨l5,e5⟩:=ay4.mp hx;refine gG ?_;clear gG;have:=(iy4 nd).mp (e4.trans e5.symm);rw [dy1] at l4;omega
 ·intro kvs W' gX;refine za0 fun gG=>?_;obtain ⟨rfl,rfl⟩:=gX;refine gG ?_;clear gG;rw [ay3,hy5]
  have eZ : (Z.set v (.fK ob ((vw.map fun x=>(x,rP (viewOf x R0))).map fun p=>(.inr p.1,.d p.2)))++lsV vw R0++[OD.dK ((vw.zipIdx Z.length).map fun e=>(.inr e.1,El.o e.2))]).set v (.dK ((vw.map fun x=>(x,rP (viewOf x R0))).map fun p=>(.inr p.1,.d p.2))) = Z++lsV vw R0++[OD.dK ((vw.zipIdx Z.length).map fun e=>(.inr e.1,El.o e.2))]:=by
   rw [iy7,vy6 _ _ (by rw [ly6]; omega),zu2 hvZ,iy7]
  refine ⟨?_,?_⟩
  ·rw [iy7,ay8 (by rw [ly6]; omega)];exact zd8 hvZ
  rw [eZ];have e1 : (Z.set v (.fK ob ((vw.map fun x=>(x,rP (viewOf x R0))).map fun p=>(.inr p.1,.d p.2)))++lsV vw R0).length = Z.length + vw.length:=by simp
  have e2 : (Z++lsV vw R0++[OD.dK ((vw.zipIdx Z.length).map fun e=>(.inr e.1,El.o e.2))]).length = Z.length + vw.length + 1:=by simp; omega
  rw [e1];refine za4 (zc0 (i:=4) ndLb rfl (Or.inl rfl) (zq8 (zk0 ⟨dy9 _,?_⟩)));rw [e2];have st:=LB.start hL0 nd hok hin;generalize Z++lsV vw R0++[OD.dK ((vw.zipIdx Z.length).map fun e=>(.inr e.1,El.o e.2))]++[OD.lst []] = W1 at st ⊢;obtain ⟨ks,hks⟩ : ∃ ks,ks = vw.zipIdx Z.length:=⟨_,rfl⟩
  have hkl : ks.length <= 16:=by rw [hks,List.length_zipIdx]; exact hvl
  rw [<- hks] at st;generalize hp : Z.length + vw.length = p at st ⊢;generalize hrr : p + 1 = r at st ⊢;clear e1 e2 eZ;refine za4 (zb38 (iLb b R0 v p r ks W) (muLb R0 r) ly9 ⟨none,L0,[],R0,zg2 b,fun x=>viewOf x R0,rfl,st,hg0,fun _=>rfl,by simp,fun out h=>h⟩ ?_);intro S' W' gX;refine exE6 gX fun dd L row R f' V qA=>?_;clear gX;refine anE6 qA fun qe0 lb hg hV hRl hL=>?_;clear qA;subst qe0;refine zf9 (za92 lb.lf.at_ fun o=>zd15 rfl rfl T.t.any_ zf00 (bv 3 rfl ⟨p,o,_,ks.map fun e=>!(V e.1).isEmpty,rfl,zd8 lb.lf.at_,?_,zd8 lb.lf.at_,_,rfl,?_⟩))
  ·have : ∀ l : List (Str × Nat),(∀ e∈l,e∈ks)->Paired (fun (e : Key × El) (b : Bool)=>∃ i es,e.2 = .o i /\ (W'.set p (.fK o (ks.map fun e=>(.inr e.1,El.o e.2))))[i]? = some (.lst es) /\ b = !es.isEmpty) (l.map fun e=>(.inr e.1,El.o e.2)) (l.map fun e=>!(V e.1).isEmpty):=by
    intro l
    induction l with
    | nil=>intro _; exact .nil
    | cons e l ih =>
     intro hl;refine .cons ⟨e.2,_,rfl,get_set (lb.lf.obj e (hl e ay9)) (fy2 (lb.lf.np e (hl e ay9))),?_⟩ (ih fun z hz=>hl z (by0 _ hz));show (!(V e.1).isEmpty) = _;cases V e.1 <;> rfl
   exact this ks fun _ h=>h
  rw [zu2 lb.lf.at_];cases hany : (ks.map fun e=>!(V e.1).isEmpty).any id with
  | false =>
   refine zl6 ?_
   have hnil : ∀ x,V x = []:=fun x=>by
    cases hx : V x with
    | nil=>rfl
    | cons d vs =>
     refine za0 fun gG=>?_;obtain ⟨e,he,rfl⟩:=lb.lf.at hx;refine gG ?_;clear gG;have:=List.any_eq_false.mp hany (!(V e.1).isEmpty) (cy3.mpr ⟨e,he,rfl⟩);rw [hx] at this;exact absurd rfl this
   have hout:=hL [] (.nil hnil);rw [ny4] at hout;refine za0 fun gG=>?_;obtain ⟨U',rfl⟩:=lb.app;refine gG ?_;clear gG;exact zb0 (zg4 (zg3 rfl T.t.tuple_ zl2 (za2 (bv 4 rfl (zr0 (.inr ⟨_,rfl,lb.rw_⟩) ⟨_,W,U',rfl,rfl,rfl,hcl,hk row hout⟩)))))
  | true =>
   refine zl9 ?_
   have hRne : R ≠ []:=fun z=>by
    subst z;refine za0 fun gG=>?_;obtain ⟨b',hb',hb2⟩:=wy2.mp hany;obtain ⟨e,he,rfl⟩:=cy3.mp hb';refine gG ?_;clear gG;rw [<- hV e.1] at hb2;simp [viewOf] at hb2
   have hrl : row.length < R0.length:=by
    have:=List.length_pos_iff.mpr hRne;omega
   refine za4 (zc0 (i:=5) ndLb rfl (Or.inl rfl) (za92 lb.lf.at_ fun o=>zb9 rfl T.t.min_ zf01 (za2 (zb89 rfl zf30 (zb87 (bv 3 rfl ⟨p,o,_,rfl,zd8 lb.lf.at_,?_⟩))))));rw [ey6];refine zO3 _ (fun e=>zj7 f' V e.1) (fun e=>dP (hdV V e.1)) (zd8 lb.lf.at_) (zb6 (by omega)) ?_ ?_
   ·intro e he;have hob:=get_set (o':=.fK o (ks.map fun e=>(.inr e.1,El.o e.2))) (lb.lf.obj e he) (fy2 (lb.lf.np e he));refine ze2 (i:=0) zf31 rfl (by decide) (fun _ _ _ _ _=>Or.inl rfl) (fun _ _ _ _ _=>rfl) ?_;cases hve : V e.1 with
    | nil =>
     have hfr : zj7 f' V e.1 = false:=by unfold zj7; rw [hve]; rfl
     rw [hve] at hob;refine ⟨fun cl C ex s H=>BW.bt (zv6 (zc16 (bv 0 rfl ⟨.list [],.inr ⟨_,rfl,.inr ⟨_,rfl,hob⟩⟩,(by intro y h; cases h),?_⟩))),fun h=>?_⟩
     ·exact zl6 ⟨hfr.symm,rfl⟩
     ·rw [hfr] at h; cases h
    | cons d vs =>
     have hhd : hdV V e.1 = d:=by unfold hdV; rw [hve]; rfl
     have hfr : zj7 f' V e.1 = zn1 f' d:=by unfold zj7; rw [hhd,hve]; rfl
     rw [hve] at hob;have hdok : d.Ok:=lb.lf.ok e.1 d (by rw [hve]; exact ay9);refine ⟨fun cl C ex s H=>BW.bt (zv6 (zc16 (bv 0 rfl ⟨.list ((d :: vs).map dP),.inr ⟨_,rfl,.inr ⟨_,rfl,hob⟩⟩,(by intro y h; cases h),?_⟩))),fun h cl C ex s H=>?_⟩
     ·refine zl9 (zv5 (zf9 (za6 NC (hr.mono (by decide)) rfl D.can.at_ D.can.fn.kp D.can.bd (za3 (bv 1 rfl (za2 (zd9 (by intro _ _; rfl) (bv 0 rfl (zb1 (zs5 (e:=.d (dP d)) hob (zb92 _ _) ⟨W.length,d,L,rfl,hdok,lb.la.set lb.pq (fun l hl=>(lb.lj l hl).1) _,lb.sm.sok,_,rfl,?_,rfl⟩))))))))));rw [lb.fs,hfr];rfl
     ·refine zd9 (by intro _ _; rfl) (bv 0 rfl (zb1 (zs5 (e:=.d (dP d)) hob (zb92 _ _) ⟨?_,rfl⟩)));rw [hhd]
   ·have hne : ks.filter (fun e=>zj7 f' V e.1) ≠ []:=by
     refine za0 fun gG=>?_;obtain ⟨d,vs,h1,h2⟩:=zJ4 hg hV hRne;obtain ⟨e,he,hex⟩:=lb.lf.at h1;refine gG ?_;clear gG;refine List.ne_nil_of_mem (a:=e) (gy4.mpr ⟨he,?_⟩);refine zh3.mpr ⟨vs,?_,?_⟩
     ·unfold hdV; rw [hex,h1]; rfl
     ·unfold hdV; rw [hex,h1]; exact h2
    refine zd12 rfl hr.units (m:=4) (fun e=>zE7 (hdV V e.1)) (fun e=>dP (hdV V e.1)) (fun a _=>rfl) (.inl rfl) (zb00 (·.1) lb.lf.hand ks lb.lf.nd) hne (fun _ _=>rfl) fun a ha hmin=>⟨zd8 lb.lf.at_,?_⟩
    rw [zu2 lb.lf.at_];refine za0 fun gG=>?_;obtain ⟨ha1,ha2⟩:=gy4.mp ha;obtain ⟨vs,hva,hca⟩:=zh3.mp ha2;refine gG ?_;clear gG;generalize hd : hdV V a.1 = d at hva hca hmin ⊢;have hhand : handOf d = a.1:=lb.lf.hand a.1 d (by rw [hva]; exact ay9);have hdok : d.Ok:=lb.lf.ok a.1 d (by rw [hva]; exact ay9);refine za4 (ze9 (za6 NO (hr.mono (by decide)) rfl D.do_.at_ D.do_.fn.kp D.do_.bd (za3 (bv 2 rfl (za2 (bv 5 rfl ⟨W.length,d,L,b.length + row.length,rfl,hdok,lb.la,lb.kn,lb.sm,by omega,fun ht=>by rw [lb.fs]; exact zc29 hca ht,fun W2 L2 a1 b1 c1 st1 fr nj=>?_⟩))))));have lb2:=lb.step a1 b1 c1 st1 fr nj;have hob2 : W2[a.2]? = some (.lst (.d (dP d) :: zb4 (vs.map dP))):=by rw [lb2.lf.obj a ha1,hva]; rfl
    refine za4 (ze9 (zn3 fy9 PySem.F.slot_list_pop PySem.F.type_list_pop (zd9 (by intro _ _; rfl) (bv 3 rfl (za6 NH (hr.mono (by decide)) rfl D.hand.at_ D.hand.fn.kp D.hand.bd (za2 (bv 5 rfl ⟨d,rfl,ze01 (e:=.o a.2) hr.units lb2.lf.at_ ?_ ⟨.inl ⟨rfl,_,hob2⟩,za2 (zb1 (zK8 hob2 ?_))⟩⟩)))))))
    ·rw [hhand]; exact zE1 (g:=El.o) lb2.lf.nd ha1
    have lb3:=lb2.pop ha1 hva;refine zb0 (ze9 (zn3 fy9 iy1 iy2 (bv 4 rfl ⟨.inl ⟨rfl,_,lb3.rw_⟩,za2 (bv 5 rfl (zh0 lb3.rw_ ?_ ?_))⟩)))
    ·simp only [zb4,ay3];exact ly7 (show _ <= 900 by omega) (by6 (show 900 < 901 by decide) (zb6 (by decide)))
    have lb4:=lb3.push d;obtain ⟨R',g1,g2,g3⟩:=zJ3 hg hV (by rw [hhand]; exact hva) hca;refine ⟨⟨_,L2,row++[d],R',zd6 f' d,zr7 V a.1 vs,rfl,?_,g1,?_,?_,fun out ho=>?_⟩,?_⟩
    ·rw [cy5,<- Nat.add_assoc]; exact lb4
    ·intro x; rw [g2,hhand]
    ·rw [cy5]; simp only [ny5]; omega
    ·have:=hL (d :: out) (.cons (vs:=vs) (by rw [hhand]; exact hva) hca ?_ (by rw [hhand]; exact ho))
     ·rw [iy7]; exact this
     ·intro x e es hx hce hne';refine za0 fun gG=>?_;obtain ⟨c,hc,rfl⟩:=lb.lf.at hx;refine gG ?_;clear gG;have hhd : hdV V c.1 = e:=by unfold hdV; rw [hx]; rfl
      have:=hmin c (gy4.mpr ⟨hc,zh3.mpr ⟨es,by rw [hhd]; exact hx,by rw [hhd]; exact hce⟩⟩) (by rw [hhd]; exact fun z=>hne' (zE3 z));rw [hhd] at this;exact this
    ·unfold muLb;rw [lb4.rw_,lb.rw_];simp only [lenO,zb4,ay3,cy5,ny5];exact Nat.sub_lt_sub_left (ly1 hrl) (ky6 _)
end
end K1
namespace L2
open PySem PySem.Spec PyProof.Rows
section
variable {X : Bc} {n : Nat} {S : Sl} {W : Wl} {D : DB}
theorem zd18 {body : List Stmt} {hd : ExceptHandler} {pos : Pos} (h : ∀ (X' : Bc) pn F A,X' = ⟨X.toCx.tryB pn (fun _ _=>False),F,A,fun _ _ _=>False⟩->BSs X' n S W body D) : BS X n S W (.Try body [hd] [] [] pos) D:=by
 intro pins s σ H E I ⟨F,A,hn,x0,r,sr,q⟩;have htl : (A.take n).length = n:=by rw [dy1]; omega
 refine wpAny_Try_except ?_;have hb:=h ⟨X.toCx.tryB (X.pn++pins) (fun _ _=>False),F,A.take n,fun _ _ _=>False⟩ (X.pn++pins) F (A.take n) rfl;refine fy6 (hb [] s σ H E I.tryB ⟨F,A,hn,⟨⟨.refl _,sy7 _ _⟩,by rw [htl]; exact ay6 _⟩,r,sr,q⟩) (fun f s1 hf=>?_) (fun e s1 hf=>hf.elim);have hf1 : SP X pins E f s1:=SP.zt0 (xe:=fun _ _=>False) hf;cases f with
 | next=>exact wpAny_execs_nil hf1
 | brk=>exact hf1
 | cont=>exact hf1
 | ret v=>exact hf1
end
end L2
namespace K1
open PySem L2
theorem zu4 {d : za7} {ds : List za7} (h : d∈ds) : handOf d∈zN7 ds:=by
 unfold zN7;refine sy8.mpr ⟨d,h,?_⟩;unfold handOf
 split <;> simp
theorem zE5 {hs : List Str} {ds : List za7} (h : ze7 hs ds) (x : Str) : ∀ d∈viewOf x ds,d.Ok:=fun d hd=>h.ok d (zu3 hd)
def Beg (a b : List za7) : Prop:=∀ x,(viewOf x b).take (viewOf x a).length = viewOf x a
structure Left (a b R : List za7) : Prop where
 go : goF (zg2 a) R
 view : ∀ x,viewOf x b = viewOf x a++viewOf x R
 len : a.length + R.length = b.length
 sub : ∀ d∈R,d∈b
theorem zS5 : ∀ (a b : List za7) (f : Wd),goF f a->goF f b->(∀ x,∃ t,viewOf x b = viewOf x a++t)->∃ R,goF (a.foldl zd6 f) R /\ (∀ x,viewOf x b = viewOf x a++viewOf x R) /\ a.length + R.length = b.length /\ ∀ d∈R,d∈b
 | [],b,f,_,hb,_=>⟨b,hb,fun x=>rfl,by simp,fun d h=>h⟩
 | d :: a,b,f,ha,hb,hp=>by
  refine za0 fun gG=>?_;obtain ⟨t,ht⟩:=hp (handOf d);rw [zf6,if_pos rfl] at ht;obtain ⟨B,C,rfl,hB⟩:=zD9 ht;have hg:=zx9 B ha.1 hB hb
  have key : ∀ x,viewOf x (B++d :: C) = viewOf x (d :: (B++C)):=fun x=>by
   rw [zj6,zf6,zf6,zj6]
   by_cases e : handOf d = x
   ·rw [if_pos e,if_pos e,zk5 (fun b hb=>by rw [<- e]; exact hB b hb)];rfl
   ·rw [if_neg e,if_neg e]
  obtain ⟨R,h1,h2,h3,h4⟩:=zS5 a (B++C) (zd6 f d) ha.2 hg.2 fun x=>by
   obtain ⟨t,ht⟩:=hp x;rw [key,zf6,zf6] at ht
   by_cases e : handOf d = x
   ·rw [if_pos e,if_pos e] at ht;injection ht with _ ht
    exact ⟨t,ht⟩
   ·rw [if_neg e,if_neg e] at ht;exact ⟨t,ht⟩
  refine gG ?_;clear gG;refine ⟨R,h1,fun x=>?_,?_,fun z hz=>?_⟩
  ·rw [key,zf6,zf6,h2]
   by_cases e : handOf d = x
   ·rw [if_pos e,if_pos e]; rfl
   ·rw [if_neg e,if_neg e]
  ·simp at h3 ⊢; omega
  ·have:=h4 z hz;simp at this ⊢;rcases this with h | h
   ·exact .inl h
   ·exact .inr (.inr h)
theorem zS6 {a b : List za7} (ha : Goes a) (hb : Goes b) (h : Beg a b) : ∃ R,Left a b R:=by
 have hp : ∀ x,∃ t,viewOf x b = viewOf x a++t:=fun x=>by
  have:=uy8 (viewOf x a).length (viewOf x b);rw [h x] at this;exact ⟨_,this.symm⟩
 refine za0 fun gG=>?_;obtain ⟨R,h1,h2,h3,h4⟩:=zS5 a b _ ((zq3 a).mp ha) ((zq3 b).mp hb) hp;refine gG ?_;clear gG;exact ⟨R,h1,h2,h3,h4⟩
theorem Left.drop {a b R : List za7} (h : Left a b R) (x : Str) : (viewOf x b).take (viewOf x a).length = viewOf x a /\ (viewOf x b).drop (viewOf x a).length = viewOf x R:=by
 rw [h.view x];exact ⟨vy8,List.drop_left⟩
theorem zb02 {a b : List za7} {ss : List Str} (h : ∀ d∈a,handOf d∈ss) : Beg a b ↔ ∀ x∈ss,(viewOf x b).take (viewOf x a).length = viewOf x a:=by
 refine ⟨fun z x _=>z x,fun z x=>?_⟩
 by_cases hx : x∈ss
 ·exact z x hx
 ·have : viewOf x a = []:=zk5 fun d hd e=>hx (e ▸ h d hd);rw [this]; rfl
section
variable {P : cy7} {w : World} {K : ay5} {mg : Str->Option Value} {base : Heap} {kA : Addr}
def ze34 : RB:=fun as W k=>∃ ds : List za7,as = [.d (rP ds)] /\ (∀ d∈ds,d.Ok) /\ ds.length <= 900 /\ Goes ds /\ k (.d (.bool true)) W
theorem scCg : zb8 ["thing"] ["thing"] (za1 zx0):=⟨rfl,rfl,rfl,by decide +kernel,rfl,by decide +kernel,by decide +kernel⟩
theorem zb93 {f fN fD fC fO fB fH : Addr} {fd dN dD dC dO dB dH : ey7} (F : Fun K "can_go" "can_go" zx0 f fd) (T : zX7 K mg kA) (D : zd16 K mg fN fD fC fO fB fH dN dD dC dO dB dH) : zj0 P w K mg base CX0 4 f fd ["thing"] (spB K ze34):=by
 have N:=@zI8 P w K mg base kA _ _ _ _ _ _ _ _ _ _ D.beh.fn T D.name D.deed D.can D.do_;refine zo8 F scCg (fun as W k hR=>by obtain ⟨ds,e,_⟩:=hR; subst e; rfl) fun cc hr as W k hcl hR=>?_;refine za0 fun gG=>?_;obtain ⟨ds,e,hok,hl,hgo,hk⟩:=hR;subst e;refine gG ?_;clear gG;refine za4 (zd18 fun X' pn F1 A1 eX=>?_);subst eX;refine zb0 (ze9 (za6 N (hr.mono (by decide)) rfl D.beh.at_ D.beh.fn.kp D.beh.bd (za2 (bv 0 rfl ⟨ds,rfl,hok,hl,hgo,fun V L0 hL0 _=>?_⟩))));exact zb0 (zg4 (zp1 ⟨_,W,V,rfl,rfl,rfl,hcl,hk⟩))
def zf32 : RB:=fun as W k=>∃ (hs : List Str) (a b : List za7) (x : Str),as = [.d (rP a),.d (rP b),.d (.str x)] /\ ze7 hs a /\ ze7 hs b /\ a.length <= 400 /\ b.length <= 400 /\ ((viewOf x b).take (viewOf x a).length = viewOf x a->k (.d (rP ((viewOf x b).drop (viewOf x a).length))) W) /\ ((viewOf x b).take (viewOf x a).length ≠ viewOf x a->k (.d .none) W)
abbrev pLo : List Str:=["row", "other", "hand"]
abbrev nLo : List Str:=["row", "other", "hand", "begun", "whole"]
theorem scLo : zb8 nLo pLo (za1 zM7):=⟨rfl,rfl,rfl,by decide +kernel,rfl,by decide +kernel,by decide +kernel⟩
theorem ndLo : nLo.Nodup:=by decide +kernel
theorem zb03 {f fV fH : Addr} {fd dV dH : ey7} (F : Fun K "left_of" "left_of" zM7 f fd) (T : Txt mg) (DV : Def K mg "view" zy4 fV dV nVi) (DH : Def K mg "hand_of" zl0 fH dH ["deed"]) : zj0 P w K mg base CX0 3 f fd pLo (spB K zf32):=by
 have NV:=@zd08 P w K mg base _ _ _ _ DV.fn T DH;refine zo8 F scLo (fun as W k hR=>by obtain ⟨hs,a,b,x,e,_⟩:=hR; subst e; rfl) fun cc hr as W k hcl hR=>?_;refine exE4 hR fun hs a b x qA=>?_;clear hR;refine anE7 qA fun e ha hb hal hbl hk1 hk2=>?_;clear qA;subst e;refine za4 (zc0 (i:=3) ndLo rfl (Or.inl rfl) (za6 NV (hr.mono (by decide)) rfl DV.at_ DV.fn.kp DV.bd (za3 (bv 0 rfl (za2 (bv 2 rfl ⟨x,a,rfl,by omega,?_⟩))))));refine za4 (zc0 (i:=4) ndLo rfl (Or.inl rfl) (za6 NV (hr.mono (by decide)) rfl DV.at_ DV.fn.kp DV.bd (za3 (bv 1 rfl (za2 (bv 2 rfl ⟨x,b,rfl,by omega,?_⟩))))));have e1 : ((viewOf x b).map dP).take ((viewOf x a).map dP).length = ((viewOf x b).take (viewOf x a).length).map dP:=by rw [ay3,qy2]
 have e2 : ((viewOf x b).map dP).drop ((viewOf x a).map dP).length = ((viewOf x b).drop (viewOf x a).length).map dP:=by rw [ay3,List.map_drop]
 refine za4 (zi4 (ze0 rfl (zc8 (bv 4 rfl (ze4 (zd0 (zb9 rfl T.len_ zl5 (za2 (bv 3 rfl (zh4 ⟨_,rfl,zn5 (bv 3 rfl ?_)⟩))))))))));rw [zm4,e1];refine zT7 hr.units (d:=rP ((viewOf x b).take (viewOf x a).length)) (e:=rP (viewOf x a)) (.inl rfl) (.inl rfl) (zU1 fun d hd=>zE5 hb x d (hy4 hd)) (zU1 (zE5 ha x)) ⟨_,rfl,?_⟩;rw [zc74]
 by_cases h : (viewOf x b).take (viewOf x a).length = viewOf x a
 ·rw [decide_eq_true h];refine zl6 (zh1 (zb0 (zd3 (zc8 (bv 4 rfl (zd0 (zb9 rfl T.len_ zl5 (za2 (bv 3 rfl (zh4 ⟨_,rfl,ze4 (zn5 ?_)⟩))))))))));rw [zk8,e2];exact hk1 h
 ·rw [decide_eq_false h];exact zl9 (zb0 (zd3 (zG4 (hk2 h))))
end
structure zb94 (K : ay5) (mg : Str->Option Value) (fN fD fC fO fB fH fS fV fL fG fF : Addr) (dN dD dC dO dB dH dS dV dL dG dF : ey7) : Prop where
 b : zd16 K mg fN fD fC fO fB fH dN dD dC dO dB dH
 s : Def K mg "hands_of" zh8 fS dS ["row"]
 v : Def K mg "view" zy4 fV dV nVi
 l : Def K mg "least_behind" zi6 fL dL ["begun", "views"]
 g : Def K mg "can_go" zx0 fG dG ["thing"]
 f : Def K mg "left_of" zM7 fF dF pLo
section
variable {P : cy7} {w : World} {K : ay5} {mg : Str->Option Value} {base : Heap} {kA : Addr}
def rBeg : RB:=fun as W k=>∃ (hs : List Str) (a b : List za7),as = [.d (rP a),.d (rP b)] /\ ze7 hs a /\ ze7 hs b /\ hs.length <= 8 /\ a.length <= 400 /\ b.length <= 400 /\ Goes a /\ Goes b /\ ∀ c : Bool,(c = true ↔ Beg a b)->k (.d (.bool c)) W
abbrev pBg : List Str:=["row", "other"]
theorem scBg : zb8 pBg pBg (za1 ze1):=⟨rfl,rfl,rfl,by decide +kernel,rfl,by decide +kernel,by decide +kernel⟩
def cBg : Scope:=match za9 ze1 with
 | [_,.Return (some (.Call _ [.ListComp _ _ sc _] _ _)) _]=>sc
 | _=>zN1
theorem csBg : zb3 pBg (za1 ze1) ["hand"] ["other", "row"] [1,0] cBg:=⟨rfl,by decide +kernel,by decide +kernel,by decide +kernel,rfl,by decide +kernel⟩
theorem ndBg : (["hand", "other", "row"] : List Str).Nodup:=by decide +kernel
def begD (a b : List za7) : PyData->PyData
 | .str x=>.bool (decide ((viewOf x b).take (viewOf x a).length = viewOf x a))
 | d=>d
set_option maxHeartbeats 1000000 in
theorem zc31 {f fN fD fC fO fB fH fS fV fL fG fF : Addr} {fd dN dD dC dO dB dH dS dV dL dG dF : ey7} (F : Fun K "is_beginning" "is_beginning" ze1 f fd) (T : zX7 K mg kA) (D : zb94 K mg fN fD fC fO fB fH fS fV fL fG fF dN dD dC dO dB dH dS dV dL dG dF) : zj0 P w K mg base CX0 5 f fd pBg (spB K rBeg):=by
 have NG:=@zb93 P w K mg base kA _ _ _ _ _ _ _ _ _ _ _ _ _ _ D.g.fn T D.b;have NS:=@zz7 P w K mg base _ _ D.s.fn T.t;have NF:=@zb03 P w K mg base _ _ _ _ _ _ D.f.fn T.t D.v D.b.hand;refine zo8 F scBg (fun as W k hR=>by obtain ⟨hs,a,b,e,_⟩:=hR; subst e; rfl) fun cc hr as W k hcl hR=>?_;refine exE3 hR fun hs a b qA=>?_;clear hR;refine anE9 qA fun e ha hb hh hal hbl hga hgb hk=>?_;clear qA;subst e;obtain ⟨o1,o2⟩:=zm6 ha hh;refine za4 (zi4 (BW.bt (zG5 (zj1 (zf9 (za6 NG (hr.mono (by decide)) rfl D.g.at_ D.g.fn.kp D.g.bd (za2 (bv 0 rfl ⟨a,rfl,ha.ok,by omega,hga,_,rfl,zl6 (zs4 (zj1 (zf9 (za6 NG (hr.mono (by decide)) rfl D.g.at_ D.g.fn.kp D.g.bd (za2 (bv 1 rfl ⟨b,rfl,hb.ok,by omega,hgb,_,rfl,zl6 (zh1 ?_)⟩))))))⟩))))))));refine zb0 (zd3 (zb9 rfl T.t.all_ zc92 (za2 (zk7 rfl csBg (zs8 (za6 NS (hr.mono (by decide)) rfl D.s.at_ D.s.fn.kp D.s.bd (za2 (bv 0 rfl ⟨hs,a,rfl,ha,hh,by omega,fun ss pm so=>⟨ss.map .str,rfl,zz0 (begD a b) trivial ?_ ?_ ?_⟩⟩))))))))
 ·rw [ay3,pm.length_eq]; exact zb6 (by omega)
 ·intro z hz;refine za0 fun gG=>?_;obtain ⟨x,hx,rfl⟩:=cy3.mp hz;refine gG ?_;clear gG;refine ze2 (i:=0) ndBg rfl (by decide) (fun _ _ _ _ _=>Or.inl rfl) (fun _ _ _ _ _=>rfl) fun cl C ex s H=>?_;refine zs3 rfl (za6 NF (hr.mono (by decide)) rfl D.f.at_ D.f.fn.kp D.f.bd (za3 (bv 2 rfl (za3 (bv 1 rfl (za2 (bv 0 rfl ⟨hs,a,b,x,rfl,ha,hb,hal,hbl,fun h=>zG4 (za19 ⟨?_,rfl⟩),fun h=>zG4 (za19 ⟨?_,rfl⟩)⟩)))))))
  ·show El.d (.bool true) = .d (.bool (decide _));rw [decide_eq_true h]
  ·show El.d (.bool false) = .d (.bool (decide _));rw [decide_eq_false h]
 ·have e : (ss.map hy3).map (begD a b) = (ss.map fun x=>decide ((viewOf x b).take (viewOf x a).length = viewOf x a)).map .bool:=by rw [ey6,ey6]; rfl
  rw [e];refine za24 rfl (.inl rfl) (hk _ ?_);rw [zb02 (ss:=ss) fun d hd=>pm.mem_iff.mpr (zf3.mpr (zu4 hd)),List.all_map,List.all_eq_true];simp
def zf33 : RB:=fun as W k=>∃ (hs : List Str) (a b : List za7),as = [.d (rP a),.d (rP b)] /\ ze7 hs a /\ ze7 hs b /\ hs.length <= 8 /\ a.length <= 400 /\ b.length <= 400 /\ Goes a /\ Goes b /\ (¬ Beg a b->k (.d .none) W) /\ ∀ R,Left a b R->∀ out,Lst (zg2 a) (fun x=>viewOf x R) out->k (.d (rP out)) W
theorem scRs : zb8 pBg pBg (za1 zD4):=⟨rfl,rfl,rfl,by decide +kernel,rfl,by decide +kernel,by decide +kernel⟩
def cRs : Scope:=match za9 zD4 with
 | [_,.Return (some (.Call _ [_,.DictComp _ _ _ sc _] _ _)) _]=>sc
 | _=>zN1
theorem csRs : zb3 pBg (za1 zD4) ["hand"] ["other", "row"] [1,0] cRs:=⟨rfl,by decide +kernel,by decide +kernel,by decide +kernel,rfl,by decide +kernel⟩
set_option maxHeartbeats 1000000 in
theorem zd19 {f fN fD fC fO fB fH fS fV fL fG fF fI : Addr} {fd dN dD dC dO dB dH dS dV dL dG dF dI : ey7} (F : Fun K "rest" "rest" zD4 f fd) (T : zX7 K mg kA) (D : zb94 K mg fN fD fC fO fB fH fS fV fL fG fF dN dD dC dO dB dH dS dV dL dG dF) (DI : Def K mg "is_beginning" ze1 fI dI pBg) : zj0 P w K mg base CX0 6 f fd pBg (spB K zf33):=by
 have NS:=@zz7 P w K mg base _ _ D.s.fn T.t;have NF:=@zb03 P w K mg base _ _ _ _ _ _ D.f.fn T.t D.v D.b.hand;have NL:=zb01 (P:=P) (w:=w) (base:=base) D.l.fn T D.b;have NI:=zc31 (P:=P) (w:=w) (base:=base) DI.fn T D;refine zo8 F scRs (fun as W k hR=>by obtain ⟨hs,a,b,e,_⟩:=hR; subst e; rfl) fun cc hr as W k hcl hR=>?_;refine exE3 hR fun hs a b qA=>?_;clear hR;refine zd28 qA fun e ha hb hh hal hbl hga hgb hk1 hk2=>?_;clear qA;subst e;obtain ⟨o1,o2⟩:=zm6 hb hh;refine za4 (zi4 (zj1 (zf9 (za6 NI (hr.mono (by decide)) rfl DI.at_ DI.fn.kp DI.bd (za3 (bv 0 rfl (za2 (bv 1 rfl ⟨hs,a,b,rfl,ha,hb,hh,hal,hbl,hga,hgb,fun c hc=>⟨_,rfl,?_⟩⟩))))))));cases c with
 | false=>exact zl9 (zb0 (zd3 (zG4 (hk1 fun z=>by cases hc.mpr z))))
 | true =>
  obtain ⟨R,hR⟩:=zS6 hga hgb (hc.mp rfl);have hlen:=hR.len;refine zl6 (zh1 (zb0 (zg4 (za6 NL (hr.mono (by decide)) rfl D.l.at_ D.l.fn.kp D.l.bd (za3 (bv 0 rfl (za2 (zb82 rfl csRs (zs8 (za6 NS (hr.mono (by decide)) rfl D.s.at_ D.s.fn.kp D.s.bd (za2 (bv 1 rfl ⟨hs,b,rfl,hb,hh,by omega,fun ss pm so=>⟨ss.map .str,rfl,?_⟩⟩))))))))))));have hsl : ss.length <= 8:=by rw [pm.length_eq]; exact o1
  have hsn : ss.Nodup:=pm.nodup_iff.mpr (zn0 _);refine ⟨fun i kvs W'=>W' = W /\ kvs = ((ss.take i).map fun x=>(x,rP (viewOf x R))).map fun p=>(.inr p.1,.d p.2),⟨rfl,rfl⟩,?_,?_,?_⟩
  ·intro i kvs W' hi gX;refine za0 fun gG=>?_;obtain ⟨rfl,rfl⟩:=gX;refine gG ?_;clear gG;refine ⟨trivial,?_⟩;rw [ay3,ay3,dy1];exact ly7 (show _ <= 8 by omega) (by6 (show 8 < 9 by decide) (zb6 (by decide)))
  ·intro i z kvs W' hz gX;refine za0 fun gG=>?_;obtain ⟨rfl,rfl⟩:=gX;rw [by1] at hz;obtain ⟨x,hx,rfl⟩:=fy7.mp hz;obtain ⟨hd1,hd2⟩:=hR.drop x;refine gG ?_;clear gG;refine ze2 (i:=0) ndBg rfl (by decide) (fun _ _ _ _ _=>Or.inl rfl) (fun _ _ _ _ _=>rfl) fun cl C ex s H=>?_;refine bv 0 rfl ⟨x,rfl,fun cl C ex s H=>za6 NF (hr.mono (by decide)) rfl D.f.at_ D.f.fn.kp D.f.bd (za3 (bv 2 rfl (za3 (bv 1 rfl (za2 (bv 0 rfl ⟨hs,a,b,x,rfl,ha,hb,hal,hbl,fun _=>⟨rfl,?_⟩,fun h=>absurd hd1 h⟩))))))⟩;rw [hd2,zE2,fy5,hx]
   ·simp
   ·intro p hp z;refine za0 fun gG=>?_;obtain ⟨e,he,rfl⟩:=cy3.mp hp;obtain ⟨y,hy,rfl⟩:=cy3.mp he;have z : y = x:=ty7 z;obtain ⟨j,hj,hyj⟩:=vy5.mp hy;rw [List.getElem_take] at hyj;obtain ⟨l5,e5⟩:=ay4.mp hx;refine gG ?_;clear gG;have:=(iy4 hsn).mp ((hyj.trans z).trans e5.symm);rw [dy1] at hj;omega
  ·intro kvs W' gX;refine za0 fun gG=>?_;obtain ⟨rfl,rfl⟩:=gX;refine gG ?_;clear gG;rw [ay3,hy5];refine ⟨W'.length,a,R,ss,rfl,zd7,hsn,ha.ok,hga,hR.go,fun d hd=>hb.ok d (hR.sub d hd),fun d hd=>pm.mem_iff.mpr (zf3.mpr (zu4 (hR.sub d hd))),by omega,by omega,fun out ho=>⟨_,W',[_],rfl,rfl,rfl,hcl,hk2 R hR out ho⟩⟩
end
theorem zb95 {ds : List za7} (h : ∀ d∈ds,d.Ok) : Dat (.list (ds.map dP)):=by
 obtain ⟨h1,h2⟩:=za33 h;constructor
 ·simp [qy8,h1]
 ·simp only [PyData.depth];omega
theorem zE6 {ds : List za7} {d : za7} (h : Goes ds) : Goes (ds++[d]) ↔ zn1 (zg2 ds) d = true:=by
 rw [zq3,zN9];constructor
 ·rintro ⟨_,h2,_⟩; exact h2
 ·exact fun h2=>⟨(zq3 ds).mp h,h2,trivial⟩
structure LL (W0 W : Wl) (p fo : Nat) (ks : List (Str × Nat)) (V : Str->List za7) (found : List za7) : Prop where
 lf : zn8 W p ks V
 fo_ : W[fo]? = some (.lst (zb4 (found.map dP)))
 pf : p ≠ fo
 kf : ∀ e∈ks,e.2 ≠ fo
 hp : W0.length <= p
 hf : W0.length <= fo
 hk : ∀ e∈ks,W0.length <= e.2
 old : ∀ i,i < W0.length->W[i]? = W0[i]?
 le : W0.length <= W.length
section
variable {W0 W W' : Wl} {p fo : Nat} {ks : List (Str × Nat)} {V : Str->List za7} {found : List za7}
theorem LL.grow (h : LL W0 W p fo ks V found) (U : Wl) : LL W0 (W++U) p fo ks V found:=by
 have g : ∀ {i : Nat},i < W.length->(W++U)[i]? = W[i]?:=fun hi=>ay8 hi;exact ⟨h.lf.frame (g (zd4 h.lf.at_)) fun e he=>g (zd4 (h.lf.obj e he)),(g (zd4 h.fo_)).trans h.fo_,h.pf,h.kf,h.hp,h.hf,h.hk,fun i hi=>(g (by6 hi h.le)).trans (h.old i hi),ey1 h.le (by simp)⟩
theorem LL.pop (h : LL W0 W p fo ks V found) {e : Str × Nat} {d : za7} {vs : List za7} (he : e∈ks) (hv : V e.1 = d :: vs) : LL W0 (W.set e.2 (.lst (zb4 (vs.map dP)))) p fo ks (zr7 V e.1 vs) found :=
 ⟨h.lf.pop he hv,get_set h.fo_ (h.kf e he),h.pf,h.kf,h.hp,h.hf,h.hk,zE4 h.old (h.hk e he),by rw [ly6]; exact h.le⟩
theorem LL.push (h : LL W0 W p fo ks V found) (d : za7) : LL W0 (W.set fo (.lst (zb4 (found.map dP)++[.d (dP d)]))) p fo ks V (found++[d]) :=
 ⟨h.lf.frame (by rw [cy6 (fy2 h.pf)]) (fun e he=>by rw [cy6 (fy2 (h.kf e he))]),by rw [zd8 h.fo_,gy1]; simp [zb4],h.pf,h.kf,h.hp,h.hf,h.hk,zE4 h.old h.hf,by rw [ly6]; exact h.le⟩
theorem LL.app (h : LL W0 W p fo ks V found) : ∃ U,W = W0++U:=⟨W.drop W0.length,by
 refine oy8 fun i=>?_
 by_cases hi : i < W0.length
 ·rw [ay8 hi];exact h.old i hi
 ·rw [cy2 (by omega),List.getElem?_drop]
  congr 1
  omega⟩
end
theorem zO4 {α : Type} {l L' : List α} {key : α->List Str} (pm : L'.Perm l) (pw : L'.Pairwise fun a b=>ltL (key a) (key b) = true) (hne : l ≠ []) : ∃ a L'',L' = a :: L'' /\ a∈l /\ ∀ c∈l,key c ≠ key a->ltL (key a) (key c) = true:=by
 cases L' with
 | nil=>exact absurd pm.symm.eq_nil hne
 | cons a L'' =>
  refine ⟨a,L'',rfl,pm.mem_iff.mp ay9,fun c hc hk=>?_⟩;rcases by7.mp (pm.mem_iff.mpr hc) with e | h
  ·exact absurd (by rw [e]) hk
  ·exact (List.pairwise_cons.mp pw).1 c h
structure zb96 (K : ay5) (mg : Str->Option Value) (gH gV gA gC : Addr) (eH eV eA eC : ey7) : Prop where
 hand : Def K mg "_law_hand" zp8 gH eH ["_law_deed"]
 view : Def K mg "_law_view" zp9 gV eV nVl
 allh : Def K mg "_law_all_hands" zx3 gA eA ["_law_row_here"]
 can : Def K mg "_law_can" zD5 gC eC ["_law_row_here"]
section
variable {P : cy7} {w : World} {K : ay5} {mg : Str->Option Value} {base : Heap} {kA : Addr}
abbrev pBl : List Str:=["_law_row_here", "_law_other"]
abbrev nBl : List Str:=["_law_row_here", "_law_other", "_law_hand_here", "_law_some"]
theorem scBl : zb8 nBl pBl (za1 zo6):=⟨rfl,rfl,rfl,by decide +kernel,rfl,by decide +kernel,by decide +kernel⟩
theorem ndBl : nBl.Nodup:=by decide +kernel
set_option maxHeartbeats 1000000 in
theorem zb04 {f gH gV gA gC : Addr} {fd eH eV eA eC : ey7} (F : Fun K "_law_begins" "_law_begins" zo6 f fd) (T : Txt mg) (D : zb96 K mg gH gV gA gC eH eV eA eC) : zj0 P w K mg base CX0 3 f fd pBl (spB K rBeg):=by
 have NV:=@zR5 P w K mg base _ _ _ _ D.view.fn T D.hand;have NA:=@za77 P w K mg base _ _ D.allh.fn T;refine zo8 F scBl (fun as W k hR=>by obtain ⟨hs,a,b,e,_⟩:=hR; subst e; rfl) fun cc hr as W k hcl hR=>?_;refine exE3 hR fun hs a b qA=>?_;clear hR;refine anE9 qA fun e ha hb hh hal hbl hga hgb hk=>?_;clear qA;subst e;refine za4 (zs9 ly9 rfl (zw0 (za6 NA (hr.mono (by decide)) rfl D.allh.at_ D.allh.fn.kp D.allh.bd (za2 (bv 0 rfl ⟨hs,a,rfl,ha,hh,by omega,fun ss pm so=>⟨ss.map .str,rfl,W.length,fun i S' W'=>∃ (o2 o3 : Option El),S' = [some (.d (rP a)),some (.d (rP b)),o2,o3] /\ W' = W /\ ∀ x∈ss.take i,(viewOf x b).take (viewOf x a).length = viewOf x a,ay6 _,dy9 _,ay6 _,⟨none,none,rfl,rfl,by simp⟩,fun _ _ _ _ _=>trivial,?_,?_⟩⟩)))))
 ·intro i z S' W' hz gX;refine za0 fun gG=>?_;obtain ⟨o2,o3,rfl,rfl,hp⟩:=gX;rw [by1] at hz;obtain ⟨x,hx,rfl⟩:=fy7.mp hz;refine gG ?_;clear gG;have hxs : x∈ss:=cy8 hx;refine zm2 (i:=2) ndBl rfl (Or.inl rfl) ?_;refine za4 (zc0 (i:=3) ndBl rfl (Or.inl rfl) (za6 NV (hr.mono (by decide)) rfl D.view.at_ D.view.fn.kp D.view.bd (za3 (bv 0 rfl (za2 (bv 2 rfl ⟨x,a,rfl,by omega,?_⟩))))));have e1 : ((viewOf x b).map dP).take ((viewOf x a).map dP).length = ((viewOf x b).take (viewOf x a).length).map dP:=by rw [ay3,qy2]
  refine zb0 (zi4 (ze0 rfl (zc8 (za6 NV (hr.mono (by decide)) rfl D.view.at_ D.view.fn.kp D.view.bd (za3 (bv 1 rfl (za2 (bv 2 rfl ⟨x,b,rfl,by omega,ze4 (zd0 (zb9 rfl T.len_ zl5 (za2 (bv 3 rfl (zh4 ⟨_,rfl,zn5 (bv 3 rfl ?_)⟩)))))⟩))))))));rw [zm4,e1];refine zT7 hr.units (d:=rP ((viewOf x b).take (viewOf x a).length)) (e:=rP (viewOf x a)) (.inl rfl) (.inl rfl) (zU1 fun d hd=>zE5 hb x d (hy4 hd)) (zU1 (zE5 ha x)) ⟨_,rfl,?_⟩;rw [zc74]
  by_cases h : (viewOf x b).take (viewOf x a).length = viewOf x a
  ·rw [decide_eq_true h];refine zl6 (zh1 ⟨_,_,rfl,rfl,fun y hy=>?_⟩);rw [fy5,hx] at hy;rcases ey0.mp hy with hy | hy
   ·exact hp y hy
   ·simp at hy; rw [hy]; exact h
  ·rw [decide_eq_false h];exact zl9 (zb0 (zd3 (zp1 (hk false ⟨nofun,fun z=>absurd (z x) h⟩))))
 ·intro S' W' gX;refine za0 fun gG=>?_;obtain ⟨o2,o3,rfl,rfl,hp⟩:=gX;refine gG ?_;clear gG;rw [ay3,hy5] at hp;exact zb0 (zd3 (zp1 (hk true ⟨fun _=>(zb02 (ss:=ss) fun d hd=>pm.mem_iff.mpr (zf3.mpr (zu4 hd))).mpr hp,fun _=>rfl⟩)))
end
abbrev zZ (W : Wl) (a R : List za7) (vw : List Str) : Wl:=W++[.lst (zb4 (a.map dP))]++[.dK ((vw.zipIdx (W.length + 2)).map fun e=>(.inr e.1,El.o e.2))]++lsV vw R
theorem zb05 (W : Wl) (a R : List za7) (vw : List Str) : (zZ W a R vw).length = W.length + 2 + vw.length:=by simp [zZ,lsV]; omega
theorem zc32 (W : Wl) (a R : List za7) (vw : List Str) : (∀ i,i < W.length->(zZ W a R vw)[i]? = W[i]?) /\ (zZ W a R vw)[W.length]? = some (.lst (zb4 (a.map dP))) /\ (zZ W a R vw)[W.length + 1]? = some (.dK ((vw.zipIdx (W.length + 2)).map fun e=>(.inr e.1,El.o e.2))) /\ ∀ i,i < vw.length->(zZ W a R vw)[W.length + 2 + i]? = (lsV vw R)[i]?:=by
 have e : zZ W a R vw = W++([.lst (zb4 (a.map dP)),.dK ((vw.zipIdx (W.length + 2)).map fun e=>(.inr e.1,El.o e.2))]++lsV vw R):=by simp [zZ]
 rw [e];refine ⟨fun i hi=>ay8 hi,?_,?_,fun i hi=>?_⟩
 ·rw [cy2 (ay6 _),Nat.sub_self]; rfl
 ·rw [cy2 (by omega),my0]; rfl
 ·rw [Nat.add_assoc,cy2 (by omega),my0,cy2 (by simp)]
  congr 1
  simp
theorem LL.ze35 {W : Wl} {a R : List za7} {vw : List Str} (nd : vw.Nodup) (hok : ∀ d∈R,d.Ok) (hin : ∀ d∈R,handOf d∈vw) : LL W (zZ W a R vw) (W.length + 1) W.length (vw.zipIdx (W.length + 2)) (fun x=>viewOf x R) a:=by
 refine za0 fun gG=>?_;obtain ⟨g1,g2,g3,g4⟩:=zc32 W a R vw;refine gG ?_;clear gG;refine ⟨⟨g3,fun e he=>?_,?_,?_,fun e he=>?_,fun x hx=>?_,fun x d hd=>zJ5 hd,fun x d hd=>hok d (zu3 hd)⟩,g2,by omega,fun e he=>?_,by omega,ay6 _,fun e he=>?_,g1,by rw [zb05]; omega⟩
 ·refine za0 fun gG=>?_;obtain ⟨h1,h2,h3⟩:=zi9 he;refine gG ?_;clear gG;have:=g4 (e.2 - (W.length + 2)) (by omega);rw [show W.length + 2 + (e.2 - (W.length + 2)) = e.2 by omega] at this;rw [this,by1,h3];rfl
 ·rw [wy7]; exact nd
 ·rw [List.zipIdx_map_snd]; exact List.nodup_range'
 ·obtain ⟨h1,h2,h3⟩:=zi9 he; omega
 ·rw [wy7] at hx;exact zk5 fun d hd z=>hx (z ▸ hin d hd)
 ·obtain ⟨h1,h2,h3⟩:=zi9 he; omega
 ·obtain ⟨h1,h2,h3⟩:=zi9 he; omega
def frD (f : Wd) (V : Str->List za7) : PyData->Bool
 | .str x=>zj7 f V x
 | _=>false
def hdD (V : Str->List za7) : PyData->PyData
 | .str x=>dP (hdV V x)
 | d=>d
theorem ze36 (f : Wd) (V : Str->List za7) (ks : List (Str × Nat)) : ((ks.map fun e=>hy3 e.1).filter (frD f V)).map (hdD V) = (ks.filter fun e=>zj7 f V e.1).map fun e=>dP (hdV V e.1):=by
 rw [xy1,ey6];rfl
abbrev sRl1 (b : List za7) (bb : List za7) (W : Wl) (p : Nat) (o4 : Option El) (o5 : Option El) (o6 : Option El) (o7 : Option El) : Sl:=[some (.d (rP b)),some (.d (rP bb)),some (.o W.length),some (.o p),o4,o5,o6,o7]
abbrev iRl (b bb R0 : List za7) (W : Wl) (p : Nat) (ks : List (Str × Nat)) : Nat->Sl->Wl->Prop:=fun i S' W'=>∃ (o4 o5 o6 o7 : Option El) (V : Str->List za7) (out R : List za7),S' = sRl1 b bb W p o4 o5 o6 o7 /\ LL W W' p W.length ks V (b++out) /\ goF (zg2 (b++out)) R /\ (∀ x,viewOf x R = V x) /\ R.length + out.length = R0.length /\ out.length = i /\ Goes (b++out) /\ (∀ d∈out,d.Ok) /\ ∀ o,Lst (zg2 (b++out)) V o->Lst (zg2 b) (fun x=>viewOf x R0) (out++o)
abbrev iRl1 (b bb R0 : List za7) (W : Wl) (ss : List Str) : Nat->Sl->Wl->Prop:=fun i S' W'=>∃ (o4 : Option El),S' = [some (.d (rP b)),some (.d (rP bb)),some (.o W.length),some (.o (W.length + 1)),o4,none,none,none] /\ W' = zZ W b R0 (ss.take i)
section
variable {P : cy7} {w : World} {K : ay5} {mg : Str->Option Value} {base : Heap} {kA : Addr}
def ze37 : RB:=fun as W k=>∃ (hs : List Str) (a b R : List za7),as = [.d (rP a),.d (rP b)] /\ ze7 hs a /\ ze7 hs b /\ hs.length <= 8 /\ a.length <= 200 /\ b.length <= 200 /\ Goes a /\ Goes b /\ Left a b R /\ ∀ out,Lst (zg2 a) (fun x=>viewOf x R) out->k (.d (rP out)) W
abbrev nRl : List Str:=["_law_row_here", "_law_other", "_law_found", "_law_todo", "_law_hand_here", "_law_k", "_law_free", "_law_best"]
theorem scRl : zb8 nRl pBl (za1 zq0):=⟨rfl,rfl,rfl,by decide +kernel,rfl,by decide +kernel,by decide +kernel⟩
theorem ndRl : nRl.Nodup:=by decide +kernel
def cRl : Scope:=match za9 zq0 with
 | [_,_,_,.For _ _ [.Assign _ (.ListComp _ _ sc _) _,_,_,_] _ _,_]=>sc
 | _=>zN1
theorem csRl : zb3 nRl (za1 zq0) ["_law_hand_here"] ["_law_found", "_law_todo"] [2,3] cRl:=⟨rfl,by decide +kernel,by decide +kernel,by decide +kernel,rfl,by decide +kernel⟩
theorem zf34 : (["_law_hand_here", "_law_found", "_law_todo"] : List Str).Nodup:=by decide +kernel
set_option maxHeartbeats 2000000 in
theorem zb97 {f gH gV gA gC : Addr} {fd eH eV eA eC : ey7} (F : Fun K "_law_rest" "_law_rest" zq0 f fd) (T : Txt mg) (D : zb96 K mg gH gV gA gC eH eV eA eC) : zj0 P w K mg base CX0 3 f fd pBl (spB K ze37):=by
 have NH:=@zD8 P w K mg base _ _ D.hand.fn T;have NV:=@zR5 P w K mg base _ _ _ _ D.view.fn T D.hand;have NA:=@za77 P w K mg base _ _ D.allh.fn T;have NC:=@za78 P w K mg base _ _ D.can.fn T;refine zo8 F scRl (fun as W k hR=>by obtain ⟨hs,a,b,R,e,_⟩:=hR; subst e; rfl) fun cc hr as W k hcl hR=>?_;refine exE4 hR fun hs b bb R0 qA=>?_;clear hR;refine zd28 qA fun e hb hbb hh hbl hbbl hgb hgbb hR hk=>?_;clear qA;subst e;obtain ⟨o1,o2⟩:=zm6 hbb hh;have hRl:=hR.len;have hbo:=hb.ok;refine za4 (zc0 (i:=2) ndRl rfl (Or.inr rfl) (zg3 rfl T.list_ za64 (za2 (bv 0 rfl (zK7 ?_)))));refine za4 (zc0 (i:=3) ndRl rfl (Or.inr rfl) (zb59 ?_));have ep : (W++[OD.lst (zb4 (b.map dP))]).length = W.length + 1:=by simp
 rw [ep];refine za4 (zs9 ly9 rfl (zw0 (za6 NA (hr.mono (by decide)) rfl D.allh.at_ D.allh.fn.kp D.allh.bd (za2 (bv 1 rfl ⟨hs,bb,rfl,hbb,hh,by omega,fun ss pm so=>⟨ss.map .str,rfl,W.length,iRl1 b bb R0 W ss,ay6 _,dy9 _,by simp,⟨none,rfl,by simp [zZ,lsV]⟩,fun _ _ _ _ _=>trivial,?_,?_⟩⟩)))))
 ·intro i z S' W' hz gX;refine za0 fun gG=>?_;obtain ⟨o4,rfl,rfl⟩:=gX;rw [by1] at hz;obtain ⟨x,hx,rfl⟩:=fy7.mp hz;refine gG ?_;clear gG;have hsn : ss.Nodup:=pm.nodup_iff.mpr (zn0 _);have hsl : ss.length <= 8:=by rw [pm.length_eq]; exact o1
  have hil:=(ay4.mp hx).1;refine za0 fun gG=>?_;obtain ⟨hd1,hd2⟩:=hR.drop x;obtain ⟨g1,g2,g3,g4⟩:=zc32 W b R0 (ss.take i);refine gG ?_;clear gG;have hlt : W.length + 1 < (zZ W b R0 (ss.take i)).length:=by rw [zb05]; omega
  refine zm2 (i:=4) ndRl rfl (Or.inl rfl) ?_;refine zb0 (zp2 (zg3 rfl T.list_ za64 (za2 (zc8 (za6 NV (hr.mono (by decide)) rfl D.view.at_ D.view.fn.kp D.view.bd (za3 (bv 1 rfl (za2 (bv 4 rfl ⟨x,bb,rfl,by omega,zd0 (zb9 rfl T.len_ zl5 (za2 (za6 NV (hr.mono (by decide)) rfl D.view.at_ D.view.fn.kp D.view.bd (za3 (bv 0 rfl (za2 (bv 4 rfl ⟨x,b,rfl,by omega,zh4 ⟨_,rfl,ze4 (zn5 (zK7 (zy7 (bv 3 rfl (bv 4 rfl (ze95 hr.units (by rw [ay8 hlt]; exact g3) ?_ ⟨_,rfl,?_⟩))))))⟩⟩)))))))⟩)))))))))
  ·rw [ay3,List.length_zipIdx,dy1];exact ly7 (show _ <= 8 by omega) (by6 (show 8 < 9 by decide) (zb6 (by decide)))
  ·rw [zk8,ay3,<- List.map_drop,hd2,zb05,zE2]
   ·have hl : (ss.take i).length = i:=by rw [dy1,py1 (ky8 hil)]
    rw [vy6 _ _ hlt,hl];show (zZ W b R0 (ss.take i)).set (W.length + 1) _++_ = zZ W b R0 (ss.take (i + 1));unfold zZ;rw [zS4 hx,fy5,hx,vy6 _ _ (by simp)];have : W.length + 1 = (W++[OD.lst (zb4 (b.map dP))]).length:=by simp
    rw [this,zu0];simp [lsV]
   ·intro p hp z;refine za0 fun gG=>?_;obtain ⟨e,he,rfl⟩:=cy3.mp hp;obtain ⟨h1,h2,h3⟩:=zi9 he;have z : e.1 = x:=ty7 z;rw [z] at h3;obtain ⟨l4,e4⟩:=ay4.mp h3;rw [List.getElem_take] at e4;obtain ⟨l5,e5⟩:=ay4.mp hx;refine gG ?_;clear gG;have:=(iy4 hsn).mp (e4.trans e5.symm);rw [dy1] at l4;omega
 ·intro S' W' gX;refine za0 fun gG=>?_;obtain ⟨o4,rfl,rfl⟩:=gX;refine gG ?_;clear gG;rw [ay3,hy5];have hsn : ss.Nodup:=pm.nodup_iff.mpr (zn0 _);have hsl : ss.length <= 8:=by rw [pm.length_eq]; exact o1
  have st:=LL.ze35 (W:=W) (a:=b) (R:=R0) hsn (fun d hd=>hbb.ok d (hR.sub d hd)) fun d hd=>pm.mem_iff.mpr (zf3.mpr (zu4 (hR.sub d hd)));generalize zZ W b R0 ss = W1 at st ⊢;obtain ⟨ks,hks⟩ : ∃ ks,ks = ss.zipIdx (W.length + 2):=⟨_,rfl⟩
  have hkl : ks.length <= 8:=by rw [hks,List.length_zipIdx]; exact hsl
  rw [<- hks] at st;generalize W.length + 1 = p at st ⊢;refine za4 (zs9 ly9 rfl (zp3 rfl T.range_ (zf8 (zb9 rfl T.len_ zl5 (za2 (bv 1 rfl (zh4 (zb9 rfl T.len_ zl5 (za2 (bv 0 rfl (zh4 (zc11 ⟨_,rfl,?_,?_,W.length,iRl b bb R0 W p ks,ay6 _,dy9 _,st.le,⟨o4,none,none,none,fun x=>viewOf x R0,[],R0,rfl,by rw [ny4]; exact st,by rw [ny4]; exact hR.go,fun _=>rfl,by simp,rfl,by rw [ny4]; exact hgb,by simp,fun o h=>by rw [ny4] at h; exact h⟩,fun _ _ _ _ _=>trivial,?_,?_⟩))))))))))))
  ·simp only [ay3]; omega
  ·simp only [ay3]; omega
  ·intro i z S' W' hz gX;refine exE7 gX fun o4 o5 o6 o7 V out R qA=>?_;clear gX;refine anE9 qA fun qe0 ll hg hV hRl hol hgo hoo hL=>?_;clear qA;subst qe0
   have hi : i < R0.length:=by
    have:=(ay4.mp hz).1;simp [zm3] at this;omega
   have hRne : R ≠ []:=fun z=>by rw [z] at hRl; simp at hRl; omega
   have hzi : ∃ c : Int,z = .int c:=by
    have:=cy8 hz;refine za0 fun gG=>?_;obtain ⟨j,_,rfl⟩:=cy3.mp this;refine gG ?_;clear gG;exact ⟨_,rfl⟩
   refine za0 fun gG=>?_;obtain ⟨c0,rfl⟩:=hzi;refine gG ?_;clear gG;refine zm2 (i:=5) ndRl rfl (Or.inl rfl) ?_;have hpW:=zd4 ll.lf.at_;obtain ⟨f',hf'⟩ : ∃ f',f' = zg2 (b++out):=⟨_,rfl⟩
   rw [<- hf'] at hg hL;obtain ⟨kvs,hkvs⟩ : ∃ kvs : List (Key × El),kvs = ks.map fun e=>(.inr e.1,El.o e.2):=⟨_,rfl⟩
   have hkm : ((ks.map fun e=>(e.1,El.o e.2)).map fun p=>((.inr p.1 : Key),p.2)) = kvs:=by rw [ey6,hkvs]; rfl
   have hkm2 : ((ks.map fun e=>(e.1,El.o e.2)).map fun p=>hy3 p.1) = ks.map fun e=>hy3 e.1:=by rw [ey6]; rfl
   have hat : W'[p]? = some (.dK kvs):=by rw [hkvs]; exact ll.lf.at_
   refine za4 (za93 (j:=p) (mb:=W'.length) hat ll.le hpW (ay6 _) fun o=>zL2 (i:=6) ndRl rfl (Or.inl rfl) rfl csRl (zf27 (bv 3 rfl ⟨p,o,ks.map fun e=>(e.1,El.o e.2),rfl,by rw [hkm]; exact zd8 hat,?_⟩)));rw [hkm,hkm2];refine zk2 (frD f' V) (hdD V) (zd8 hat) (by rw [ay3]; exact zb6 (by omega)) ?_ ?_
   ·intro z hz;refine za0 fun gG=>?_;obtain ⟨e,he,rfl⟩:=cy3.mp hz;refine gG ?_;clear gG;refine ze2 (i:=0) zf34 rfl (by decide) (fun _ _ _ _ _=>Or.inl rfl) (fun _ _ _ _ _=>rfl) ?_;have hvk : zX6 kvs (.inr e.1) = some (.o e.2):=by rw [hkvs]; exact zE1 (g:=El.o) ll.lf.nd he
    have hfz:=zd8 (o':=.fK o kvs) hat
    have hob:=get_set (o':=.fK o kvs) (ll.lf.obj e he) (fy2 (ll.lf.np e he));have hfo:=get_set (o':=.fK o kvs) ll.fo_ ll.pf;cases hve : V e.1 with
    | nil =>
     have hfr : zj7 f' V e.1 = false:=by unfold zj7; rw [hve]; rfl
     rw [hve] at hob;refine ⟨fun cl C ex s H=>BW.bt (zv6 (ze0 rfl (zd9 (by intro _ _; rfl) (bv 2 rfl (bv 0 rfl (zb91 hr.units hfz hvk (zg9 (zk0 ⟨[],rfl,dy9 _,zT7 hr.units (d:=.list []) (e:=.list []) (.inr ⟨_,rfl,.inr ⟨_,rfl,hob⟩⟩) (.inl rfl) (zb95 (ds:=[]) (by simp)) (zb95 (ds:=[]) (by simp)) ⟨_,rfl,zl6 ⟨?_,rfl⟩⟩⟩)))))))),fun h=>?_⟩
     ·exact hfr.symm
     ·rw [show frD f' V (.str e.1) = zj7 f' V e.1 from rfl,hfr] at h; cases h
    | cons d vs =>
     have hhd : hdV V e.1 = d:=by unfold hdV; rw [hve]; rfl
     have hfr : zj7 f' V e.1 = zn1 f' d:=by unfold zj7; rw [hhd,hve]; rfl
     rw [hve] at hob;have hdok : d.Ok:=ll.lf.ok e.1 d (by rw [hve]; exact ay9);refine ⟨fun cl C ex s H=>BW.bt (zv6 (ze0 rfl (zd9 (by intro _ _; rfl) (bv 2 rfl (bv 0 rfl (zb91 hr.units hfz hvk (zg9 (zk0 ⟨[],rfl,dy9 _,zT7 hr.units (d:=.list ((d :: vs).map dP)) (e:=.list []) (.inr ⟨_,rfl,.inr ⟨_,rfl,hob⟩⟩) (.inl rfl) (zb95 fun z hz=>ll.lf.ok e.1 z (by rw [hve]; exact hz)) (zb95 (ds:=[]) (by simp)) ⟨_,rfl,?_⟩⟩)))))))),fun h cl C ex s H=>?_⟩
     ·refine zl9 (zv5 (zf9 (za6 NC (hr.mono (by decide)) rfl D.can.at_ D.can.fn.kp D.can.bd (za2 (zf8 (bv 1 rfl (zc8 (zd9 (by intro _ _; rfl) (bv 2 rfl (bv 0 rfl (zb91 hr.units hfz hvk (ze4 (zd0 (zb1 ⟨1,rfl,za15 hob (zB1 (.inr ⟨_,rfl,hfo⟩) (.inl rfl) ?_ ⟨_,b++out++[d],rfl,.inr ?_,?_,?_,fun cc hcc=>⟨cc,rfl,?_,rfl⟩⟩)⟩))))))))))))))
      ·rw [show zm1 ((d :: vs).map dP) none (some 1) = ((d :: vs).map dP).take 1 from zm4 _ 1];simp only [ay3,cy5,dy1,py7];exact zb6 (by omega)
      ·rw [show zm1 ((d :: vs).map dP) none (some 1) = ((d :: vs).map dP).take 1 from zm4 _ 1];simp
      ·intro x hx;rcases ey0.mp hx with hx | hx
       ·rcases ey0.mp hx with hx | hx
        ·exact hbo x hx
        ·exact hoo x hx
       ·cases ey2.mp hx; exact hdok
      ·simp only [cy5,ny5]; omega
      ·rw [zE6 hgo,<- hf'] at hcc;show cc = zj7 f' V e.1;rw [hfr];cases cc <;> cases hq : zn1 f' d <;> simp_all
     ·refine zd9 (by intro _ _; rfl) (zd9 (by intro _ _; rfl) (bv 2 rfl (bv 0 rfl (zb91 hr.units hfz hvk (zb1 (zs5 (e:=.d (dP d)) hob (zb92 _ _) ⟨?_,rfl⟩))))));show El.d (dP d) = .d (dP (hdV V e.1));rw [hhd]
   ·refine ⟨zd8 hat,?_⟩;rw [zu2 hat,ze36]
    have hne : ks.filter (fun e=>zj7 f' V e.1) ≠ []:=by
     refine za0 fun gG=>?_;obtain ⟨d,vs,h1,h2⟩:=zJ4 hg hV hRne;obtain ⟨e,he,hex⟩:=ll.lf.at h1;refine gG ?_;clear gG;refine List.ne_nil_of_mem (a:=e) (gy4.mpr ⟨he,zh3.mpr ⟨vs,?_,?_⟩⟩)
     ·unfold hdV; rw [hex,h1]; rfl
     ·unfold hdV; rw [hex,h1]; exact h2
    have hfl8:=qy1 (fun e=>zj7 f' V e.1) ks;refine za4 (zc0 (i:=7) ndRl rfl (Or.inl rfl) (zd9 (by intro _ _; rfl) (zb9 rfl T.sorted_ zt9 (za2 (bv 6 rfl (zW9 (L:=ks.filter fun e=>zj7 f' V e.1) (m:=4) (fun e=>zE7 (hdV V e.1)) (fun e=>dP (hdV V e.1)) (fun a _=>rfl) (.inl rfl) (zb00 (·.1) ll.lf.hand ks ll.lf.nd) (by omega) (by decide) (fun _ _=>rfl) fun L' pm' pw=>?_))))));refine za0 fun gG=>?_;obtain ⟨a,L'',rfl,ha,hmin⟩:=zO4 (key:=fun e : Str × Nat=>zE7 (hdV V e.1)) pm' pw hne;refine gG ?_;clear gG;refine zb1 (zs5 (e:=.d (dP (hdV V a.1))) zd7 (zb92 _ _) ?_);refine za0 fun gG=>?_;obtain ⟨ha1,ha2⟩:=gy4.mp ha;obtain ⟨vs,hva,hca⟩:=zh3.mp ha2;refine gG ?_;clear gG;have ll2:=ll.grow [.lst (zb4 ((a :: L'').map fun e=>dP (hdV V e.1)))];generalize W'++[OD.lst (zb4 ((a :: L'').map fun e=>dP (hdV V e.1)))] = W2 at ll2 ⊢;generalize hd : hdV V a.1 = d at hva hca hmin ⊢;have hhand : handOf d = a.1:=ll.lf.hand a.1 d (by rw [hva]; exact ay9);have hdok : d.Ok:=ll.lf.ok a.1 d (by rw [hva]; exact ay9);have hob2 : W2[a.2]? = some (.lst (.d (dP d) :: zb4 (vs.map dP))):=by rw [ll2.lf.obj a ha1,hva]; rfl
    refine za4 (ze9 (zn3 fy9 PySem.F.slot_list_pop PySem.F.type_list_pop (zd9 (by intro _ _; rfl) (bv 3 rfl (za6 NH (hr.mono (by decide)) rfl D.hand.at_ D.hand.fn.kp D.hand.bd (za2 (bv 7 rfl ⟨d,rfl,ze01 (e:=.o a.2) hr.units ll2.lf.at_ ?_ ⟨.inl ⟨rfl,_,hob2⟩,za2 (zb1 (zK8 hob2 ?_))⟩⟩)))))))
    ·rw [hhand]; exact zE1 (g:=El.o) ll2.lf.nd ha1
    have ll3:=ll2.pop ha1 hva;refine zb0 (ze9 (zn3 fy9 iy1 iy2 (bv 2 rfl ⟨.inl ⟨rfl,_,ll3.fo_⟩,za2 (bv 7 rfl (zh0 ll3.fo_ ?_ ?_))⟩)))
    ·simp only [zb4,ay3,cy5];exact ly7 (show _ <= 900 by omega) (by6 (show 900 < 901 by decide) (zb6 (by decide)))
    have ll4:=ll3.push d;obtain ⟨R',g1,g2,g3⟩:=zJ3 hg hV (by rw [hhand]; exact hva) hca;have erun : zg2 (b++(out++[d])) = zd6 f' d:=by rw [<- iy7,hf']; unfold zg2; rw [List.foldl_append]; rfl
    refine ⟨_,_,_,_,zr7 V a.1 vs,out++[d],R',rfl,?_,?_,?_,?_,?_,?_,?_,fun o ho=>?_⟩
    ·rw [<- iy7]; exact ll4
    ·rw [erun]; exact g1
    ·intro x; rw [g2,hhand]
    ·rw [cy5]; simp only [ny5]; omega
    ·rw [cy5,hol]; rfl
    ·rw [<- iy7]; exact zq2 hgo (by rw [<- hf']; exact hca)
    ·intro x hx;rcases ey0.mp hx with hx | hx
     ·exact hoo x hx
     ·cases ey2.mp hx; exact hdok
    ·rw [erun] at ho;have:=hL (d :: o) (.cons (vs:=vs) (by rw [hhand]; exact hva) hca ?_ (by rw [hhand]; exact ho))
     ·rw [iy7]; exact this
     ·intro x e es hx hce hne';refine za0 fun gG=>?_;obtain ⟨c,hc,rfl⟩:=ll.lf.at hx;refine gG ?_;clear gG;have hhd : hdV V c.1 = e:=by unfold hdV; rw [hx]; rfl
      have:=hmin c (gy4.mpr ⟨hc,zh3.mpr ⟨es,by rw [hhd]; exact hx,by rw [hhd]; exact hce⟩⟩) (by rw [hhd]; exact fun z=>hne' (zE3 z));rw [hhd] at this;exact this
  ·intro S' W' gX;refine exE7 gX fun o4 o5 o6 o7 V out R qA=>?_;clear gX;refine anE9 qA fun qe0 ll hg hV hRl hol hgo hoo hL=>?_;clear qA;subst qe0
   have hol' : out.length = R0.length:=by
    rw [hol];simp [zm3];omega
   have hR : R = []:=List.length_eq_zero_iff.mp (by omega);subst hR;have hout:=hL [] (.nil fun x=>by rw [<- hV]; rfl);rw [ny4] at hout;have hfo:=ll.fo_;refine za0 fun gG=>?_;obtain ⟨U',rfl⟩:=ll.app;refine gG ?_;clear gG;refine zb0 (zg4 (zg3 rfl T.tuple_ zl2 (za2 (zc8 (bv 2 rfl (zd0 (zb9 rfl T.len_ zl5 (za2 (bv 0 rfl (zh4 ⟨_,rfl,ze4 (za15 hfo (zr0 (.inl rfl) ⟨_,W,U',rfl,rfl,rfl,hcl,?_⟩))⟩))))))))));rw [ay3,zk8,gy1,List.drop_left' (by rw [ay3])];exact hk out hout
end
section
variable {P : cy7} {w : World} {K : ay5} {mg : Str->Option Value} {base : Heap} {kA : Addr}
theorem Lst.oks {f : Wd} {ds out : List za7} (h : Lst f (fun x=>viewOf x ds) out) (hr : ∀ d∈ds,d.Ok) : ∀ d∈out,d.Ok:=fun d hd=>by
 have h1 : d∈viewOf (handOf d) out:=gy4.mpr ⟨hd,by simp⟩;rw [h.goes.2] at h1;exact hr d (zu3 h1)
structure ze38 (K : ay5) (mg : Str->Option Value) (hB hR hI hT : Addr) (cB cR cI cT : ey7) : Prop where
 begins : Def K mg "_law_begins" zo6 hB cB pBl
 restL : Def K mg "_law_rest" zq0 hR cR pBl
 isb : Def K mg "is_beginning" ze1 hI cI pBg
 rest : Def K mg "rest" zD4 hT cT pBg
def ze39 : RB:=fun as W k=>∃ (hs : List Str) (a b : List za7),as = [.d (rP a),.d (rP b)] /\ ze7 hs a /\ ze7 hs b /\ hs.length <= 8 /\ a.length <= 200 /\ b.length <= 200 /\ Goes a /\ Goes b /\ k (.d (.bool true)) W
abbrev nRi : List Str:=["_law_row_here", "_law_other", "_law_due", "_law_found", "_law_told"]
theorem scRi : zb8 nRi pBl (za1 zx4):=⟨rfl,rfl,rfl,by decide +kernel,rfl,by decide +kernel,by decide +kernel⟩
theorem ndRi : nRi.Nodup:=by decide +kernel
set_option maxHeartbeats 1000000 in
theorem zb98 {f fN fD fC fO fB fH fS fV fL fG fF gH gV gA gC hB hR hI hT : Addr} {fd dN dD dC dO dB dH dS dV dL dG dF eH eV eA eC cB cR cI cT : ey7} (F : Fun K "_law_right" "_law_right" zx4 f fd) (T : zX7 K mg kA) (D : zb94 K mg fN fD fC fO fB fH fS fV fL fG fF dN dD dC dO dB dH dS dV dL dG dF) (E' : zb96 K mg gH gV gA gC eH eV eA eC) (DR : ze38 K mg hB hR hI hT cB cR cI cT) : zj0 P w K mg base CX0 7 f fd pBl (spB K ze39):=by
 have NB:=zb04 (P:=P) (w:=w) (base:=base) DR.begins.fn T.t E';have NR:=zb97 (P:=P) (w:=w) (base:=base) DR.restL.fn T.t E';have NI:=zc31 (P:=P) (w:=w) (base:=base) DR.isb.fn T D;have NT:=zd19 (P:=P) (w:=w) (base:=base) DR.rest.fn T D DR.isb;refine zo8 F scRi (fun as W k hR=>by obtain ⟨hs,a,b,e,_⟩:=hR; subst e; rfl) fun cc hr as W k hcl hR=>?_;refine exE3 hR fun hs a b qA=>?_;clear hR;refine anE9 qA fun e ha hb hh hal hbl hga hgb hk=>?_;clear qA;subst e;refine za4 (zc0 (i:=2) ndRi rfl (Or.inl rfl) (za6 NB (hr.mono (by decide)) rfl DR.begins.at_ DR.begins.fn.kp DR.begins.bd (za3 (bv 0 rfl (za2 (bv 1 rfl ⟨hs,a,b,rfl,ha,hb,hh,by omega,by omega,hga,hgb,fun c hc=>?_⟩))))));refine za4 (zc0 (i:=3) ndRi rfl (Or.inl rfl) (za6 NI (hr.mono (by decide)) rfl DR.isb.at_ DR.isb.fn.kp DR.isb.bd (za3 (bv 0 rfl (za2 (bv 1 rfl ⟨hs,a,b,rfl,ha,hb,hh,by omega,by omega,hga,hgb,fun c' hc'=>?_⟩))))))
 obtain rfl : c' = c:=by
  rw [py0,hc,hc']
 refine za4 (zi4 (BW.bt (zG5 (zj1 (zf9 (zk1 rfl T.t.isi zW1 rfl T.t.bool_ ze07 (by simp) (bv 3 rfl ⟨_,.inl rfl,_,rfl,zl6 (zs4 (ze0 rfl (bv 3 rfl (bv 2 rfl (zd82 ⟨_,rfl,?_⟩)))))⟩)))))));rw [decide_eq_true rfl];refine zl6 (zh1 ?_);cases c' with
 | false =>
  have hnb : ¬ Beg a b:=fun z=>by cases hc.mpr z
  refine za4 (zc0 (i:=4) ndRi rfl (Or.inl rfl) (za6 NT (hr.mono (by decide)) rfl DR.rest.at_ DR.rest.fn.kp DR.rest.bd (za3 (bv 0 rfl (za2 (bv 1 rfl ⟨hs,a,b,rfl,ha,hb,hh,by omega,by omega,hga,hgb,fun _=>?_,fun R hR=>absurd (fun x=>(hR.drop x).1) hnb⟩))))));exact za4 (zi4 (zj1 (zf9 (bv 2 rfl ⟨_,rfl,zl9 (zb0 (zd3 (zs3 rfl (bv 4 rfl (zG4 (zd83 hk))))))⟩))))
 | true =>
  obtain ⟨R0,hR0⟩:=zS6 hga hgb (hc.mp rfl);refine za4 (zc0 (i:=4) ndRi rfl (Or.inl rfl) (za6 NT (hr.mono (by decide)) rfl DR.rest.at_ DR.rest.fn.kp DR.rest.bd (za3 (bv 0 rfl (za2 (bv 1 rfl ⟨hs,a,b,rfl,ha,hb,hh,by omega,by omega,hga,hgb,fun z=>absurd (hc.mp rfl) z,fun R hR out ho=>?_⟩))))));have hoo:=ho.oks fun d hd=>hb.ok d (hR.sub d hd);refine za4 (zi4 (zj1 (zf9 (bv 2 rfl ⟨_,rfl,zl6 (zh1 ?_)⟩))));refine zb0 (zd3 (zP0 (zk1 rfl T.t.isi zW1 rfl T.t.tuple_ zl2 (by simp) (bv 4 rfl ⟨_,.inl rfl,_,rfl,zl9 (zO9 (zs3 rfl (bv 4 rfl (za6 NR (hr.mono (by decide)) rfl DR.restL.at_ DR.restL.fn.kp DR.restL.bd (za3 (bv 0 rfl (za2 (bv 1 rfl ⟨hs,a,b,R,rfl,ha,hb,hh,hal,hbl,hga,hgb,hR,fun o2 ho2=>zd79 hr.units (.inl rfl) (.inl rfl) (zU1 hoo) (zU1 (ho2.oks fun d hd=>hb.ok d (hR.sub d hd))) ?_⟩))))))))⟩))));rw [ho.uniq ho2,zc74,decide_eq_true rfl];exact hk
end
structure PkW (W : Wl) (q : Nat) (Wk : Wl) : Prop where
 form : ∃ n V,Wk = W++wl n :: V /\ 0 <= n
 at_ : zf4 Wk q
 lt : W.length < q
theorem PkW.pack {W Wk : Wl} {q : Nat} (h : PkW W q Wk) : zf4 Wk W.length:=by
 refine za0 fun gG=>?_;obtain ⟨n,V,rfl,h0⟩:=h.form;refine gG ?_;clear gG;exact ⟨n,by simp,h0⟩
theorem PkW.p {W Wk W' : Wl} {q : Nat} (h : PkW W q Wk) (pw : zg1 Wk W.length W') : PkW W q W':=by
 refine za0 fun gG=>?_;obtain ⟨m,hm,hm0⟩:=h.at_;refine gG ?_;clear gG;refine ⟨?_,⟨m,by rw [pw.get (by have:=h.lt; omega)]; exact hm,hm0⟩,h.lt⟩;refine za0 fun gG=>?_;obtain ⟨n,V,rfl,h0⟩:=h.form;obtain ⟨n',rfl,h0'⟩:=pw;refine gG ?_;clear gG;exact ⟨n',V,by simp,h0'⟩
theorem PkW.q {W Wk W' : Wl} {q : Nat} (h : PkW W q Wk) (pw : zg1 Wk q W') : PkW W q W':=by
 refine ⟨?_,pw.at h.at_.lt,h.lt⟩;have hlt:=h.lt;refine za0 fun gG=>?_;obtain ⟨n,V,rfl,h0⟩:=h.form;obtain ⟨n',rfl,h0'⟩:=pw;refine gG ?_;clear gG;refine ⟨n,V.set (q - W.length - 1) (wl n'),?_,h0⟩;rw [List.set_append_right _ _ (by omega)];obtain ⟨j,hj⟩ : ∃ j,q - W.length = j + 1:=⟨q - W.length - 1,by omega⟩
 rw [hj];rfl
theorem PkW.grow {W Wk : Wl} {q : Nat} (h : PkW W q Wk) (o : OD) : PkW W q (Wk++[o]):=by
 refine za0 fun gG=>?_;obtain ⟨n,V,e,h0⟩:=h.form;obtain ⟨m,hm,hm0⟩:=h.at_;refine gG ?_;clear gG;exact ⟨⟨n,V++[o],by rw [e]; simp,h0⟩,⟨m,by rw [ay8 (zd4 hm)]; exact hm,hm0⟩,h.lt⟩
theorem PkW.set {W Wk : Wl} {q t : Nat} (h : PkW W q Wk) (ht : W.length < t) (hq : q ≠ t) (o : OD) : PkW W q (Wk.set t o):=by
 refine za0 fun gG=>?_;obtain ⟨n,V,e,h0⟩:=h.form;obtain ⟨m,hm,hm0⟩:=h.at_;refine gG ?_;clear gG;refine ⟨⟨n,V.set (t - W.length - 1) o,?_,h0⟩,⟨m,by rw [cy6 (fy2 hq)]; exact hm,hm0⟩,h.lt⟩;rw [e,List.set_append_right _ _ (by omega)];obtain ⟨j,hj⟩ : ∃ j,t - W.length = j + 1:=⟨t - W.length - 1,by omega⟩
 rw [hj];rfl
theorem zd20 {X : Bc} {n : Nat} {S : Sl} {W : Wl} {D : DB} {st : Stmt} {rest : List Stmt} (Q : Sl->Wl->Prop) (h : BS X n S W st { D with nx:=Q }) (h2 : ∀ S' W',Q S' W'->BSs X n S' W' rest D) : BSs X n S W (st :: rest) D :=
 za4 fun pins s σ H E I zR=>by obtain ⟨F,A,hn,x0,r,sr,q⟩:=zR; exact h pins s σ H E I ⟨F,A,hn,x0,r,sr,⟨fun F' A' W' H' S' σ' x r' sr' z=>q.nx F' A' W' H' S' σ' x r' sr' (h2 S' W' z),q.bk,q.ct,q.rt⟩⟩
theorem zb06 {ds : List za7} (h : Goes ds) (n : Nat) : Goes (ds.take n):=by
 rw [zq3] at h ⊢;rw [<- uy8 n ds,zN9] at h;exact h.1
theorem ze7.sub {hs : List Str} {a b : List za7} (h : ze7 hs b) (hm : ∀ d∈a,d∈b) : ze7 hs a:=⟨fun d hd=>h.ok d (hm d hd),fun d hd=>h.x d (hm d hd),fun d hd=>h.y d (hm d hd)⟩
theorem ze7.nil (hs : List Str) : ze7 hs []:=⟨by simp,by simp,by simp⟩
structure Fit (hs : List Str) (a : List za7) : Prop where
 row : ze7 hs a
 go : Goes a
 len : a.length <= 100
section
variable {P : cy7} {w : World} {K : ay5} {mg : Str->Option Value} {base : Heap} {kA : Addr}
def rLaw : RB:=fun as W k=>∃ ns : List Int,as = [.s ns] /\ ns.length <= 63 /\ (∀ m∈ns,bits m <= 2 ^ 20) /\ ∀ V,k (.d (.bool true)) (W++V)
def zb07 (K : ay5) : Sp:=spB K rLaw
theorem zb08 {H : Hp} {a : Addr} {ns : List Int} (hl : ns.length <= 63) (hb : ∀ m∈ns,gy8 m <= 2 ^ 20) (hS : SqL K H a (ns.map V.int)) : zb07 K [.ref a] H (fun v _=>v = .bl true) fun _ _ _=>False :=
 ⟨H,[],[],[.s ns],fun e _=>e = .d (.bool true),⟨.refl _,rfl,List.nodup_nil,fun a h=>by simp at h,fun k a o h=>by simp at h⟩,.cons ⟨a,rfl,hS⟩ .nil,⟨ns,rfl,hl,hb,fun _=>rfl⟩,fun F' A' W' H' e v _ _ z h=>by subst h; exact Rq.zv3 z⟩
abbrev nLa : List Str:=["_law_script", "_law_pack_here", "_law_hands_here", "_law_ahead", "_law_k", "_law_digits", "_law_row_here", "_law_other", "_law_begin", "_law_odd", "_law_some", "_law_at", "_law_bent"]
theorem scLa : zb8 nLa ["_law_script"] (za1 sLaw):=⟨rfl,rfl,rfl,by decide +kernel,rfl,by decide +kernel,by decide +kernel⟩
theorem zX2 : nLa.Nodup:=by decide +kernel
def cLa : Scope:=match za9 sLaw with
 | [_,_,_,.For _ _ [_,_,_,_,_,_,_,_,_,.If (.UnaryOp _ (.Call _ [.ListComp _ _ sc _] _ _) _) _ _ _,_] _ _,_]=>sc
 | _=>zN1
theorem csLa : zb3 nLa (za1 sLaw) ["_law_one"] ["_law_other", "_law_row_here"] [7,6] cLa:=⟨rfl,by decide +kernel,by decide +kernel,by decide +kernel,rfl,by decide +kernel⟩
theorem zf35 : (["_law_one", "_law_other", "_law_row_here"] : List Str).Nodup:=by decide +kernel
structure zf36 (K : ay5) (mg : Str->Option Value) (hM hP hH hR hS hI : Addr) (cM cP cH cR cS cI : ey7) : Prop where
 mixed : Def K mg "_law_mixed" zt2 hM cM ["_law_cell"]
 pack : Def K mg "_law_pack" zM8 hP cP pPa
 hands : Def K mg "_law_hands" zx2 hH cH ["_law_pack_here"]
 row : Def K mg "_law_row" sRow hR cR pRo
 shuf : Def K mg "_law_shuffled" zN0 hS cS pSf
 right : Def K mg "_law_right" zx4 hI cI pBl
abbrev sLa2 (ns : List Int) (W : Wl) (hs : List Str) (ah : List za7) (c : Int) (q : Nat) (ds : List za7) (es : List za7) (bg : List za7) (od : List za7) (t : Nat) (x2 : Nat) (bt : List za7) : Sl:=[some (.s ns),some (.o W.length),some (.d (.list (hs.map .str))),some (.d (rP ah)),some (.d (.int c)),some (.o q),some (.d (rP ds)),some (.d (rP es)),some (.d (rP bg)),some (.d (rP od)),some (.o t),some (.d (.int x2)),some (.d (rP bt))]
abbrev zf37 (ns : List Int) (hs : List Str) (ah ds es bg od bt : List za7) (c : Int) (x2 q t : Nat) (W : Wl) : Sl->Wl->Prop:=fun S' W'=>∃ L : List (List za7),S' = sLa2 ns W hs ah c q ds es bg od t x2 bt /\ (∀ a∈L,Fit hs a) /\ L.length <= 6 /\ W'[t]? = some (.lst (zb4 (L.map rP))) /\ PkW W q W'
abbrev sLa1 (ns : List Int) (W : Wl) (hs : List Str) (ah : List za7) (o4 : Option El) (o5 : Option El) (o6 : Option El) (o7 : Option El) (o8 : Option El) (o9 : Option El) (oa : Option El) (ob : Option El) (oc : Option El) : Sl:=[some (.s ns),some (.o W.length),some (.d (.list (hs.map .str))),some (.d (rP ah)),o4,o5,o6,o7,o8,o9,oa,ob,oc]
abbrev iLaw (ns : List Int) (hs : List Str) (W : Wl) : Nat->Sl->Wl->Prop:=fun i S' W'=>∃ (n : Int) (V : Wl) (ah : List za7) (o4 o5 o6 o7 o8 o9 oa ob oc : Option El),0 <= n /\ W' = W++wl n :: V /\ Fit hs ah /\ S' = sLa1 ns W hs ah o4 o5 o6 o7 o8 o9 oa ob oc
set_option maxHeartbeats 2000000 in
theorem ze40 {f fN fD fC fO fB fH fS fV fL fG fF gH gV gA gC kB kR kI kT iR iS iT iD hM hP hH hR hS hI : Addr} {fd dN dD dC dO dB dH dS dV dL dG dF eH eV eA eC lB lR lI lT jR jS jT jD cM cP cH cR cS cI : ey7} (F : Fun K "law" "law" sLaw f fd) (T : zX7 K mg kA) (D : zb94 K mg fN fD fC fO fB fH fS fV fL fG fF dN dD dC dO dB dH dS dV dL dG dF) (E' : zb96 K mg gH gV gA gC eH eV eA eC) (DR : ze38 K mg kB kR kI kT lB lR lI lT) (DP : ze24 K mg iR iS iT iD jR jS jT jD) (DZ : zf36 K mg hM hP hH hR hS hI cM cP cH cR cS cI) : zj0 P w K mg base CX0 8 f fd ["_law_script"] (zb07 K):=by
 have NP:=@zc94 P w K mg base _ _ _ _ DZ.pack.fn DZ.mixed;have NH:=@zb70 P w K mg base _ _ _ _ DZ.hands.fn T.t DP.take;have N:=@zr5 P w K mg base _ _ DP.take.fn T.t;have NR:=ze25 (P:=P) (w:=w) (base:=base) DZ.row.fn T.t DP;have NS:=zd10 (P:=P) (w:=w) (base:=base) DZ.shuf.fn T.t DP.take E'.hand E'.can;have ND:=@zz5 P w K mg base _ _ _ _ DP.send.fn T.t DP.take;have NI:=zb98 (P:=P) (w:=w) (base:=base) DZ.right.fn T D E' DR;have NC:=@za79 P w K mg base _ _ E'.can.fn T.t;refine zo8 F scLa (fun as W k hR=>by obtain ⟨ns,e,_⟩:=hR; subst e; rfl) fun cc hr as W k hcl hR=>?_;refine za0 fun gG=>?_;obtain ⟨ns,e,hns,hbt,hk⟩:=hR;subst e;refine gG ?_;clear gG;refine za4 (zc0 (i:=1) zX2 rfl (Or.inl rfl) (za6 NP (hr.mono (by decide)) rfl DZ.pack.at_ DZ.pack.fn.kp DZ.pack.bd (za3 (bv 0 rfl (za2 (zb1 ⟨ns,0,rfl,hbt,hns,fun n0 hn0=>?_⟩))))));refine za4 (zc0 (i:=2) zX2 rfl (Or.inl rfl) (za6 NH (hr.mono (by decide)) rfl DZ.hands.at_ DZ.hands.fn.kp DZ.hands.bd (za2 (bv 1 rfl ⟨W.length,rfl,zf4.last hn0,fun hs W1 hho pw1=>?_⟩))));refine za0 fun gG=>?_;obtain ⟨n1,rfl,hn1⟩:=pw1.last;refine gG ?_;clear gG;have hh:=hho.names;have hh8:=hh.le;refine za4 (zc0 (i:=3) zX2 rfl (Or.inl rfl) (zm0 (zk0 ⟨[],rfl,dy9 _,?_⟩)));refine za4 (zs9 ly9 rfl (zp3 rfl T.t.range_ (zb1 ⟨8,rfl,by decide,by decide,W.length,iLaw ns hs W,ay6 _,dy9 _,by simp,⟨n1,[],[],none,none,none,none,none,none,none,none,none,hn1,rfl,⟨ze7.nil hs,fun i d h=>by simp at h,by simp⟩,rfl⟩,fun _ _ _ _ _=>trivial,?_,?_⟩)))
 ·intro i z S' W' hz gX;refine zd30 gX fun n V ah o4 o5 o6 o7 o8 o9 oa ob oc qA=>?_;clear gX;refine anE4 qA fun hn qe1 fah qe3=>?_;clear qA;subst qe1;subst qe3
  have hzi : ∃ c : Int,z = .int c:=by
   have:=cy8 hz;refine za0 fun gG=>?_;obtain ⟨j,_,rfl⟩:=cy3.mp this;refine gG ?_;clear gG;exact ⟨_,rfl⟩
  refine za0 fun gG=>?_;obtain ⟨c,rfl⟩:=hzi;refine gG ?_;clear gG;refine zm2 (i:=4) zX2 rfl (Or.inl rfl) ?_;refine za4 (zc0 (i:=5) zX2 rfl (Or.inl rfl) (za6 NP (hr.mono (by decide)) rfl DZ.pack.at_ DZ.pack.fn.kp DZ.pack.bd (za3 (bv 0 rfl (za2 (zf8 (zb1 (zf8 (zb1 (bv 4 rfl (zc12 (.inl ⟨by decide,by decide⟩) (zn6 ⟨ns,_,rfl,hbt,hns,fun m hm=>?_⟩))))))))))));obtain ⟨q,hq⟩ : ∃ q,q = (W++wl n :: V).length:=⟨_,rfl⟩
  have k1 : PkW W q (W++wl n :: V++[wl m]):=⟨⟨n,V++[wl m],by simp,hn⟩,by rw [hq]; exact zf4.last hm,by rw [hq]; simp⟩
  rw [<- hq];refine za4 (zc0 (i:=6) zX2 rfl (Or.inr rfl) (za6 NR (hr.mono (by decide)) rfl DZ.row.at_ DZ.row.fn.kp DZ.row.bd (za3 (bv 5 rfl (za3 (bv 2 rfl (za3 (za6 N (hr.mono (by decide)) rfl DP.take.at_ DP.take.fn.kp DP.take.bd (za3 (bv 1 rfl (za2 (zb1 ⟨W.length,13,rfl,k1.pack,by decide,by decide,fun r W2 r0 r1 pw2=>?_⟩))))))))))));obtain ⟨y,rfl⟩ : ∃ n : Nat,r = n:=⟨r.toNat,by omega⟩
  have k2:=k1.p pw2;refine za2 (zp1 ⟨q,y,hs,false,rfl,k2.at_,hh,by omega,fun ds W3 pw3 hrow hgo hlen=>?_⟩);have k3:=k2.q pw3;refine za4 (zc0 (i:=7) zX2 rfl (Or.inr rfl) (za6 NS (hr.mono (by decide)) rfl DZ.shuf.at_ DZ.shuf.fn.kp DZ.shuf.bd (za3 (bv 5 rfl (za3 (bv 6 rfl (za2 (zb1 ⟨q,30,hs,ds,rfl,k3.at_,hrow,hgo,by omega,by decide,fun es W5 Sm pw5=>?_⟩))))))));have k5:=k3.q pw5;have hel:=Sm.len;have fds : Fit hs ds:=⟨hrow,hgo,by omega⟩
  have fes : Fit hs es:=⟨Sm.row,Sm.go,by omega⟩
  refine za4 (zc0 (i:=8) zX2 rfl (Or.inl rfl) (zc8 (bv 7 rfl (ze4 (zd0 (za6 N (hr.mono (by decide)) rfl DP.take.at_ DP.take.fn.kp DP.take.bd (za3 (bv 1 rfl (za2 (zf8 (zb9 rfl T.t.len_ zl5 (za2 (bv 7 rfl (zh4 (zb1 (zn6 ⟨W.length,_,rfl,k5.pack,?_,?_,fun r W6 r0 r1 pw6=>⟨_,rfl,zn5 ?_⟩⟩))))))))))))))))
  ·rw [ay3]; omega
  ·rw [ay3]; omega
  obtain ⟨x,rfl⟩ : ∃ n : Nat,r = n:=⟨r.toNat,by omega⟩
  have k6:=k5.p pw6;rw [zm4,<- qy2];have fbg : Fit hs (es.take x):=⟨Sm.row.sub fun d hd=>hy4 hd,zb06 Sm.go x,by rw [dy1]; omega⟩
  have hbg : (es.take x).length <= 30:=by rw [dy1]; omega
  generalize es.take x = bg at fbg hbg ⊢;refine za4 (zc0 (i:=9) zX2 rfl (Or.inl rfl) (zf8 (bv 8 rfl (zm0 (za2 (za6 ND (hr.mono (by decide)) rfl DP.send.at_ DP.send.fn.kp DP.send.bd (za3 (bv 1 rfl (za2 (bv 2 rfl ⟨W.length,hs,rfl,k6.pack,hh,fun dd W7 dtk dok dx dy dw pw7=>⟨[dP dd],rfl,(by show 1 <= by3; decide),zq9 ?_ ?_⟩⟩))))))))))
  ·rw [ay3]; have:=fbg.len; exact zb6 (by show _ + 1 <= _; omega)
  have k7:=k6.p pw7;have edd : bg.map dP++[dP dd] = (bg++[dd]).map dP:=by simp
  rw [edd];have fod : Fit hs (bg++[dd]):=⟨fbg.row.snoc dok dx dy,zq2 fbg.go (by unfold zn1; rw [dtk]; rfl),by rw [cy5]; simp only [ny5]; omega⟩
  generalize bg++[dd] = od at fod ⊢;refine za4 (zc0 (i:=10) zX2 rfl (Or.inl rfl) (zq8 (za3 (bv 8 rfl (za3 (bv 9 rfl (za3 (bv 6 rfl (za3 (zm0 (zk0 ⟨[],rfl,dy9 _,za2 (bv 3 rfl ⟨(by show 5 <= by3; decide),?_⟩)⟩)))))))))));obtain ⟨t,ht⟩ : ∃ t,t = W7.length:=⟨_,rfl⟩
  have hqt : q ≠ t:=by rw [ht]; exact by8 k7.at_.lt
  have hWt : W.length < t:=by have:=k7.at_.lt; have:=k7.lt; omega
  have k8:=k7.grow (.lst [.d (.tuple (bg.map dP)),.d (.tuple (od.map dP)),.d (rP ds),.d (.tuple []),.d (rP ah)]);have g8 : (W7++[OD.lst [.d (.tuple (bg.map dP)),.d (.tuple (od.map dP)),.d (rP ds),.d (.tuple []),.d (rP ah)]])[t]? = some (.lst (zb4 ([bg,od,ds,[],ah].map rP))):=by rw [ht]; exact zd7
  rw [<- ht];generalize W7++[OD.lst [.d (.tuple (bg.map dP)),.d (.tuple (od.map dP)),.d (rP ds),.d (.tuple []),.d (rP ah)]] = W8 at k8 g8 ⊢;refine za4 (zc0 (i:=11) zX2 rfl (Or.inl rfl) (za6 N (hr.mono (by decide)) rfl DP.take.at_ DP.take.fn.kp DP.take.bd (za3 (bv 1 rfl (za2 (zf8 (zb9 rfl T.t.len_ zl5 (za2 (bv 6 rfl (zh4 (zb1 (zn6 ⟨W.length,_,rfl,k8.pack,?_,?_,fun r W9 r0 r1 pw9=>?_⟩))))))))))))
  ·rw [ay3]; omega
  ·rw [ay3]; omega
  rw [ay3] at r1;obtain ⟨x2,rfl⟩ : ∃ n : Nat,r = n:=⟨r.toNat,by omega⟩
  have k9:=k8.p pw9;have g9 : W9[t]? = some (.lst (zb4 ([bg,od,ds,[],ah].map rP))):=by rw [pw9.get (by omega)]; exact g8
  have c1 : (x2 : Int) + 1 = ((x2 + 1 : Nat) : Int):=by omega
  refine za4 (zc0 (i:=12) zX2 rfl (Or.inl rfl) (zf8 (zc8 (bv 6 rfl (ze4 (zd0 (bv 11 rfl ⟨_,rfl,zn5 (zc8 (bv 6 rfl (zd0 (zf8 (bv 11 rfl (zb1 (zn6 ⟨_,rfl,ze4 (zn5 (zq9 ?_ ?_))⟩)))))))⟩)))))))
  ·have h1:=zr4 (ds.map dP) none (some (x2 : Int));have h2:=zr4 (ds.map dP) (some ((x2 : Int) + 1)) none;rw [ay3] at h1 h2;exact zb6 (by omega)
  have ebt : zm1 (ds.map dP) none (some (x2 : Int))++zm1 (ds.map dP) (some ((x2 : Int) + 1)) none = (ds.take x2++ds.drop (x2 + 1)).map dP:=by rw [c1,zm4,zk8,gy1,qy2,List.map_drop]
  rw [ebt];have hbrow : ze7 hs (ds.take x2++ds.drop (x2 + 1)):=hrow.sub fun d hd=>(ey0.mp hd).elim hy4 List.mem_of_mem_drop;have hbl : (ds.take x2++ds.drop (x2 + 1)).length <= 100:=by rw [cy5,dy1,wy1]; omega
  generalize ds.take x2++ds.drop (x2 + 1) = bt at hbrow hbl ⊢;refine zd20 (zf37 ns hs ah ds es bg od bt c x2 q t W) (zi4 (zf9 (za6 NC (hr.mono (by decide)) rfl E'.can.at_ E'.can.fn.kp E'.can.bd (za2 (bv 12 rfl ⟨bt,rfl,hbrow.ok,by omega,fun g hg=>⟨_,rfl,?_⟩⟩))))) ?_
  ·have f5 : ∀ a∈[bg,od,ds,[],ah],Fit hs a:=by
    intro a ha;simp only [by7,my4,or_false] at ha;rcases ha with rfl | rfl | rfl | rfl | rfl
    ·exact fbg
    ·exact fod
    ·exact fds
    ·exact ⟨ze7.nil hs,fun i d h=>by simp at h,by simp⟩
    ·exact fah
   cases g with
   | false=>exact zl6 (zh1 ⟨[bg,od,ds,[],ah],rfl,f5,(by show 5 <= 6; decide),g9,k9⟩)
   | true =>
    refine zl9 (zb0 (ze9 (zn3 fy9 iy1 iy2 (bv 10 rfl ⟨.inl ⟨rfl,_,g9⟩,za2 (bv 12 rfl (zh0 g9 (by show 5 < by3; decide) ⟨[bg,od,ds,[],ah,bt],rfl,fun a ha=>?_,(by show 6 <= 6; decide),zd8 g9,k9.set hWt hqt _⟩))⟩))));have ha : a∈[bg,od,ds,[],ah]++[bt]:=ha;rcases ey0.mp ha with ha | ha
    ·exact f5 a ha
    ·cases ey2.mp ha;exact ⟨hbrow,hg.mp rfl,hbl⟩
  ·intro S2 W2 gX;refine za0 fun gG=>?_;obtain ⟨L,rfl,fL,hLl,g2,k2'⟩:=gX;refine gG ?_;clear gG;refine za4 (zi4 (zj1 (zf9 (zb9 rfl T.t.all_ zc92 (za2 (zk7 rfl csLa (za25 (bv 10 rfl ⟨t,L.map rP,rfl,g2,zz0 (fun _=>.bool true) g2 ?_ ?_ ?_⟩))))))))
   ·rw [ay3]; exact zb6 (by omega)
   ·intro z hz;refine za0 fun gG=>?_;obtain ⟨a,ha,rfl⟩:=cy3.mp hz;refine gG ?_;clear gG;have fa:=fL a ha;have la:=fa.len;refine ze2 (i:=0) zf35 rfl (by decide) (fun _ _ _ _ _=>Or.inl rfl) (fun _ _ _ _ _=>rfl) fun cl C ex s H=>?_;refine zP0 (za6 NI (hr.mono (by decide)) rfl DZ.right.at_ DZ.right.fn.kp DZ.right.bd (za3 (bv 0 rfl (za2 (bv 2 rfl ⟨hs,a,ds,rfl,fa.row,hrow,hh8,by omega,by omega,fa.go,hgo,_,rfl,zl9 (zP0 (za6 NI (hr.mono (by decide)) rfl DZ.right.at_ DZ.right.fn.kp DZ.right.bd (za3 (bv 0 rfl (za2 (bv 1 rfl ⟨hs,a,es,rfl,fa.row,Sm.row,hh8,by omega,by omega,fa.go,Sm.go,_,rfl,zl9 (zO9 (za6 NI (hr.mono (by decide)) rfl DZ.right.at_ DZ.right.fn.kp DZ.right.bd (za3 (bv 2 rfl (za2 (bv 0 rfl ⟨hs,ds,a,rfl,hrow,fa.row,hh8,by omega,by omega,hgo,fa.go,rfl,rfl⟩))))))⟩))))))⟩)))))
   ·have e : (L.map rP).map (fun _=>PyData.bool true) = (L.map fun _=>true).map .bool:=by rw [ey6,ey6]; rfl
    rw [e];refine za24 rfl (.inl rfl) ⟨_,rfl,?_⟩;rw [show (L.map fun _=>true).all id = true by simp];refine zl6 (zh1 (zb0 (zc0 (i:=3) zX2 rfl (Or.inl rfl) (bv 6 rfl ?_))));refine za0 fun gG=>?_;obtain ⟨n6,V6,e6,h6⟩:=k2'.form;refine gG ?_;clear gG;exact ⟨n6,V6,ds,_,_,_,_,_,_,_,_,_,h6,e6,fds,rfl⟩
 ·intro S' W' gX;refine zd30 gX fun n V ah o4 o5 o6 o7 o8 o9 oa ob oc qA=>?_;clear gX;refine anE4 qA fun hn qe1 fah qe3=>?_;clear qA;subst qe1;subst qe3;exact zb0 (zd3 (zp1 (hk _)))
end
theorem us1 {α : Type} {us : List α} (h : us.length = 1) : ∃ a,us = [a]:=List.length_eq_one_iff.mp h
theorem us2 {α : Type} {us : List α} (h : us.length = 2) : ∃ a b,us = [a,b]:=by
 cases us with
 | nil=>simp at h
 | cons a us=>obtain ⟨b,rfl⟩:=us1 (us:=us) (by simpa using h); exact ⟨a,b,rfl⟩
theorem us3 {α : Type} {us : List α} (h : us.length = 3) : ∃ a b c,us = [a,b,c]:=by
 cases us with
 | nil=>simp at h
 | cons a us=>obtain ⟨b,c,rfl⟩:=us2 (us:=us) (by simpa using h); exact ⟨a,b,c,rfl⟩
theorem us4 {α : Type} {us : List α} (h : us.length = 4) : ∃ a b c d,us = [a,b,c,d]:=by
 cases us with
 | nil=>simp at h
 | cons a us=>obtain ⟨b,c,d,rfl⟩:=us3 (us:=us) (by simpa using h); exact ⟨a,b,c,d,rfl⟩
theorem all_mk {l : PySem.W.OpenLaw} {w : World} {K : ay5} {h : Heap} {mg : Str->Option Value} {fa : Addr} {kdA : Addr} {odJ : Option Addr} {slJ : Array (Option Value)} {tl tn t1 t2 : Tok} {nK : Nat} (X : K.In h) (G : h.Ns cy0 mg) (hfa : mg "law" = some (.ref fa))
  {fN fD fO fC fF fB fCG fS fV fL fBE fRE fLO fX1 fP fR fH fX2 fX3 fX4 fQ fX5 fX6 fX7 fX8 fX9 fY1 fY2 fI fZ : Addr} {odN anN odD anD odO anO odC anC odF anF odB anB odCG anCG odS anS odV anV odL anL odBE anBE odRE anRE odLO anLO odX1 anX1 odP anP odR anR odH anH odX2 anX2 odX3 anX3 odX4 anX4 odQ anQ odX5 anX5 odX6 anX6 odX7 anX7 odX8 anX8 odX9 anX9 odY1 anY1 odY2 anY2 odI anI odZ anZ : Option Addr} {slN slD slO slC slF slB slCG slS slV slL slBE slRE slLO slX1 slP slR slH slX2 slX3 slX4 slQ slX5 slX6 slX7 slX8 slX9 slY1 slY2 slI slZ : Array (Option Value)} {ocN kVN dcN pmN cdN ctN ocD kVD dcD pmD cdD ctD ocO kVO dcO pmO cdO ctO ocC kVC dcC pmC cdC ctC ocF kVF dcF pmF cdF ctF ocB kVB dcB pmB cdB ctB ocCG kVCG dcCG pmCG cdCG ctCG ocS kVS dcS pmS cdS ctS ocV kVV dcV pmV cdV ctV ocL kVL dcL pmL cdL ctL ocBE kVBE dcBE pmBE cdBE ctBE ocRE kVRE dcRE pmRE cdRE ctRE ocLO kVLO dcLO pmLO cdLO ctLO ocX1 kVX1 dcX1 pmX1 cdX1 ctX1 ocP kVP dcP pmP cdP ctP ocR kVR dcR pmR cdR ctR ocH kVH dcH pmH cdH ctH ocX2 kVX2 dcX2 pmX2 cdX2 ctX2 ocX3 kVX3 dcX3 pmX3 cdX3 ctX3 ocX4 kVX4 dcX4 pmX4 cdX4 ctX4 ocQ kVQ dcQ pmQ cdQ ctQ ocX5 kVX5 dcX5 pmX5 cdX5 ctX5 ocX6 kVX6 dcX6 pmX6 cdX6 ctX6 ocX7 kVX7 dcX7 pmX7 cdX7 ctX7 ocX8 kVX8 dcX8 pmX8 cdX8 ctX8 ocX9 kVX9 dcX9 pmX9 cdX9 ctX9 ocY1 kVY1 dcY1 pmY1 cdY1 ctY1 ocY2 kVY2 dcY2 pmY2 cdY2 ctY2 ocI kVI dcI pmI cdI ctI ocZ kVZ dcZ pmZ cdZ ctZ : Value}
  (aN : cy4 K cy0 "is_name" = some (some (.ref fN))) (lN : K.lookup fN = some ⟨ocN,odN,.func (dy7 "is_name" "is_name" (zb7 zw9) (za9 zw9) (za1 zw9) .none kVN dcN pmN anN cdN ctN),slN⟩) (cN : dy2 K cdN "is_name" = true) (kN : dy0 K (.ref fN) = true)
  (aD : cy4 K cy0 "is_deed" = some (some (.ref fD))) (lD : K.lookup fD = some ⟨ocD,odD,.func (dy7 "is_deed" "is_deed" (zb7 zI5) (za9 zI5) (za1 zI5) .none kVD dcD pmD anD cdD ctD),slD⟩) (cD : dy2 K cdD "is_deed" = true) (kD : dy0 K (.ref fD) = true)
  (aO : cy4 K cy0 "hand_of" = some (some (.ref fO))) (lO : K.lookup fO = some ⟨ocO,odO,.func (dy7 "hand_of" "hand_of" (zb7 zl0) (za9 zl0) (za1 zl0) .none kVO dcO pmO anO cdO ctO),slO⟩) (cO : dy2 K cdO "hand_of" = true) (kO : dy0 K (.ref fO) = true)
  (aC : cy4 K cy0 "can_be_done" = some (some (.ref fC))) (lC : K.lookup fC = some ⟨ocC,odC,.func (dy7 "can_be_done" "can_be_done" (zb7 sCan) (za9 sCan) (za1 sCan) .none kVC dcC pmC anC cdC ctC),slC⟩) (cC : dy2 K cdC "can_be_done" = true) (kC : dy0 K (.ref fC) = true)
  (aF : cy4 K cy0 "do_deed" = some (some (.ref fF))) (lF : K.lookup fF = some ⟨ocF,odF,.func (dy7 "do_deed" "do_deed" (zb7 sDo) (za9 sDo) (za1 sDo) .none kVF dcF pmF anF cdF ctF),slF⟩) (cF : dy2 K cdF "do_deed" = true) (kF : dy0 K (.ref fF) = true)
  (aB : cy4 K cy0 "lines_behind" = some (some (.ref fB))) (lB : K.lookup fB = some ⟨ocB,odB,.func (dy7 "lines_behind" "lines_behind" (zb7 zo5) (za9 zo5) (za1 zo5) .none kVB dcB pmB anB cdB ctB),slB⟩) (cB : dy2 K cdB "lines_behind" = true) (kB : dy0 K (.ref fB) = true)
  (aCG : cy4 K cy0 "can_go" = some (some (.ref fCG))) (lCG : K.lookup fCG = some ⟨ocCG,odCG,.func (dy7 "can_go" "can_go" (zb7 zx0) (za9 zx0) (za1 zx0) .none kVCG dcCG pmCG anCG cdCG ctCG),slCG⟩) (cCG : dy2 K cdCG "can_go" = true) (kCG : dy0 K (.ref fCG) = true)
  (aS : cy4 K cy0 "hands_of" = some (some (.ref fS))) (lS : K.lookup fS = some ⟨ocS,odS,.func (dy7 "hands_of" "hands_of" (zb7 zh8) (za9 zh8) (za1 zh8) .none kVS dcS pmS anS cdS ctS),slS⟩) (cS : dy2 K cdS "hands_of" = true) (kS : dy0 K (.ref fS) = true)
  (aV : cy4 K cy0 "view" = some (some (.ref fV))) (lV : K.lookup fV = some ⟨ocV,odV,.func (dy7 "view" "view" (zb7 zy4) (za9 zy4) (za1 zy4) .none kVV dcV pmV anV cdV ctV),slV⟩) (cV : dy2 K cdV "view" = true) (kV : dy0 K (.ref fV) = true)
  (aL : cy4 K cy0 "least_behind" = some (some (.ref fL))) (lL : K.lookup fL = some ⟨ocL,odL,.func (dy7 "least_behind" "least_behind" (zb7 zi6) (za9 zi6) (za1 zi6) .none kVL dcL pmL anL cdL ctL),slL⟩) (cL : dy2 K cdL "least_behind" = true) (kL : dy0 K (.ref fL) = true)
  (aBE : cy4 K cy0 "is_beginning" = some (some (.ref fBE))) (lBE : K.lookup fBE = some ⟨ocBE,odBE,.func (dy7 "is_beginning" "is_beginning" (zb7 ze1) (za9 ze1) (za1 ze1) .none kVBE dcBE pmBE anBE cdBE ctBE),slBE⟩) (cBE : dy2 K cdBE "is_beginning" = true) (kBE : dy0 K (.ref fBE) = true)
  (aRE : cy4 K cy0 "rest" = some (some (.ref fRE))) (lRE : K.lookup fRE = some ⟨ocRE,odRE,.func (dy7 "rest" "rest" (zb7 zD4) (za9 zD4) (za1 zD4) .none kVRE dcRE pmRE anRE cdRE ctRE),slRE⟩) (cRE : dy2 K cdRE "rest" = true) (kRE : dy0 K (.ref fRE) = true)
  (aLO : cy4 K cy0 "left_of" = some (some (.ref fLO))) (lLO : K.lookup fLO = some ⟨ocLO,odLO,.func (dy7 "left_of" "left_of" (zb7 zM7) (za9 zM7) (za1 zM7) .none kVLO dcLO pmLO anLO cdLO ctLO),slLO⟩) (cLO : dy2 K cdLO "left_of" = true) (kLO : dy0 K (.ref fLO) = true)
  (aX1 : cy4 K cy0 "_law_mixed" = some (some (.ref fX1))) (lX1 : K.lookup fX1 = some ⟨ocX1,odX1,.func (dy7 "_law_mixed" "_law_mixed" (zb7 zt2) (za9 zt2) (za1 zt2) .none kVX1 dcX1 pmX1 anX1 cdX1 ctX1),slX1⟩) (cX1 : dy2 K cdX1 "_law_mixed" = true) (kX1 : dy0 K (.ref fX1) = true)
  (aP : cy4 K cy0 "_law_pack" = some (some (.ref fP))) (lP : K.lookup fP = some ⟨ocP,odP,.func (dy7 "_law_pack" "_law_pack" (zb7 zM8) (za9 zM8) (za1 zM8) .none kVP dcP pmP anP cdP ctP),slP⟩) (cP : dy2 K cdP "_law_pack" = true) (kP : dy0 K (.ref fP) = true)
  (aR : cy4 K cy0 "_law_take" = some (some (.ref fR))) (lR : K.lookup fR = some ⟨ocR,odR,.func (dy7 "_law_take" "_law_take" (zb7 zx1) (za9 zx1) (za1 zx1) .none kVR dcR pmR anR cdR ctR),slR⟩) (cR : dy2 K cdR "_law_take" = true) (kR : dy0 K (.ref fR) = true)
  (aH : cy4 K cy0 "_law_hands" = some (some (.ref fH))) (lH : K.lookup fH = some ⟨ocH,odH,.func (dy7 "_law_hands" "_law_hands" (zb7 zx2) (za9 zx2) (za1 zx2) .none kVH dcH pmH anH cdH ctH),slH⟩) (cH : dy2 K cdH "_law_hands" = true) (kH : dy0 K (.ref fH) = true)
  (aX2 : cy4 K cy0 "_law_sending" = some (some (.ref fX2))) (lX2 : K.lookup fX2 = some ⟨ocX2,odX2,.func (dy7 "_law_sending" "_law_sending" (zb7 zh9) (za9 zh9) (za1 zh9) .none kVX2 dcX2 pmX2 anX2 cdX2 ctX2),slX2⟩) (cX2 : dy2 K cdX2 "_law_sending" = true) (kX2 : dy0 K (.ref fX2) = true)
  (aX3 : cy4 K cy0 "_law_taking" = some (some (.ref fX3))) (lX3 : K.lookup fX3 = some ⟨ocX3,odX3,.func (dy7 "_law_taking" "_law_taking" (zb7 zl1) (za9 zl1) (za1 zl1) .none kVX3 dcX3 pmX3 anX3 cdX3 ctX3),slX3⟩) (cX3 : dy2 K cdX3 "_law_taking" = true) (kX3 : dy0 K (.ref fX3) = true)
  (aX4 : cy4 K cy0 "_law_done" = some (some (.ref fX4))) (lX4 : K.lookup fX4 = some ⟨ocX4,odX4,.func (dy7 "_law_done" "_law_done" (zb7 zM9) (za9 zM9) (za1 zM9) .none kVX4 dcX4 pmX4 anX4 cdX4 ctX4),slX4⟩) (cX4 : dy2 K cdX4 "_law_done" = true) (kX4 : dy0 K (.ref fX4) = true)
  (aQ : cy4 K cy0 "_law_row" = some (some (.ref fQ))) (lQ : K.lookup fQ = some ⟨ocQ,odQ,.func (dy7 "_law_row" "_law_row" (zb7 sRow) (za9 sRow) (za1 sRow) .none kVQ dcQ pmQ anQ cdQ ctQ),slQ⟩) (cQ : dy2 K cdQ "_law_row" = true) (kQ : dy0 K (.ref fQ) = true)
  (aX5 : cy4 K cy0 "_law_hand" = some (some (.ref fX5))) (lX5 : K.lookup fX5 = some ⟨ocX5,odX5,.func (dy7 "_law_hand" "_law_hand" (zb7 zp8) (za9 zp8) (za1 zp8) .none kVX5 dcX5 pmX5 anX5 cdX5 ctX5),slX5⟩) (cX5 : dy2 K cdX5 "_law_hand" = true) (kX5 : dy0 K (.ref fX5) = true)
  (aX6 : cy4 K cy0 "_law_view" = some (some (.ref fX6))) (lX6 : K.lookup fX6 = some ⟨ocX6,odX6,.func (dy7 "_law_view" "_law_view" (zb7 zp9) (za9 zp9) (za1 zp9) .none kVX6 dcX6 pmX6 anX6 cdX6 ctX6),slX6⟩) (cX6 : dy2 K cdX6 "_law_view" = true) (kX6 : dy0 K (.ref fX6) = true)
  (aX7 : cy4 K cy0 "_law_all_hands" = some (some (.ref fX7))) (lX7 : K.lookup fX7 = some ⟨ocX7,odX7,.func (dy7 "_law_all_hands" "_law_all_hands" (zb7 zx3) (za9 zx3) (za1 zx3) .none kVX7 dcX7 pmX7 anX7 cdX7 ctX7),slX7⟩) (cX7 : dy2 K cdX7 "_law_all_hands" = true) (kX7 : dy0 K (.ref fX7) = true)
  (aX8 : cy4 K cy0 "_law_can" = some (some (.ref fX8))) (lX8 : K.lookup fX8 = some ⟨ocX8,odX8,.func (dy7 "_law_can" "_law_can" (zb7 zD5) (za9 zD5) (za1 zD5) .none kVX8 dcX8 pmX8 anX8 cdX8 ctX8),slX8⟩) (cX8 : dy2 K cdX8 "_law_can" = true) (kX8 : dy0 K (.ref fX8) = true)
  (aX9 : cy4 K cy0 "_law_shuffled" = some (some (.ref fX9))) (lX9 : K.lookup fX9 = some ⟨ocX9,odX9,.func (dy7 "_law_shuffled" "_law_shuffled" (zb7 zN0) (za9 zN0) (za1 zN0) .none kVX9 dcX9 pmX9 anX9 cdX9 ctX9),slX9⟩) (cX9 : dy2 K cdX9 "_law_shuffled" = true) (kX9 : dy0 K (.ref fX9) = true)
  (aY1 : cy4 K cy0 "_law_begins" = some (some (.ref fY1))) (lY1 : K.lookup fY1 = some ⟨ocY1,odY1,.func (dy7 "_law_begins" "_law_begins" (zb7 zo6) (za9 zo6) (za1 zo6) .none kVY1 dcY1 pmY1 anY1 cdY1 ctY1),slY1⟩) (cY1 : dy2 K cdY1 "_law_begins" = true) (kY1 : dy0 K (.ref fY1) = true)
  (aY2 : cy4 K cy0 "_law_rest" = some (some (.ref fY2))) (lY2 : K.lookup fY2 = some ⟨ocY2,odY2,.func (dy7 "_law_rest" "_law_rest" (zb7 zq0) (za9 zq0) (za1 zq0) .none kVY2 dcY2 pmY2 anY2 cdY2 ctY2),slY2⟩) (cY2 : dy2 K cdY2 "_law_rest" = true) (kY2 : dy0 K (.ref fY2) = true)
  (aI : cy4 K cy0 "_law_right" = some (some (.ref fI))) (lI : K.lookup fI = some ⟨ocI,odI,.func (dy7 "_law_right" "_law_right" (zb7 zx4) (za9 zx4) (za1 zx4) .none kVI dcI pmI anI cdI ctI),slI⟩) (cI : dy2 K cdI "_law_right" = true) (kI : dy0 K (.ref fI) = true)
  (aZ : cy4 K cy0 "law" = some (some (.ref fZ))) (lZ : K.lookup fZ = some ⟨ocZ,odZ,.func (dy7 "law" "law" (zb7 sLaw) (za9 sLaw) (za1 sLaw) .none kVZ dcZ pmZ anZ cdZ ctZ),slZ⟩) (cZ : dy2 K cdZ "law" = true) (kZ : dy0 K (.ref fZ) = true)
  (z0 : cy4 K cy0 "isinstance" = some none)
  (z1 : cy4 K cy0 "int" = some none)
  (z2 : cy4 K cy0 "tuple" = some none)
  (z3 : cy4 K cy0 "len" = some none)
  (z4 : cy4 K cy0 "all" = some none)
  (z5 : cy4 K cy0 "abs" = some none)
  (z6 : cy4 K cy0 "range" = some none)
  (z7 : cy4 K cy0 "divmod" = some none)
  (z8 : cy4 K cy0 "sum" = some none)
  (z9 : cy4 K cy0 "sorted" = some none)
  (z10 : cy4 K cy0 "str" = some none)
  (z11 : cy4 K cy0 "enumerate" = some none)
  (z12 : cy4 K cy0 "max" = some none)
  (z13 : cy4 K cy0 "set" = some none)
  (z14 : cy4 K cy0 "bool" = some none)
  (z15 : cy4 K cy0 "dict" = some none)
  (z16 : cy4 K cy0 "list" = some none)
  (z17 : cy4 K cy0 "any" = some none)
  (z18 : cy4 K cy0 "min" = some none)
  (aLet : cy4 K cy0 "LETTERS" = some (some (.str "abcdefghijklmnopqrstuvwxyz" tl)))
  (aLon : cy4 K cy0 "LONGEST_NAME" = some (some (.int 8 tn)))
  (aKin : cy4 K cy0 "KINDS" = some (some (.ref kdA)))
  (lKin : K.lookup kdA = some ⟨.type "tuple",odJ,.seq #[.str "send" t1,.str "take" t2] nK,slJ⟩)
  : ∃ fd : ey7,(∀ (s : Shared) (v : Value),BindsTo s fd ⟨[v],[]⟩ [("_law_script",v)]) /\ ∀ base : Heap,K.In base->base.Ns cy0 mg->zj0 l.prog w K mg base CX0 8 fa fd ["_law_script"] (zb07 K):=by
 have e:=hfa.symm.trans (dy8 X G aZ);cases e;have T : zX7 K mg kdA:=⟨⟨ey3 X G z0,ey3 X G z1,ey3 X G z2,ey3 X G z3,ey3 X G z4,ey3 X G z5,ey3 X G z6,ey3 X G z7,ey3 X G z8,ey3 X G z9,ey3 X G z10,ey3 X G z11,ey3 X G z12,ey3 X G z13,ey3 X G z14,ey3 X G z15,ey3 X G z16,ey3 X G z17,ey3 X G z18⟩,⟨tl,dy8 X G aLet⟩,⟨tn,dy8 X G aLon⟩,dy8 X G aKin,fun H=>.inr ⟨_,_,_,lKin,rfl,rfl,(by show 2 <= by3; decide),.cons ⟨_,rfl⟩ (.cons ⟨_,rfl⟩ .nil)⟩⟩
 have FN:=zd1 (st:=zw9) lN cN kN;have FD:=zd1 (st:=zI5) lD cD kD;have FO:=zd1 (st:=zl0) lO cO kO;have FC:=zd1 (st:=sCan) lC cC kC;have FF:=zd1 (st:=sDo) lF cF kF;have FB:=zd1 (st:=zo5) lB cB kB;have FCG:=zd1 (st:=zx0) lCG cCG kCG;have FS:=zd1 (st:=zh8) lS cS kS;have FV:=zd1 (st:=zy4) lV cV kV;have FL:=zd1 (st:=zi6) lL cL kL;have FBE:=zd1 (st:=ze1) lBE cBE kBE;have FRE:=zd1 (st:=zD4) lRE cRE kRE;have FLO:=zd1 (st:=zM7) lLO cLO kLO;have FX1:=zd1 (st:=zt2) lX1 cX1 kX1;have FP:=zd1 (st:=zM8) lP cP kP;have FR:=zd1 (st:=zx1) lR cR kR;have FH:=zd1 (st:=zx2) lH cH kH;have FX2:=zd1 (st:=zh9) lX2 cX2 kX2;have FX3:=zd1 (st:=zl1) lX3 cX3 kX3;have FX4:=zd1 (st:=zM9) lX4 cX4 kX4;have FQ:=zd1 (st:=sRow) lQ cQ kQ;have FX5:=zd1 (st:=zp8) lX5 cX5 kX5;have FX6:=zd1 (st:=zp9) lX6 cX6 kX6;have FX7:=zd1 (st:=zx3) lX7 cX7 kX7;have FX8:=zd1 (st:=zD5) lX8 cX8 kX8;have FX9:=zd1 (st:=zN0) lX9 cX9 kX9;have FY1:=zd1 (st:=zo6) lY1 cY1 kY1;have FY2:=zd1 (st:=zq0) lY2 cY2 kY2;have FI:=zd1 (st:=zx4) lI cI kI;have FZ:=zd1 (st:=sLaw) lZ cZ kZ;have bN:=FN.binds (ps:=["thing"]) fun _ _ _ _ _ _ us hl=>by obtain ⟨a0,rfl⟩:=us1 hl; rfl
 have bD:=FD.binds (ps:=["thing"]) fun _ _ _ _ _ _ us hl=>by obtain ⟨a0,rfl⟩:=us1 hl; rfl
 have bO:=FO.binds (ps:=["deed"]) fun _ _ _ _ _ _ us hl=>by obtain ⟨a0,rfl⟩:=us1 hl; rfl
 have bC:=FC.binds (ps:=["lines", "deed"]) fun _ _ _ _ _ _ us hl=>by obtain ⟨a0,a1,rfl⟩:=us2 hl; rfl
 have bF:=FF.binds (ps:=["lines", "deed"]) fun _ _ _ _ _ _ us hl=>by obtain ⟨a0,a1,rfl⟩:=us2 hl; rfl
 have bB:=FB.binds (ps:=["row"]) fun _ _ _ _ _ _ us hl=>by obtain ⟨a0,rfl⟩:=us1 hl; rfl
 have bCG:=FCG.binds (ps:=["thing"]) fun _ _ _ _ _ _ us hl=>by obtain ⟨a0,rfl⟩:=us1 hl; rfl
 have bS:=FS.binds (ps:=["row"]) fun _ _ _ _ _ _ us hl=>by obtain ⟨a0,rfl⟩:=us1 hl; rfl
 have bV:=FV.binds (ps:=["row", "hand"]) fun _ _ _ _ _ _ us hl=>by obtain ⟨a0,a1,rfl⟩:=us2 hl; rfl
 have bL:=FL.binds (ps:=["begun", "views"]) fun _ _ _ _ _ _ us hl=>by obtain ⟨a0,a1,rfl⟩:=us2 hl; rfl
 have bBE:=FBE.binds (ps:=["row", "other"]) fun _ _ _ _ _ _ us hl=>by obtain ⟨a0,a1,rfl⟩:=us2 hl; rfl
 have bRE:=FRE.binds (ps:=["row", "other"]) fun _ _ _ _ _ _ us hl=>by obtain ⟨a0,a1,rfl⟩:=us2 hl; rfl
 have bLO:=FLO.binds (ps:=["row", "other", "hand"]) fun _ _ _ _ _ _ us hl=>by obtain ⟨a0,a1,a2,rfl⟩:=us3 hl; rfl
 have bX1:=FX1.binds (ps:=["_law_cell"]) fun _ _ _ _ _ _ us hl=>by obtain ⟨a0,rfl⟩:=us1 hl; rfl
 have bP:=FP.binds (ps:=["_law_script", "_law_k"]) fun _ _ _ _ _ _ us hl=>by obtain ⟨a0,a1,rfl⟩:=us2 hl; rfl
 have bR:=FR.binds (ps:=["_law_pack_here", "_law_size"]) fun _ _ _ _ _ _ us hl=>by obtain ⟨a0,a1,rfl⟩:=us2 hl; rfl
 have bH:=FH.binds (ps:=["_law_pack_here"]) fun _ _ _ _ _ _ us hl=>by obtain ⟨a0,rfl⟩:=us1 hl; rfl
 have bX2:=FX2.binds (ps:=["_law_pack_here", "_law_hands_here"]) fun _ _ _ _ _ _ us hl=>by obtain ⟨a0,a1,rfl⟩:=us2 hl; rfl
 have bX3:=FX3.binds (ps:=["_law_pack_here", "_law_under"]) fun _ _ _ _ _ _ us hl=>by obtain ⟨a0,a1,rfl⟩:=us2 hl; rfl
 have bX4:=FX4.binds (ps:=["_law_under", "_law_deed"]) fun _ _ _ _ _ _ us hl=>by obtain ⟨a0,a1,rfl⟩:=us2 hl; rfl
 have bQ:=FQ.binds (ps:=["_law_pack_here", "_law_hands_here", "_law_letters", "_law_story"]) fun _ _ _ _ _ _ us hl=>by obtain ⟨a0,a1,a2,a3,rfl⟩:=us4 hl; rfl
 have bX5:=FX5.binds (ps:=["_law_deed"]) fun _ _ _ _ _ _ us hl=>by obtain ⟨a0,rfl⟩:=us1 hl; rfl
 have bX6:=FX6.binds (ps:=["_law_row_here", "_law_hand_here"]) fun _ _ _ _ _ _ us hl=>by obtain ⟨a0,a1,rfl⟩:=us2 hl; rfl
 have bX7:=FX7.binds (ps:=["_law_row_here"]) fun _ _ _ _ _ _ us hl=>by obtain ⟨a0,rfl⟩:=us1 hl; rfl
 have bX8:=FX8.binds (ps:=["_law_row_here"]) fun _ _ _ _ _ _ us hl=>by obtain ⟨a0,rfl⟩:=us1 hl; rfl
 have bX9:=FX9.binds (ps:=["_law_pack_here", "_law_row_here", "_law_turns"]) fun _ _ _ _ _ _ us hl=>by obtain ⟨a0,a1,a2,rfl⟩:=us3 hl; rfl
 have bY1:=FY1.binds (ps:=["_law_row_here", "_law_other"]) fun _ _ _ _ _ _ us hl=>by obtain ⟨a0,a1,rfl⟩:=us2 hl; rfl
 have bY2:=FY2.binds (ps:=["_law_row_here", "_law_other"]) fun _ _ _ _ _ _ us hl=>by obtain ⟨a0,a1,rfl⟩:=us2 hl; rfl
 have bI:=FI.binds (ps:=["_law_row_here", "_law_other"]) fun _ _ _ _ _ _ us hl=>by obtain ⟨a0,a1,rfl⟩:=us2 hl; rfl
 exact ⟨dy7 "law" "law" (zb7 sLaw) (za9 sLaw) (za1 sLaw) .none kVZ dcZ pmZ anZ cdZ ctZ,fun s v=>.of_eq rfl,fun base _ _=>ze40 FZ T ⟨⟨⟨FN,bN,dy8 X G aN⟩,⟨FD,bD,dy8 X G aD⟩,⟨FC,bC,dy8 X G aC⟩,⟨FF,bF,dy8 X G aF⟩,⟨FB,bB,dy8 X G aB⟩,⟨FO,bO,dy8 X G aO⟩⟩,⟨FS,bS,dy8 X G aS⟩,⟨FV,bV,dy8 X G aV⟩,⟨FL,bL,dy8 X G aL⟩,⟨FCG,bCG,dy8 X G aCG⟩,⟨FLO,bLO,dy8 X G aLO⟩⟩ ⟨⟨FX5,bX5,dy8 X G aX5⟩,⟨FX6,bX6,dy8 X G aX6⟩,⟨FX7,bX7,dy8 X G aX7⟩,⟨FX8,bX8,dy8 X G aX8⟩⟩ ⟨⟨FY1,bY1,dy8 X G aY1⟩,⟨FY2,bY2,dy8 X G aY2⟩,⟨FBE,bBE,dy8 X G aBE⟩,⟨FRE,bRE,dy8 X G aRE⟩⟩ ⟨⟨FR,bR,dy8 X G aR⟩,⟨FX2,bX2,dy8 X G aX2⟩,⟨FX3,bX3,dy8 X G aX3⟩,⟨FX4,bX4,dy8 X G aX4⟩⟩ ⟨⟨FX1,bX1,dy8 X G aX1⟩,⟨FP,bP,dy8 X G aP⟩,⟨FH,bH,dy8 X G aH⟩,⟨FQ,bQ,dy8 X G aQ⟩,⟨FX9,bX9,dy8 X G aX9⟩,⟨FI,bI,dy8 X G aI⟩⟩⟩
theorem walk {l : PySem.W.OpenLaw} {q : cy7} {loose : List Str} {XP : (Str->Option Value)->Heap->Prop} {YP : World->Heap->Prop} {d : DefRec} {K : Params->ay5} (hn : l.most = some 63) (hdf : d.params.defaults = [])
  (hY : ∀ (w : World) (h : Heap),YP w h->(K w.params).In h)
  (F : ∀ (w : World) (mg : Str->Option Value) (fa : Addr) (h : Heap),(K w.params).In h->h.Ns cy0 mg->mg d.name = some (.ref fa) ->
   ∃ fd : ey7,(∀ (s : Shared) (u : Value),BindsTo s fd ⟨[u],[]⟩ [("_law_script",u)]) /\ ∀ base : Heap,(K w.params).In base->base.Ns cy0 mg->zj0 l.prog w (K w.params) mg base CX0 8 fa fd ["_law_script"] (zb07 (K w.params))) :
  PySem.W.WalkO q loose XP YP l.row.toRowW d [] (fun f vs=>PySem.call f vs) :=
 L2.zb34 (n:=63) (k:=8) (x := "_law_script") (CX:=fun _=>CX0) (sp:=fun w=>zb07 (K w.params)) hn (by decide) hdf ⟨rfl,by decide,by decide⟩ hY F (fun _ _ a ns hl hb _ hS=>zb08 hl hb hS) fun _ _ _ _ _ z=>z
end K1
open PySem PySem.W PyProof.Rows
set_option maxRecDepth 100000 in
set_option maxHeartbeats 0 in
theorem PySem.Challenge.cw_talehands_k16_beginnings_and_rests_holds : PySem.Challenge.rw_talehands_k16_beginnings_and_rests.Holds := by
 w_on; o_law; k_head; (case hw=>w_witness2)
 k_fill
 refine K1.walk (l:=PySem.Challenge.rw_talehands_k16_beginnings_and_rests) rfl rfl (fun w h Y=>PySem.W.kIn_of Y) ?F
 case F =>
  intro w mg fa h KX G hmg;refine' K1.all_mk KX G hmg ?aN ?lN ?cN ?kN ?aD ?lD ?cD ?kD ?aO ?lO ?cO ?kO ?aC ?lC ?cC ?kC ?aF ?lF ?cF ?kF ?aB ?lB ?cB ?kB ?aCG ?lCG ?cCG ?kCG ?aS ?lS ?cS ?kS ?aV ?lV ?cV ?kV ?aL ?lL ?cL ?kL ?aBE ?lBE ?cBE ?kBE ?aRE ?lRE ?cRE ?kRE ?aLO ?lLO ?cLO ?kLO ?aX1 ?lX1 ?cX1 ?kX1 ?aP ?lP ?cP ?kP ?aR ?lR ?cR ?kR ?aH ?lH ?cH ?kH ?aX2 ?lX2 ?cX2 ?kX2 ?aX3 ?lX3 ?cX3 ?kX3 ?aX4 ?lX4 ?cX4 ?kX4 ?aQ ?lQ ?cQ ?kQ ?aX5 ?lX5 ?cX5 ?kX5 ?aX6 ?lX6 ?cX6 ?kX6 ?aX7 ?lX7 ?cX7 ?kX7 ?aX8 ?lX8 ?cX8 ?kX8 ?aX9 ?lX9 ?cX9 ?kX9 ?aY1 ?lY1 ?cY1 ?kY1 ?aY2 ?lY2 ?cY2 ?kY2 ?aI ?lI ?cI ?kI ?aZ ?lZ ?cZ ?kZ ?z0 ?z1 ?z2 ?z3 ?z4 ?z5 ?z6 ?z7 ?z8 ?z9 ?z10 ?z11 ?z12 ?z13 ?z14 ?z15 ?z16 ?z17 ?z18 ?aLet ?aLon ?aKin ?lKin
  (case aN=>k_is)
  (case lN=>k_is)
  (case cN=>k_is)
  (case kN=>k_is)
  (case aD=>k_is)
  (case lD=>k_is)
  (case cD=>k_is)
  (case kD=>k_is)
  (case aO=>k_is)
  (case lO=>k_is)
  (case cO=>k_is)
  (case kO=>k_is)
  (case aC=>k_is)
  (case lC=>k_is)
  (case cC=>k_is)
  (case kC=>k_is)
  (case aF=>k_is)
  (case lF=>k_is)
  (case cF=>k_is)
  (case kF=>k_is)
  (case aB=>k_is)
  (case lB=>k_is)
  (case cB=>k_is)
  (case kB=>k_is)
  (case aCG=>k_is)
  (case lCG=>k_is)
  (case cCG=>k_is)
  (case kCG=>k_is)
  (case aS=>k_is)
  (case lS=>k_is)
  (case cS=>k_is)
  (case kS=>k_is)
  (case aV=>k_is)
  (case lV=>k_is)
  (case cV=>k_is)
  (case kV=>k_is)
  (case aL=>k_is)
  (case lL=>k_is)
  (case cL=>k_is)
  (case kL=>k_is)
  (case aBE=>k_is)
  (case lBE=>k_is)
  (case cBE=>k_is)
  (case kBE=>k_is)
  (case aRE=>k_is)
  (case lRE=>k_is)
  (case cRE=>k_is)
  (case kRE=>k_is)
  (case aLO=>k_is)
  (case lLO=>k_is)
  (case cLO=>k_is)
  (case kLO=>k_is)
  (case aX1=>k_is)
  (case lX1=>k_is)
  (case cX1=>k_is)
  (case kX1=>k_is)
  (case aP=>k_is)
  (case lP=>k_is)
  (case cP=>k_is)
  (case kP=>k_is)
  (case aR=>k_is)
  (case lR=>k_is)
  (case cR=>k_is)
  (case kR=>k_is)
  (case aH=>k_is)
  (case lH=>k_is)
  (case cH=>k_is)
  (case kH=>k_is)
  (case aX2=>k_is)
  (case lX2=>k_is)
  (case cX2=>k_is)
  (case kX2=>k_is)
  (case aX3=>k_is)
  (case lX3=>k_is)
  (case cX3=>k_is)
  (case kX3=>k_is)
  (case aX4=>k_is)
  (case lX4=>k_is)
  (case cX4=>k_is)
  (case kX4=>k_is)
  (case aQ=>k_is)
  (case lQ=>k_is)
  (case cQ=>k_is)
  (case kQ=>k_is)
  (case aX5=>k_is)
  (case lX5=>k_is)
  (case cX5=>k_is)
  (case kX5=>k_is)
  (case aX6=>k_is)
  (case lX6=>k_is)
  (case cX6=>k_is)
  (case kX6=>k_is)
  (case aX7=>k_is)
  (case lX7=>k_is)
  (case cX7=>k_is)
  (case kX7=>k_is)
  (case aX8=>k_is)
  (case lX8=>k_is)
  (case cX8=>k_is)
  (case kX8=>k_is)
  (case aX9=>k_is)
  (case lX9=>k_is)
  (case cX9=>k_is)
  (case kX9=>k_is)
  (case aY1=>k_is)
  (case lY1=>k_is)
  (case cY1=>k_is)
  (case kY1=>k_is)
  (case aY2=>k_is)
  (case lY2=>k_is)
  (case cY2=>k_is)
  (case kY2=>k_is)
  (case aI=>k_is)
  (case lI=>k_is)
  (case cI=>k_is)
  (case kI=>k_is)
  (case aZ=>k_is)
  (case lZ=>k_is)
  (case cZ=>k_is)
  (case kZ=>k_is)
  (case z0=>k_is)
  (case z1=>k_is)
  (case z2=>k_is)
  (case z3=>k_is)
  (case z4=>k_is)
  (case z5=>k_is)
  (case z6=>k_is)
  (case z7=>k_is)
  (case z8=>k_is)
  (case z9=>k_is)
  (case z10=>k_is)
  (case z11=>k_is)
  (case z12=>k_is)
  (case z13=>k_is)
  (case z14=>k_is)
  (case z15=>k_is)
  (case z16=>k_is)
  (case z17=>k_is)
  (case z18=>k_is)
  (case aLet=>k_is)
  (case aLon=>k_is)
  (case aKin=>k_is)
  (case lKin=>k_is)
