import PyProof.Rows.All
import Wide.All
import OpenK.AllK
import Wide.FinOn
import Lean
import PyProof.EqAt
import PyProof.EqKinds
import PyProof.TupleCall
import PySem.Challenge.RW_talehands_k17_whole_beginnings_go_on
open PySem renaming wpAny_bind → ay0, wpAny_pure → ay1, sizeLine → by0, mainGlobals → cy2, Program → cy6, wpAny_call_entry → dy6, foldedSetIterable → ey2, wpAny_newObj_type → ey3, FuncData → ey4, wpAny_callSpecial?_slot → ey5, starEach → ey8, bootBuiltins → ey9, wpAny_mono → fy2, wpAny_holding → fy3, compareOp → fy7, strKind → hy3, Spec → hy5, wpAny_setField_rec → iy7, mem_of_lookup → jy2, wpAny_field → jy3, codeAny_builtin → jy5, wpAny_setField → jy9, wpAny_dictEntries → ky1, plainId_quiet → ky3, wpAny_truthy_bool → ky8, wpAny_standAt → ly4, sysModules → ly6, assignEach → ly7, codeAny → my2, binaryOp → my6, DictEntry → my9, wpAny_dictEpoch → ny2, wpAny_typeNameOfWhole_itemiter → ny3, wpAny_rule → ny4, sizeLine_eq → ny6, wpAny_typeNameOfWhole_keyiter → ny9, wpAny_typeNameOfWhole_valiter → oy0, attributeBase → oy1, letOwnedTupleGo → oy4, wpAny_updateSeq → oy9, wpAny_isInstance → py0, wpAny_notOrdered_dict → py1, wpAny_attempt → py3, wpAny_typeNameOf_itemiter → py8, wpAny_passesOwn → qy0, wpAny_loadPart' → qy2, Builtin → qy4, wpAny_ite_split → qy5, wpAny_pyIter_slot → qy6, wpAny_typeNameOf_keyiter → qy9, wpAny_typeNameOf_valiter → ry0, wpAny_seqItems → sy7, wpAny_fieldsOf → sy9, setField → ty5, wpAny_typeOf → ty9, builtinLookup_eq_fast → uy3, wpAny_eqBool_str → vy5, NameKind → wy6
open PySem.Heap renaming get?_push_of_some → ay2, get?_push_size → ay7, lt_size → by6, get?_update_other → dy8, SameBut → fy0, get?_update_self → fy6, size_push → sy4
open List renaming getElem?_eq_some_iff → ay3, length_map → ay5, getElem?_append_left → ay8, getElem?_map → ay9, mem_cons_of_mem → by1, mem_cons_self → by2, length_append → by5, size_toArray → by7, mem_cons → by8, getElem?_eq_getElem → cy0, mem_of_getElem? → cy3, mem_map → cy4, getElem?_append_right → cy7, getElem?_set_ne → cy8, mem_append_right → dy0, length_take → dy3, mem_append → dy9, map_cons → ey6, take_add_one → ey7, mem_singleton → fy1, getElem?_set_self → fy9, take_length → gy0, map_map → gy1, map_append → gy2, mem_iff_getElem? → gy5, mem_filter → gy6, getElem?_take_of_lt → gy9, find?_cons → hy0, take_of_length_le → hy7, length_cons → hy8, range → iy3, mem_append_left → iy6, getElem_inj → jy8, append_assoc → ky2, mem_of_mem_take → ky4, map_congr_left → ky7, nodup_cons → ly5, not_mem_nil → my1, getElem?_eq_none → ny1, lookup_cons → ny7, length_set → oy5, take_append_drop → py4, drop_eq_getElem_cons → py9, ext_getElem? → qy7, any_cons → ry3, map_take → ry4, prefix_refl → ry7, take_prefix → ry8, getElem_mem → ry9, eq_nil_of_length_eq_zero → sy0, getD → sy1, mem_flatMap → sy2, take_left → sy6, filter_append → ty4, find?_eq_none → ty6, length_filter_le → uy1, mem_iff_getElem → vy2, length_drop → vy6, any_eq_true → vy7, length → vy9, append_nil → wy5, not_lt → wy9
open PySem.W renaming Frag → ay4, nsIn → cy5, keepIn → cy9, codeIn → dy1, fnOf → dy4, mg_of → dy5, mg_none_of → fy8, kia_one → jy1
open Nat renaming le_refl → ay6, lt_of_lt_of_le → by3, ne_of_lt → cy1, zero_le → dy7, le_trans → ey0, le_of_lt → ly8, lt_irrefl → my5, lt_of_le_of_lt → ny5, lt_succ_self → ny8, ne_of_gt → oy3, min_eq_left → oy6, add_sub_cancel_left → ry6, lt_succ_of_lt → vy0, le_succ_of_le → vy1
open Bool renaming false_ne_true → by9, false_eq_true → iy8, and_eq_true → my0, eq_iff_iff → qy1
open PySem.Value renaming ref → dy2, none → ey1, type → sy3, isStrOf_shape → vy8
open Ne renaming symm → fy4
open PySem.F renaming plainAttrs_list → fy5, plainAttrs_dict → iy1, slot_dict_itemiterator_next → iy2, plain_extend_loop → iy5, slot_dict_valueiterator_next → ky5, plain_min_loop → ky6, slot_list_append → ly1, type_list_append → ly2, slot_dict_keyiterator_next → ly3, slot_tuple_iterator_next → my3, slot_enumerate_next → oy8, slot_dict_get → py2, slot_dict_values → ry1, plain_list_iadd → ry5, plain_any_loop → ty3, type_dict_get → uy5
open PySem.Around renaming under_plainId → gy3
open PySem.Builtin.Dict_items renaming ownsTuple → gy4, ownedTupleFields → wy1, ownedTupleIsFree → wy2
open PySem.Builtin.Int renaming intBits → gy7
open Option renaming map_eq_some_iff → gy8, map_some → wy7
open PySem.Obj renaming data_mapFields → hy1, mapSeq → iy9, isFreed_of_fields → ny0, cls_mapFields → uy8, mapFields → uy9
open PySem.Heap.SameBut renaming update → hy4
open PyProof.Rows renaming slot_tuple_getitem → hy9, subscriptTail_builtinR → ty0, callWith_type1 → ty8
open Array renaming length_toList → iy0, getElem?_eq_none → my4, getElem?_toList → my8, getElem?_eq_getElem → py6
open PySem.PyData renaming str → iy4, canLayAll0 → ky9, eqv → ly0, eqvAll → my7, depthAll → oy7, canLay0 → sy5, strOk → uy2, int → wy8
open Option.some renaming inj → jy0
open PySem.Builtin.List renaming listExtendWith → jy4, listSameRef → qy8, listLengthHint → uy4, listTooLong → wy3
open PySem.Builtin.Dict renaming showsAll → jy6
open PySem.PassesOwn renaming never → jy7
open Int renaming toNat_natCast → ky0
open PySem.Str renaming ofString → ly9
open PySem.NameKind renaming free → oy2
open PySem.Builtin.Slice renaming slicePlaces → py5, sliceAdjust → vy3
open PySem.Builtin.SmallTypes renaming nextOf → py7, ownedTupleHandOut → vy4, ownedTupleIsFree → wy0
open PySem.Builtin.Tuple renaming tupleExact → qy3
open PySem.Builtin.Range renaming rangeSize → ry2
open PySem.SetTable renaming grown → sy8
open PySem.Calls renaming callWith_builtin → ty2
open Sum.inr renaming inj → ty7
open ForInStep renaming yield → uy0
open False renaming elim → uy6
open True renaming intro → uy7
open PySem.Builtin.Str renaming occurrences → wy4
open List.Perm renaming refl → xy0
open Sum renaming inr → xy1
noncomputable section
set_option Elab.async false
set_option linter.all false
set_option maxRecDepth 100000
set_option Elab.async false
set_option linter.all false
set_option maxRecDepth 100000
theorem anE3 {P0 P1 P2 G : Prop} (h : P0 /\ P1 /\ P2) (k : P0->P1->P2->G) : G:=by
 obtain ⟨a0,a1,a2⟩:=h;exact k a0 a1 a2
theorem anE4 {P0 P1 P2 P3 G : Prop} (h : P0 /\ P1 /\ P2 /\ P3) (k : P0->P1->P2->P3->G) : G:=by
 obtain ⟨a0,a1,a2,a3⟩:=h;exact k a0 a1 a2 a3
theorem anE5 {P0 P1 P2 P3 P4 G : Prop} (h : P0 /\ P1 /\ P2 /\ P3 /\ P4) (k : P0->P1->P2->P3->P4->G) : G:=by
 obtain ⟨a0,a1,a2,a3,a4⟩:=h;exact k a0 a1 a2 a3 a4
theorem anE6 {P0 P1 P2 P3 P4 P5 G : Prop} (h : P0 /\ P1 /\ P2 /\ P3 /\ P4 /\ P5) (k : P0->P1->P2->P3->P4->P5->G) : G:=by
 obtain ⟨a0,a1,a2,a3,a4,a5⟩:=h;exact k a0 a1 a2 a3 a4 a5
theorem anE7 {P0 P1 P2 P3 P4 P5 P6 G : Prop} (h : P0 /\ P1 /\ P2 /\ P3 /\ P4 /\ P5 /\ P6) (k : P0->P1->P2->P3->P4->P5->P6->G) : G:=by
 obtain ⟨a0,a1,a2,a3,a4,a5,a6⟩:=h;exact k a0 a1 a2 a3 a4 a5 a6
theorem anE8 {P0 P1 P2 P3 P4 P5 P6 P7 G : Prop} (h : P0 /\ P1 /\ P2 /\ P3 /\ P4 /\ P5 /\ P6 /\ P7) (k : P0->P1->P2->P3->P4->P5->P6->P7->G) : G:=by
 obtain ⟨a0,a1,a2,a3,a4,a5,a6,a7⟩:=h;exact k a0 a1 a2 a3 a4 a5 a6 a7
theorem anE9 {P0 P1 P2 P3 P4 P5 P6 P7 P8 G : Prop} (h : P0 /\ P1 /\ P2 /\ P3 /\ P4 /\ P5 /\ P6 /\ P7 /\ P8) (k : P0->P1->P2->P3->P4->P5->P6->P7->P8->G) : G:=by
 obtain ⟨a0,a1,a2,a3,a4,a5,a6,a7,a8⟩:=h;exact k a0 a1 a2 a3 a4 a5 a6 a7 a8
theorem zd61 {P0 P1 P2 P3 P4 P5 P6 P7 P8 P9 G : Prop} (h : P0 /\ P1 /\ P2 /\ P3 /\ P4 /\ P5 /\ P6 /\ P7 /\ P8 /\ P9) (k : P0->P1->P2->P3->P4->P5->P6->P7->P8->P9->G) : G:=by
 obtain ⟨a0,a1,a2,a3,a4,a5,a6,a7,a8,a9⟩:=h;exact k a0 a1 a2 a3 a4 a5 a6 a7 a8 a9
theorem ze91 {P0 P1 P2 P3 P4 P5 P6 P7 P8 P9 P10 G : Prop} (h : P0 /\ P1 /\ P2 /\ P3 /\ P4 /\ P5 /\ P6 /\ P7 /\ P8 /\ P9 /\ P10) (k : P0->P1->P2->P3->P4->P5->P6->P7->P8->P9->P10->G) : G:=by
 obtain ⟨a0,a1,a2,a3,a4,a5,a6,a7,a8,a9,a10⟩:=h;exact k a0 a1 a2 a3 a4 a5 a6 a7 a8 a9 a10
theorem ze92 {P0 P1 P2 P3 P4 P5 P6 P7 P8 P9 P10 P11 G : Prop} (h : P0 /\ P1 /\ P2 /\ P3 /\ P4 /\ P5 /\ P6 /\ P7 /\ P8 /\ P9 /\ P10 /\ P11) (k : P0->P1->P2->P3->P4->P5->P6->P7->P8->P9->P10->P11->G) : G:=by
 obtain ⟨a0,a1,a2,a3,a4,a5,a6,a7,a8,a9,a10,a11⟩:=h;exact k a0 a1 a2 a3 a4 a5 a6 a7 a8 a9 a10 a11
theorem exE2 {A0 A1 : Type} {p : A0->A1->Prop} {G : Prop} (h : ∃ a0 a1,p a0 a1) (k : ∀ a0 a1,p a0 a1->G) : G:=by
 obtain ⟨a0,a1,q⟩:=h;exact k a0 a1 q
theorem exE3 {A0 A1 A2 : Type} {p : A0->A1->A2->Prop} {G : Prop} (h : ∃ a0 a1 a2,p a0 a1 a2) (k : ∀ a0 a1 a2,p a0 a1 a2->G) : G:=by
 obtain ⟨a0,a1,a2,q⟩:=h;exact k a0 a1 a2 q
theorem exE4 {A0 A1 A2 A3 : Type} {p : A0->A1->A2->A3->Prop} {G : Prop} (h : ∃ a0 a1 a2 a3,p a0 a1 a2 a3) (k : ∀ a0 a1 a2 a3,p a0 a1 a2 a3->G) : G:=by
 obtain ⟨a0,a1,a2,a3,q⟩:=h;exact k a0 a1 a2 a3 q
theorem exE5 {A0 A1 A2 A3 A4 : Type} {p : A0->A1->A2->A3->A4->Prop} {G : Prop} (h : ∃ a0 a1 a2 a3 a4,p a0 a1 a2 a3 a4) (k : ∀ a0 a1 a2 a3 a4,p a0 a1 a2 a3 a4->G) : G:=by
 obtain ⟨a0,a1,a2,a3,a4,q⟩:=h;exact k a0 a1 a2 a3 a4 q
theorem exE6 {A0 A1 A2 A3 A4 A5 : Type} {p : A0->A1->A2->A3->A4->A5->Prop} {G : Prop} (h : ∃ a0 a1 a2 a3 a4 a5,p a0 a1 a2 a3 a4 a5) (k : ∀ a0 a1 a2 a3 a4 a5,p a0 a1 a2 a3 a4 a5->G) : G:=by
 obtain ⟨a0,a1,a2,a3,a4,a5,q⟩:=h;exact k a0 a1 a2 a3 a4 a5 q
theorem exE7 {A0 A1 A2 A3 A4 A5 A6 : Type} {p : A0->A1->A2->A3->A4->A5->A6->Prop} {G : Prop} (h : ∃ a0 a1 a2 a3 a4 a5 a6,p a0 a1 a2 a3 a4 a5 a6) (k : ∀ a0 a1 a2 a3 a4 a5 a6,p a0 a1 a2 a3 a4 a5 a6->G) : G:=by
 obtain ⟨a0,a1,a2,a3,a4,a5,a6,q⟩:=h;exact k a0 a1 a2 a3 a4 a5 a6 q
theorem exE9 {A0 A1 A2 A3 A4 A5 A6 A7 A8 : Type} {p : A0->A1->A2->A3->A4->A5->A6->A7->A8->Prop} {G : Prop} (h : ∃ a0 a1 a2 a3 a4 a5 a6 a7 a8,p a0 a1 a2 a3 a4 a5 a6 a7 a8) (k : ∀ a0 a1 a2 a3 a4 a5 a6 a7 a8,p a0 a1 a2 a3 a4 a5 a6 a7 a8->G) : G:=by
 obtain ⟨a0,a1,a2,a3,a4,a5,a6,a7,a8,q⟩:=h;exact k a0 a1 a2 a3 a4 a5 a6 a7 a8 q
theorem za0 {p : Prop} (h : (p->False)->False) : p:=Classical.byContradiction h
namespace L2
open PySem PySem.Spec PyProof.Rows
abbrev Key:=Sum Int Str
def zK6 : Key->Value->Bool
 | .inl k,v=>Value.isInt k v
 | .inr x,v=>Value.isStrOf x v
def keyH (w : World) : Key->Int
 | .inl k=>hashInt k
 | .inr x=>hashStr w x
theorem zd4 : ∀ {k : Key} {v : Value},zK6 k v = true->(∃ i t,k = Sum.inl i /\ v = Value.int i t) \/ (∃ x t,k = xy1 x /\ v = Value.str x t)
 | .inl i,v,h=>by
  obtain ⟨t,e⟩:=Value.isInt_shape (k:=i) (v:=v) h;exact .inl ⟨i,t,rfl,e⟩
 | .inr x,v,h=>by
  obtain ⟨t,e⟩:=vy8 (x:=x) (v:=v) h;exact .inr ⟨x,t,rfl,e⟩
theorem zZ3 (i : Int) (t : Tok) : zK6 (.inl i) (.int i t) = true:=by simp [zK6,Value.isInt]
theorem zZ4 (x : Str) (t : Tok) : zK6 (.inr x) (.str x t) = true:=by simp [zK6,Value.isStrOf]
theorem zd62 (a b : Int) : decide ((Sum.inl a : Key) = Sum.inl b) = (a == b):=by
 by_cases e : a = b
 ·subst e; simp
 ·have h : ¬ (Sum.inl a : Key) = Sum.inl b:=fun q=>e (Sum.inl.inj q);rw [decide_eq_false h];exact (beq_eq_false_iff_ne.mpr e).symm
theorem zd63 (a b : Str) : decide ((xy1 a : Key) = xy1 b) = decide (a = b):=by
 by_cases e : a = b
 ·subst e; simp
 ·have h : ¬ (xy1 a : Key) = xy1 b:=fun q=>e (ty7 q);rw [decide_eq_false h,decide_eq_false e]
theorem zd64 (a : Int) (b : Str) : decide ((Sum.inl a : Key) = xy1 b) = false:=decide_eq_false (fun q=>nomatch q)
theorem zd65 (a : Str) (b : Int) : decide ((xy1 a : Key) = Sum.inl b) = false:=decide_eq_false (fun q=>nomatch q)
def zc5 (prog : cy6) (w : World) : PySem.KeyKind prog w Key where
 is:=zK6
 hash:=keyH w
 inj:=fun v a b ha hb=>by
  rcases zd4 ha with ⟨i,t,rfl,rfl⟩ | ⟨x,t,rfl,rfl⟩
  ·rcases zd4 hb with ⟨j,u,rfl,e⟩ | ⟨y,u,rfl,e⟩
   ·injection e with e1 _; rw [e1]
   ·exact nomatch e
  ·rcases zd4 hb with ⟨j,u,rfl,e⟩ | ⟨y,u,rfl,e⟩
   ·exact nomatch e
   ·injection e with e1 _; rw [e1]
 byValue:=fun k v h=>by
  rcases zd4 h with ⟨i,t,rfl,rfl⟩ | ⟨x,t,rfl,rfl⟩ <;> rfl
 pyHash:=fun hv h=>by
  rcases zd4 hv with ⟨i,t,rfl,rfl⟩ | ⟨x,t,rfl,rfl⟩
  ·exact wpAny_pyHash_int h
  ·exact wpAny_pyHash_str h
 eqBool:=fun hu hv h=>by
  rcases zd4 hu with ⟨i,t,rfl,rfl⟩ | ⟨x,t,rfl,rfl⟩
  ·rcases zd4 hv with ⟨j,u,rfl,rfl⟩ | ⟨y,u,rfl,rfl⟩
   ·rw [zd62] at h; exact wpAny_eqBool_int h
   ·rw [zd64] at h; exact SeqAt.EqAt.int_str i t y u _ _ _ _ h
  ·rcases zd4 hv with ⟨j,u,rfl,rfl⟩ | ⟨y,u,rfl,rfl⟩
   ·rw [zd65] at h; exact SeqAt.EqAt.str_int x t j u _ _ _ _ h
   ·rw [zd63] at h; exact vy5 h
 «strs»:=fun k x t v h=>by
  rcases zd4 h with ⟨i,u,rfl,e⟩ | ⟨y,u,rfl,e⟩
  ·exact nomatch e
  ·injection e with e1 _
   subst e1;cases v <;> rfl
theorem zK7 (prog : cy6) (w : World) (i : Int) (t : Tok) : (zc5 prog w).is (.inl i) (.int i t) = true:=zZ3 i t
theorem zu6 (prog : cy6) (w : World) (x : Str) (t : Tok) : (zc5 prog w).is (.inr x) (.str x t) = true:=zZ4 x t
inductive V where
 | non | bl (b : Bool) | int (i : Int) | str (x : Str) | byt (b : Array UInt8) | flt (b : UInt64) | ref (a : Addr) | ty (n : String)
 deriving DecidableEq
def RelV : V->Value->Prop
 | .non,u=>u = ey1
 | .bl b,u=>u = Value.bool b
 | .int i,u=>∃ t,u = Value.int i t
 | .str x,u=>∃ t,u = Value.str x t
 | .byt b,u=>∃ t,u = Value.bytes b t
 | .flt b,u=>∃ t,u = Value.float b t
 | .ref a,u=>u = dy2 a
 | .ty n,u=>u = sy3 n
abbrev Vals : List V->List Value->Prop:=Paired RelV
theorem Vals.length {xs : List V} {us : List Value} (r : Vals xs us) : xs.length = us.length:=Paired.length r
theorem Vals.get : ∀ {xs : List V} {us : List Value} {i : Nat} {x : V},Vals xs us->xs[i]? = some x->∃ u,us[i]? = some u /\ RelV x u
 | _,_,_,_,.nil,e=>by simp at e
 | _,_,0,_,.cons r _,e=>by simp at e; subst e; exact ⟨_,rfl,r⟩
 | _,_,i + 1,x,.cons _ t,e=>by
  refine za0 fun gG=>?_;obtain ⟨u,h1,h2⟩:=Vals.get (i:=i) (x:=x) t (by simpa using e);refine gG ?_;clear gG;exact ⟨u,by simpa using h1,h2⟩
theorem Vals.set {x : V} {u : Value} (r : RelV x u) : ∀ {xs : List V} {us : List Value} (i : Nat),Vals xs us->Vals (xs.set i x) (us.set i u)
 | _,_,_,.nil=>.nil
 | _,_,0,.cons _ t=>.cons r t
 | _,_,i + 1,.cons q t=>.cons q (Vals.set r i t)
theorem Vals.append {xs ys : List V} {us ws : List Value} (h : Vals xs us) (s : Vals ys ws) : Vals (xs++ys) (us++ws):=by
 induction h with
 | nil=>exact s
 | cons r t ih=>exact .cons r ih
theorem Vals.take : ∀ {xs : List V} {us : List Value} (n : Nat),Vals xs us->Vals (xs.take n) (us.take n)
 | _,_,0,_=>.nil
 | _,_,_ + 1,.nil=>.nil
 | _,_,n + 1,.cons r t=>.cons r (Vals.take n t)
theorem Vals.drop : ∀ {xs : List V} {us : List Value} (n : Nat),Vals xs us->Vals (xs.drop n) (us.drop n)
 | _,_,0,r=>r
 | _,_,_ + 1,.nil=>.nil
 | _,_,n + 1,.cons _ t=>Vals.drop n t
def zF4 : Option V->Option Value->Prop
 | some v,some u=>RelV v u
 | none,none=>True
 | _,_=>False
def KV {κ : Type} : List (κ × V)->List (κ × Value)->Prop:=Paired fun (p : κ × V) (q : κ × Value)=>p.1 = q.1 /\ RelV p.2 q.2
def kV : Key->V
 | .inl i=>.int i
 | .inr x=>.str x
inductive HO where
 | lst (xs : List V)
 | tup (xs : List V)
 | dK (kvs : List (Key × V)) | dT (kvs : List (List Key × V))
 | set (S : Int->Bool) (n : Nat)
 | ins (C dx : Addr) (fs : List (Str × V))
 | own (x : Addr)
 | xd (fs : List (Str × V))
 | met (f x : Addr)
 | rng (lo hi : Int)
 | frz (o : Obj) (u : HO)
 | tbl (ps : Array Value)
 | ext (φ : Heap->Prop)
abbrev Hp:=Addr->Option HO
def upd (H : Hp) (a : Addr) (o : HO) : Hp:=fun b=>if b = a then some o else H b
theorem zb3 {H : Hp} {a : Addr} {o : HO} : upd H a o a = some o:=by unfold upd; rw [if_pos rfl]
theorem za8 {H : Hp} {a b : Addr} {o : HO} (h : b ≠ a) : upd H a o b = H b:=by unfold upd; rw [if_neg h]
theorem zK8 {H : Hp} {a b : Addr} {o u : HO} (h : H a = some o) (h' : H b = some u) (d : o ≠ u) : a ≠ b:=by
 intro e; subst e; rw [h] at h'; exact d (jy0 h')
theorem za6 {H : Hp} {a b : Addr} {o : HO} (h : H a = some o) (h' : H b = none) : a ≠ b:=by
 intro e; subst e; rw [h] at h'; cases h'
section
variable (P : cy6) (w : World)
def zb9 (H : Hp) (h : Heap) (a : Addr) : HO->Prop
 | .lst xs=>xs.length <= by0 /\ ∃ (its : List Value) (n : Nat),Vals xs its /\ h.get? a = some { cls:=.type "list",data:=.seq its.toArray n }
 | .tup xs=>xs.length <= by0 /\ ∃ its : List Value,Vals xs its /\ IsTup h a its.toArray
 | .dK kvs=>kvs.length <= by0 /\ (a == ly6) = false /\ ∃ vs,KV kvs vs /\ h.DictOf (zc5 P w) a vs
 | .dT kvs=>kvs.length <= by0 /\ (a == ly6) = false /\ ∃ xs : List (List Key × Addr × Value),
   Paired (fun (p : List Key × V) (q : List Key × Addr × Value)=>p.1 = q.1 /\ H q.2.1 = some (.tup (p.1.map kV)) /\ RelV p.2 q.2.2) kvs xs /\
   ∃ o es ep,h.get? a = some o /\ o.ExactDict /\ o.data = .dict es ep /\ es.toList = xs.map (entryOfKey (tupleKind (zc5 P w))) /\ (xs.map (·.1)).Nodup
 | .set S n=>h.SetOf (intKind P w) a S n
 | .ins C dx fs=>H dx = some (.own a) /\ fs.length <= 1000 /\ dx ≠ a /\ h.get? a = some (PySem.W.instObj C dx) /\
   ∃ mA,h.Ns1 dx mA /\ (∀ f,zF4 (fs.lookup f) (mA f)) /\ PySem.Within mA (fs.map (·.1))
 | .own _=>∃ o,h.get? a = some o
 | .xd fs=>∃ mA,h.Ns1 a mA /\ ∀ f,zF4 (fs.lookup f) (mA f)
 | .rng lo hi=>∃ t u v,h.get? a = some { cls:=.type "range",data:=.fields #[.int lo t,.int hi u,.int 1 v] }
 | .frz o u=>h.get? a = some o /\ zb9 H h a u
 | .tbl ps=>h.get? a = some { cls:=.none,data:=.fields ps }
 | .met f x=>h.get? a = some (PySem.W.methodObj (.ref f) (.ref x))
 | .ext φ=>φ h /\ (∃ o,h.get? a = some o) /\ ∀ h1 h2 : Heap,φ h1->(∀ o,h1.get? a = some o->h2.get? a = some o)->φ h2
def HOk (H : Hp) (h : Heap) : Prop:=∀ a o,H a = some o->zb9 P w H h a o
end
section
variable {P : cy6} {w : World} {H H' : Hp} {h h' : Heap} {a : Addr} {o : HO}
theorem zb9.lt (x : zb9 P w H h a o) : a < h.objs.size:=by
 cases o with
 | lst xs=>obtain ⟨_,_,_,_,e⟩:=x; exact by6 e
 | tup xs=>obtain ⟨_,_,_,p⟩:=x; exact p.lt
 | dK kvs=>obtain ⟨_,_,_,_,o,_,_,e,_⟩:=x; exact by6 e
 | dT kvs=>obtain ⟨_,_,_,_,o,_,_,e,_⟩:=x; exact by6 e
 | set S n=>obtain ⟨o,_,_,_,e,_⟩:=x; exact by6 e
 | ins C dx fs=>obtain ⟨_,_,_,e,_⟩:=x; exact by6 e
 | own y=>obtain ⟨_,e⟩:=x; exact by6 e
 | xd fs=>obtain ⟨_,⟨_,_,_,e,_⟩,_⟩:=x; exact by6 e
 | rng lo hi=>obtain ⟨_,_,_,e⟩:=x; exact by6 e
 | frz ob u=>obtain ⟨e,_⟩:=x; exact by6 e
 | tbl ps=>exact by6 (show h.get? a = some _ from x)
 | met f y=>exact by6 (show h.get? a = some _ from x)
 | ext φ=>obtain ⟨_,⟨_,e⟩,_⟩:=x; exact by6 e
theorem Paired.mapP {α β : Type} {F G : α->β->Prop} {l₁ : List α} {l₂ : List β} (p : Paired F l₁ l₂) (f : ∀ a b,F a b->G a b) : Paired G l₁ l₂:=by
 induction p with
 | nil=>exact .nil
 | cons a t ih=>exact .cons (f _ _ a) ih
theorem zb9.zU0 (x : zb9 P w H h a o) (k : ∀ b u,(b = a \/ H b = some (.own a))->h.get? b = some u->h'.get? b = some u)
  (ho : ∀ b,H b = some (.own a)->H' b = some (.own a)) (ht : ∀ b xs,H b = some (.tup xs)->H' b = some (.tup xs)) : zb9 P w H' h' a o:=by
 induction o with
 | lst xs=>obtain ⟨z,its,n,r,e⟩:=x; exact ⟨z,its,n,r,k _ _ (.inl rfl) e⟩
 | tup xs=>obtain ⟨z,its,r,ob,e,c⟩:=x; exact ⟨z,its,r,ob,k _ _ (.inl rfl) e,c⟩
 | dK kvs=>obtain ⟨z,y,vs,r,ob,es,ep,e,c⟩:=x; exact ⟨z,y,vs,r,ob,es,ep,k _ _ (.inl rfl) e,c⟩
 | dT kvs =>
  refine za0 fun gG=>?_;obtain ⟨z,y,xs,r,ob,es,ep,e,c⟩:=x;refine gG ?_;clear gG;exact ⟨z,y,xs,Paired.mapP r fun p q z=>⟨z.1,ht _ _ z.2.1,z.2.2⟩,ob,es,ep,k _ _ (.inl rfl) e,c⟩
 | set S n=>obtain ⟨ob,es,ep,t,e,c⟩:=x; exact ⟨ob,es,ep,t,k _ _ (.inl rfl) e,c⟩
 | ins C dx fs =>
  refine za0 fun gG=>?_;obtain ⟨d,z,ne,e,mA,⟨od,es,ep,e2,c⟩,r⟩:=x;refine gG ?_;clear gG;exact ⟨ho _ d,z,ne,k _ _ (.inl rfl) e,mA,⟨od,es,ep,k _ _ (.inr d) e2,c⟩,r⟩
 | own y=>obtain ⟨ob,e⟩:=x; exact ⟨ob,k _ _ (.inl rfl) e⟩
 | xd fs=>obtain ⟨mA,⟨od,es,ep,e,c⟩,r⟩:=x; exact ⟨mA,⟨od,es,ep,k _ _ (.inl rfl) e,c⟩,r⟩
 | rng lo hi=>obtain ⟨t,u,v,e⟩:=x; exact ⟨t,u,v,k _ _ (.inl rfl) e⟩
 | frz ob u ih=>obtain ⟨e,q⟩:=x; exact ⟨k _ _ (.inl rfl) e,ih q⟩
 | tbl ps =>
  have e : h.get? a = some { cls:=.none,data:=.fields ps }:=x;show h'.get? a = some { cls:=.none,data:=.fields ps };exact k a _ (.inl rfl) e
 | met f y =>
  have e : h.get? a = some (PySem.W.methodObj (.ref f) (.ref y)):=x;show h'.get? a = some (PySem.W.methodObj (.ref f) (.ref y));exact k a _ (.inl rfl) e
 | ext φ=>obtain ⟨p,⟨o,e⟩,st⟩:=x; exact ⟨st _ _ p fun o q=>k _ _ (.inl rfl) q,⟨o,k _ _ (.inl rfl) e⟩,st⟩
theorem HOk.lt (x : HOk P w H h) (e : H a = some o) : a < h.objs.size:=(x a o e).lt
theorem HOk.fresh (x : HOk P w H h) (e : h.objs.size <= a) : H a = none:=by
 cases q : H a with
 | none=>rfl
 | some u=>exact absurd (by3 (x.lt q) e) (my5 _)
theorem HOk.kept (x : HOk P w H h) (k : ∀ b u,h.get? b = some u->h'.get? b = some u) : HOk P w H h':=fun a o e =>
 (x a o e).zU0 (fun b u _ q=>k b u q) (fun _ q=>q) fun _ _ q=>q
theorem HOk.laid (x : HOk P w H h) (k : ∀ b u,h.get? b = some u->h'.get? b = some u) (hp : h.objs.size <= a) (new : zb9 P w (upd H a o) h' a o) : HOk P w (upd H a o) h':=fun b u e=>by
 have hn:=x.fresh hp
 by_cases hb : b = a
 ·subst hb; rw [zb3] at e; cases e; exact new
 ·rw [za8 hb] at e;exact (x b u e).zU0 (fun c v _ q=>k c v q) (fun c q=>by rw [za8 (za6 q hn)]; exact q) fun c xs q=>by rw [za8 (za6 q hn)]; exact q
end
def Rd (H : Hp) (a : Addr) (u : HO) : Prop:=H a = some u \/ ∃ o,H a = some (.frz o u)
theorem Rd.ok {P : cy6} {w : World} {H : Hp} {h : Heap} {a : Addr} {u : HO} (r : Rd H a u) (x : HOk P w H h) : zb9 P w H h a u:=by
 rcases r with r | ⟨o,r⟩
 ·exact x a u r
 ·obtain ⟨_,q⟩:=x a _ r;exact q
def Mut : Option HO->Prop
 | some (.lst _)=>True
 | some (.dK _)=>True
 | some (.dT _)=>True
 | some (.set _ _)=>True
 | some (.ins _ _ _)=>True
 | some (.ext _)=>True
 | _=>False
section
variable {P : cy6} {w : World} {H : Hp} {h h' : Heap} {x e : Addr} {o' : HO}
theorem HOk.write (ok : HOk P w H h) (mu : Mut (H x)) (he : e = x \/ H e = some (.own x)) (k : ∀ b u,b ≠ e->h.get? b = some u->h'.get? b = some u) (heo : ∃ u,h'.get? e = some u)
  (new : zb9 P w (upd H x o') h' x o') : HOk P w (upd H x o') h':=fun b u q=>by
 have nown : ∀ c y,H c = some (.own y)->c ≠ x:=fun c y r z=>by subst z; rw [r] at mu; exact mu
 have ntup : ∀ c xs,H c = some (.tup xs)->c ≠ x:=fun c xs r z=>by subst z; rw [r] at mu; exact mu
 by_cases hb : b = x
 ·subst hb; rw [zb3] at q; cases q; exact new
 ·rw [za8 hb] at q
  by_cases hbe : b = e
  ·have q' : H b = some (.own x):=by
    rcases he with z | z
    ·exact absurd (hbe.trans z) hb
    ·rw [hbe]; exact z
   rw [q] at q'; cases q';obtain ⟨v,hv⟩:=heo;exact ⟨v,by rw [hbe]; exact hv⟩
  ·refine (ok b u q).zU0 (fun c v hc r=>k c v ?_ r) (fun c r=>by rw [za8 (nown c b r)]; exact r) fun c xs r=>by rw [za8 (ntup c xs r)]; exact r
   rcases hc with rfl | hc
   ·exact hbe
   ·rintro rfl;rcases he with z | z
    ·exact nown c b hc z
    ·rw [hc] at z; cases z; exact hb rfl
end
structure Un (fs ex : List Addr) (H H' : Hp) (h h' : Heap) : Prop where
 keep : ∀ b o,h.get? b = some o->H b = none->b ∉ fs->b ∉ ex->h'.get? b = some o
 slot : ∀ b o,h.get? b = some o->H b = none->b∈fs->b ∉ ex->∃ sl,h'.get? b = some { o with slots:=sl }
 free : ∀ b o,h.get? b = some o->H b = none->b ∉ ex->H' b = none
 there : ∀ b o,h.get? b = some o->b ∉ ex->∃ o',h'.get? b = some o'
 tups : ∀ b xs,H b = some (.tup xs)->H' b = some (.tup xs)
 frzs : ∀ b o u,H b = some (.frz o u)->H' b = some (.frz o u)
 tbls : ∀ b ps,H b = some (.tbl ps)->∃ more,H' b = some (.tbl (ps++more))
section
variable {fs fs' ex ex' : List Addr} {H H1 H2 : Hp} {h h1 h2 h' : Heap} {a x e : Addr} {o : HO}
theorem Un.any (u : Un fs ex H H1 h h1) {b : Addr} {ob : Obj} (q : h.get? b = some ob) (n : H b = none) (hx : b ∉ ex) : ∃ sl,h1.get? b = some { ob with slots:=sl }:=by
 by_cases hb : b∈fs
 ·exact u.slot b ob q n hb hx
 ·exact ⟨ob.slots,u.keep b ob q n hb hx⟩
theorem Un.kept (k : ∀ b u,h.get? b = some u->h'.get? b = some u) : Un fs ex H H h h' :=
 ⟨fun b ob q _ _ _=>k b ob q,fun b ob q _ _ _=>⟨ob.slots,k b ob q⟩,fun _ _ _ n _=>n,fun b ob q _=>⟨ob,k b ob q⟩,fun _ _ q=>q,fun _ _ _ q=>q,fun _ ps q=>⟨#[],by rw [q]; simp⟩⟩
theorem Un.refl : Un fs ex H H h h:=Un.kept fun _ _ q=>q
theorem Un.laid (k : ∀ b u,h.get? b = some u->h'.get? b = some u) (hp : h.objs.size <= a) (hn : H a = none) : Un fs ex H (upd H a o) h h' where
 keep:=fun b u q _ _ _=>k b u q
 slot:=fun b u q _ _ _=>⟨u.slots,k b u q⟩
 free:=fun b u q n _=>by rw [za8 (cy1 (by3 (by6 q) hp))]; exact n
 there:=fun b u q _=>⟨u,k b u q⟩
 tups:=fun b xs q=>by rw [za8 (za6 q hn)]; exact q
 frzs:=fun b u xs q=>by rw [za8 (za6 q hn)]; exact q
 tbls:=fun b ps q=>⟨#[],by rw [za8 (za6 q hn),q]; simp⟩
theorem Un.write (mu : Mut (H x)) (he : e = x \/ H e = some (.own x)) (k : ∀ b u,b ≠ e->h.get? b = some u->h'.get? b = some u) (heo : ∃ u,h'.get? e = some u) : Un fs ex H (upd H x o) h h':=by
 have hx : ∀ b,H b = none->b ≠ x:=fun b n z=>by subst z; rw [n] at mu; exact mu
 have hb : ∀ b,H b = none->b ≠ e:=fun b n z=>by
  subst z;rcases he with r | r
  ·exact hx b n r
  ·rw [n] at r; cases r
 have hm : ∀ b u,H b = some u->¬ Mut (some u)->b ≠ x:=fun b u q nm z=>by subst z; rw [q] at mu; exact nm mu
 refine ⟨fun b u q n _ _=>k b u (hb b n) q,fun b u q n _ _=>⟨u.slots,k b u (hb b n) q⟩,fun b u q n _=>by rw [za8 (hx b n)]; exact n,fun b u q _=>?_,
  fun b xs q=>by rw [za8 (hm b _ q fun z=>z)]; exact q,fun b u xs q=>by rw [za8 (hm b _ q fun z=>z)]; exact q,fun b ps q=>⟨#[],by rw [za8 (hm b _ q fun z=>z),q]; simp⟩⟩
 by_cases hbe : b = e
 ·subst hbe; exact heo
 ·exact ⟨u,k b u hbe q⟩
end
def trk (h : Heap) (H : Hp) : List Addr:=(iy3 h.objs.size).filter fun a=>(H a).isSome
def hidT (h : Heap) (H : Hp) : Heap:=PySem.W.hideAll h (trk h H)
theorem zZ5 (h : Heap) (H : Hp) : (hidT h H).objs.size = h.objs.size:=PySem.W.hideAll_size _ _
theorem zb27 {h : Heap} {H : Hp} {b : Addr} {o : Obj} (e : h.get? b = some o) (n : H b = none) : (hidT h H).get? b = some o :=
 PySem.W.hideAll_get _ e fun hm=>by
  have q : (H b).isSome = true:=(gy6.mp hm).2;rw [n] at q; simp at q
theorem zc57 {h : Heap} {H : Hp} {b : Addr} {o : Obj} (e : (hidT h H).get? b = some o) : h.get? b = some o /\ H b = none:=by
 have e' : h.get? b = some o:=PySem.W.of_hideAll (trk h H) e;refine ⟨e',?_⟩;cases q : H b with
 | none=>rfl
 | some x =>
  have hm : b∈trk h H:=gy6.mpr ⟨List.mem_range.mpr (by6 e'),by simp [q]⟩;have z : (hidT h H).get? b = none:=PySem.W.hideAll_none (trk h H) hm;rw [z] at e; cases e
structure Mod (K : ay4) (mg : Str->Option Value) (base : Heap) : Prop where
 kin : K.In base
 glob : base.Ns cy2 mg
 blt : ∃ mb,base.Ns builtinsNs mb /\ ∀ x : Str,x ≠ "__name__" -> mb x = ey9 x
 nolimit : base.NoLimit
structure Cx where
 prog : cy6
 w : World
 K : ay4
 mg : Str->Option Value
 base : Heap
 A : Around
 N : List Str
 s₀ : Shared
 H₀ : Hp
 env : Env
 outer : List Env
 stack : List Env
 ex : List Addr
 fn : Str->Bool
 calm : Bool
 pn : List (Addr × Obj)
 xe : Value->Shared->Prop
def frs (l : List Env) : List Addr:=l.filterMap (·.frame)
abbrev Cx.fs (X : Cx) : List Addr:=frs X.outer
def Vis (sc : Scope) (x : Str) : Prop:=sc.names.lookup x = some .local \/ sc.names.lookup x = some .cell \/ sc.names.lookup x = some .free
def Loc (sc : Scope) (x : Str) : Prop:=sc.names.lookup x = some .local \/ sc.names.lookup x = some .cell
def Look (env : Env) (h : Heap) (m : Str->Option Value) (x : Str) (u : Value) : Prop :=
 (env.kindOf x = some .local /\ m x = some u) \/ ((env.kindOf x = some .cell \/ env.kindOf x = some .free) /\ ∃ c,env.cells.lookup x = some c /\ h.IsCell c (some u))
structure Cx.Ok (X : Cx) : Prop where
 mod : Mod X.K X.mg X.base
 kind : X.env.scope.kind = .function
 glob : X.env.globals = cy2
 blt : X.env.builtins = builtinsNs
 above : X.s₀.heap.objs.size <= X.env.locals
 inj : ∀ x y c,X.env.cells.lookup x = some c->X.env.cells.lookup y = some c->x = y
 has : ∀ x,(X.env.kindOf x = some .cell \/ X.env.kindOf x = some .free)->∃ c,X.env.cells.lookup x = some c
 cab : ∀ x c,X.fn x = true->X.env.cells.lookup x = some c->X.s₀.heap.objs.size <= c
 hd : X.calm = true->X.A.handled = none
 frames : X.A.frames = some X.stack
 stk : X.stack = X.outer \/ (X.stack = X.env :: X.outer /\ X.env.frame = some X.env.locals)
 exf : ∀ b∈X.ex,b ≠ X.env.locals /\ ∀ x c,X.env.cells.lookup x = some c->c ≠ b
 bs : ∀ b o,X.base.get? b = some o->X.s₀.heap.get? b = some o /\ X.H₀ b = none
 bsz : X.base.objs.size <= X.s₀.heap.objs.size
 noex : ∀ b o,X.base.get? b = some o->b ∉ X.ex
 exfs : ∀ b∈X.ex,b ∉ X.fs
 zU1 : X.s₀.heap.FunFrames X.base X.outer
 frf : ∀ b∈X.fs,X.H₀ b = none
structure Inv (X : Cx) (pins : List (Addr × Obj)) (σ : List (Option V)) (H : Hp) (s : Shared) : Prop where
 ok : X.Ok
 os : s.os = X.s₀.os
 bare : AllBare s.gens
 base : Un X.fs X.ex X.H₀ H X.s₀.heap s.heap
 loc : ∃ m,s.heap.Ns X.env.locals m /\ ∀ (i : Nat) (x : Str) (v : V),X.N[i]? = some x->σ[i]? = some (some v)->Vis X.env.scope x->∃ u,RelV v u /\ Look X.env s.heap m x u
 cell : ∀ x c,X.env.cells.lookup x = some c->∃ v,s.heap.IsCell c v
 free : H X.env.locals = none
 freeC : ∀ x c,X.env.cells.lookup x = some c->H c = none
 pin : ∀ p∈X.pn++pins,s.heap.get? p.1 = some p.2 /\ H p.1 = none /\ p.1 ≠ X.env.locals /\ p.1 ∉ X.fs /\ ∀ v,p.2.data ≠ .cell v
 hok : HOk X.prog X.w H s.heap
 len : σ.length = X.N.length
section
variable {X : Cx} {pins : List (Addr × Obj)} {σ : List (Option V)} {H H' : Hp} {s : Shared} {h' : Heap}
theorem Cx.Ok.nofr (ok : X.Ok) {b : Addr} {o : Obj} (e : X.base.get? b = some o) : b ∉ X.fs:=fun hb=>by
 have:=(ok.zU1.mem hb).1;rw [e] at this; cases this
theorem Inv.bs (I : Inv X pins σ H s) : ∀ b o,X.base.get? b = some o->s.heap.get? b = some o /\ H b = none:=fun b o e =>
 ⟨I.base.keep b o (I.ok.bs b o e).1 (I.ok.bs b o e).2 (I.ok.nofr e) (I.ok.noex b o e),I.base.free b o (I.ok.bs b o e).1 (I.ok.bs b o e).2 (I.ok.noex b o e)⟩
theorem Inv.bk (I : Inv X pins σ H s) : ∀ b o,X.base.get? b = some o->s.heap.get? b = some o:=fun b o e=>(I.bs b o e).1
theorem Inv.mod (I : Inv X pins σ H s) : Mod X.K X.mg X.base:=I.ok.mod
theorem Inv.kIn (I : Inv X pins σ H s) : X.K.In s.heap:=I.ok.mod.kin.keeps I.bk
theorem Inv.fr (I : Inv X pins σ H s) : ∃ m,Fr X.base X.env.locals s.heap m :=
 let ⟨m,hn,_⟩:=I.loc
 ⟨m,hn,I.bk,ey0 I.ok.bsz I.ok.above⟩
theorem Inv.lt (I : Inv X pins σ H s) : X.env.locals < s.heap.objs.size:=let ⟨_,hn,_⟩:=I.loc; hn.lt
theorem Inv.sz (I : Inv X pins σ H s) : X.s₀.heap.objs.size <= s.heap.objs.size:=ey0 I.ok.above (ly8 I.lt)
theorem Inv.nofs (I : Inv X pins σ H s) {a : Addr} (h : s.heap.objs.size <= a) : a ∉ X.fs:=fun hb=>by
 refine za0 fun gG=>?_;obtain ⟨_,o,ho,_⟩:=I.ok.zU1.mem hb;refine gG ?_;clear gG;exact absurd (by3 (by6 ho) (ey0 I.sz h)) (my5 _)
theorem Inv.cne (I : Inv X pins σ H s) : ∀ x c,X.env.cells.lookup x = some c->c ≠ X.env.locals:=fun x c e z=>by
 refine za0 fun gG=>?_;obtain ⟨v,o,ho,hd⟩:=I.cell x c e;obtain ⟨m,⟨o',es,ep,ho',hd',_⟩,_⟩:=I.loc;refine gG ?_;clear gG;rw [z,ho'] at ho; cases ho; rw [hd'] at hd; cases hd
theorem Inv.zU1 (I : Inv X pins σ H s) : s.heap.FunFrames X.base X.outer:=by
 have all : ∀ (l : List Env),(∀ b∈frs l,b∈X.fs)->X.s₀.heap.FunFrames X.base l->s.heap.FunFrames X.base l:=by
  intro l
  induction l with
  | nil=>intro _ _; trivial
  | cons env r ih =>
   intro hs hl;refine za0 fun gG=>?_;obtain ⟨hk,⟨L,o,hf,hn,ho,hd⟩,hr⟩:=hl;refine gG ?_;clear gG;have hL : L∈X.fs:=hs L (by unfold frs; rw [List.filterMap_cons,hf]; exact by2);obtain ⟨sl,e⟩:=I.base.slot L o ho (I.ok.frf L hL) hL fun z=>I.ok.exfs L z hL;exact ⟨hk,⟨L,_,hf,hn,e,hd⟩,ih (fun b hb=>hs b (by unfold frs; rw [List.filterMap_cons,hf]; exact by1 _ hb)) hr⟩
 exact all X.outer (fun _ hb=>hb) I.ok.zU1
theorem Inv.stack (I : Inv X pins σ H s) : s.heap.FunFrames X.base X.stack:=by
 rcases I.ok.stk with e | ⟨e,hf⟩
 ·rw [e]; exact I.zU1
 ·rw [e];refine za0 fun gG=>?_;obtain ⟨m,hn,_⟩:=I.loc;refine gG ?_;clear gG;refine .cons (by rw [I.ok.kind]; decide) hf hn ?_ I.zU1;exact Heap.get?_none_of_le (ey0 I.ok.bsz I.ok.above)
theorem Inv.zZ6 (I : Inv X pins σ H s) : ∀ b∈frs X.stack,b∈X.env.locals :: X.fs:=fun b hb=>by
 rcases I.ok.stk with e | ⟨e,hf⟩
 ·rw [e] at hb; exact by1 _ hb
 ·rw [e] at hb;unfold frs at hb;rw [List.filterMap_cons,hf] at hb;exact hb
theorem Inv.zZ7 (I : Inv X pins σ H s) : ∀ b∈frs X.stack,H b = none:=fun b hb=>by
 rcases by8.mp (I.zZ6 b hb) with e | hb
 ·rw [e]; exact I.free
 ·refine za0 fun gG=>?_;obtain ⟨_,o,ho,_⟩:=I.ok.zU1.mem hb;refine gG ?_;clear gG;exact I.base.free b o ho (I.ok.frf b hb) fun z=>I.ok.exfs b z hb
theorem Inv.step {g' : Array GenState} {t' : Nat} {d' : Drawn} {ch : List Addr} (I : Inv X pins σ H s)
  (hch : ∀ b∈ch,(b∈X.ex \/ X.s₀.heap.objs.size <= b) /\ b ≠ X.env.locals /\ (∀ x c,X.env.cells.lookup x = some c->c ≠ b) /\ ∀ p∈X.pn++pins,p.1 ≠ b)
  (keep : ∀ b o,b ≠ X.env.locals->b ∉ X.fs->b ∉ ch->s.heap.get? b = some o->H b = none->h'.get? b = some o)
  (slot : ∀ b o,b ≠ X.env.locals->b∈X.fs->b ∉ ch->s.heap.get? b = some o->H b = none->∃ sl,h'.get? b = some { o with slots:=sl }) (free : ∀ b o,b ∉ ch->s.heap.get? b = some o->H b = none->H' b = none)
  (there : ∀ b o,b ∉ ch->s.heap.get? b = some o->∃ o',h'.get? b = some o')
  (tups : ∀ b xs,H b = some (.tup xs)->H' b = some (.tup xs)) (frzs : ∀ b o u,H b = some (.frz o u)->H' b = some (.frz o u)) (tbls : ∀ b ps,H b = some (.tbl ps)->∃ more,H' b = some (.tbl (ps++more)))
  (ns : ∀ m,s.heap.Ns X.env.locals m->h'.Ns X.env.locals m) (hok : HOk X.prog X.w H' h') (hg : AllBare g') :
  Inv X pins σ H' { s with heap:=h',gens:=g',drawn:=d',toks:=t' }:=by
 have neL : ∀ b o,X.s₀.heap.get? b = some o->b ≠ X.env.locals:=fun b o e=>cy1 (by3 (by6 e) I.ok.above)
 have neC : ∀ b o,X.s₀.heap.get? b = some o->b ∉ X.ex->b ∉ ch:=fun b o e hx hb=>by
  rcases (hch b hb).1 with z | z
  ·exact hx z
  ·exact absurd (by3 (by6 e) z) (my5 _)
 have cellK : ∀ x c,X.env.cells.lookup x = some c->∀ v,s.heap.IsCell c v->h'.IsCell c v:=fun x c e v zR=>by
  refine za0 fun gG=>?_;obtain ⟨o,ho,hd⟩:=zR;refine gG ?_;clear gG;have nch : c ∉ ch:=fun z=>(hch c z).2.2.1 x c e rfl
  by_cases hc : c∈X.fs
  ·obtain ⟨sl,q⟩:=slot c o (I.cne x c e) hc nch ho (I.freeC x c e);exact ⟨_,q,hd⟩
  ·exact ⟨o,keep c o (I.cne x c e) hc nch ho (I.freeC x c e),hd⟩
 refine ⟨I.ok,I.os,hg,⟨fun b o e n hb hx=>?_,fun b o e n hb hx=>?_,fun b o e n hx=>?_,fun b o e hx=>?_,fun b xs e=>tups b xs (I.base.tups b xs e),fun b o xs e=>frzs b o xs (I.base.frzs b o xs e),fun b ps e=>?_⟩,?_,fun x c e=>?_,?_,fun x c e=>?_,fun p hp=>?_,hok,I.len⟩
 ·exact keep b o (neL b o e) hb (neC b o e hx) (I.base.keep b o e n hb hx) (I.base.free b o e n hx)
 ·refine za0 fun gG=>?_;obtain ⟨sl,e1⟩:=I.base.slot b o e n hb hx;obtain ⟨sl',e2⟩:=slot b _ (neL b o e) hb (neC b o e hx) e1 (I.base.free b o e n hx);refine gG ?_;clear gG;exact ⟨sl',e2⟩
 ·obtain ⟨o',e1⟩:=I.base.there b o e hx;exact free b o' (neC b o e hx) e1 (I.base.free b o e n hx)
 ·obtain ⟨o',e1⟩:=I.base.there b o e hx;exact there b o' (neC b o e hx) e1
 ·refine za0 fun gG=>?_;obtain ⟨m1,e1⟩:=I.base.tbls b ps e;obtain ⟨m2,e2⟩:=tbls b _ e1;refine gG ?_;clear gG;exact ⟨m1++m2,by rw [e2,Array.append_assoc]⟩
 ·refine za0 fun gG=>?_;obtain ⟨m,hn,hl⟩:=I.loc;refine gG ?_;clear gG;refine ⟨m,ns m hn,fun i x v e1 e2 e3=>?_⟩;refine za0 fun gG=>?_;obtain ⟨u,r,l⟩:=hl i x v e1 e2 e3;refine gG ?_;clear gG;refine ⟨u,r,?_⟩;rcases l with l | ⟨k,c,e,z⟩
  ·exact .inl l
  ·exact .inr ⟨k,c,e,cellK x c e _ z⟩
 ·obtain ⟨v,z⟩:=I.cell x c e;exact ⟨v,cellK x c e v z⟩
 ·refine za0 fun gG=>?_;obtain ⟨m,⟨o,_,_,ho,_⟩,_⟩:=I.loc;refine gG ?_;clear gG;exact free _ o (fun z=>(hch _ z).2.1 rfl) ho I.free
 ·refine za0 fun gG=>?_;obtain ⟨v,o,ho,hd⟩:=I.cell x c e;refine gG ?_;clear gG;exact free c o (fun z=>(hch c z).2.2.1 x c e rfl) ho (I.freeC x c e)
 ·refine za0 fun gG=>?_;obtain ⟨e,n,ne,nf,d⟩:=I.pin p hp;refine gG ?_;clear gG;have nch : p.1 ∉ ch:=fun z=>(hch p.1 z).2.2.2 p hp rfl;exact ⟨keep p.1 p.2 ne nf nch e n,free p.1 p.2 nch e n,ne,nf,d⟩
theorem Inv.un {t' : Nat} (I : Inv X pins σ H s) (u : Un X.fs [] H H' s.heap h') (hok : HOk X.prog X.w H' h') : Inv X pins σ H' { s with heap:=h',toks:=t' }:=by
 refine za0 fun gG=>?_;obtain ⟨m,⟨o,es,ep,ho,r⟩,_⟩:=id I.loc;obtain ⟨sl,hL⟩:=u.any ho I.free (by simp);refine gG ?_;clear gG
 exact I.step (g':=s.gens) (d':=s.drawn) (ch:=[]) (fun _ z=>nomatch z) (fun b o _ hb _ e n=>u.keep b o e n hb (by simp)) (fun b o _ hb _ e n=>u.slot b o e n hb (by simp)) (fun b o _ e n=>u.free b o e n (by simp)) (fun b o _ e=>u.there b o e (by simp)) u.tups u.frzs u.tbls (fun m' hm=>by
  refine za0 fun gG=>?_;obtain ⟨o',es',ep',ho',r'⟩:=hm;refine gG ?_;clear gG;rw [ho] at ho'; cases ho'
  exact ⟨_,es',ep',hL,r'⟩) hok I.bare
theorem Inv.call {g' : Array GenState} {t' : Nat} {d' : Drawn} {ch : List Addr} (I : Inv X pins σ H s) (u : Un (frs X.stack) ch H H' s.heap h') (hok : HOk X.prog X.w H' h') (hg : AllBare g')
  (hch : ∀ b∈ch,(b∈X.ex \/ X.s₀.heap.objs.size <= b) /\ b ≠ X.env.locals /\ (∀ x c,X.env.cells.lookup x = some c->c ≠ b) /\ ∀ p∈X.pn++pins,p.1 ≠ b) :
  Inv X pins σ H' { s with heap:=h',gens:=g',drawn:=d',toks:=t' }:=by
 refine za0 fun gG=>?_;obtain ⟨m,⟨o,es,ep,ho,r⟩,_⟩:=id I.loc;obtain ⟨sl,hL⟩:=u.any ho I.free fun z=>(hch _ z).2.1 rfl;refine gG ?_;clear gG
 exact I.step (ch:=ch) hch (fun b o hL hb hc e n=>u.keep b o e n (fun z=>(by8.mp (I.zZ6 b z)).elim hL hb) hc) (fun b o _ _ hc e n=>u.any e n hc) (fun b o hc e n=>u.free b o e n hc) (fun b o hc e=>u.there b o e hc) u.tups u.frzs u.tbls (fun m' hm=>by
  refine za0 fun gG=>?_;obtain ⟨o',es',ep',ho',r'⟩:=hm;refine gG ?_;clear gG;rw [ho] at ho'; cases ho'
  exact ⟨_,es',ep',hL,r'⟩) hok hg
theorem Inv.turned {t' : Nat} {it : Addr} (I : Inv X pins σ H s) (k : ∀ b o,b ≠ it->s.heap.get? b = some o->h'.get? b = some o) (hn : H it = none) (hL : it ≠ X.env.locals)
  (h1 : it∈X.ex \/ X.s₀.heap.objs.size <= it) (h2 : ∀ x c,X.env.cells.lookup x = some c->c ≠ it) (h3 : ∀ p∈X.pn++pins,p.1 ≠ it) : Inv X pins σ H { s with heap:=h',toks:=t' }:=by
 have nit : ∀ b u,H b = some u->b ≠ it:=fun b u e z=>by rw [z,hn] at e; cases e
 refine I.step (g':=s.gens) (d':=s.drawn) (ch:=[it]) (fun b hb=>?_) (fun b o _ _ hc e _=>k b o (fun z=>hc (by simp [z])) e) (fun b o _ _ hc e _=>⟨o.slots,k b o (fun z=>hc (by simp [z])) e⟩) (fun _ _ _ _ n=>n)
  (fun b o hc e=>⟨o,k b o (fun z=>hc (by simp [z])) e⟩) (fun _ _ e=>e) (fun _ _ _ e=>e) (fun b ps e=>⟨#[],by rw [e]; simp⟩) (fun m hm=>?_) (fun b u e=>?_) I.bare
 ·have e : b = it:=by simpa using hb
  subst e;exact ⟨h1,hL,h2,h3⟩
 ·refine za0 fun gG=>?_;obtain ⟨o,es,ep,ho,r⟩:=hm;refine gG ?_;clear gG;exact ⟨o,es,ep,k _ o (fy4 hL) ho,r⟩
 ·refine (I.hok b u e).zU0 (fun c v hc q=>k c v ?_ q) (fun _ q=>q) fun _ _ q=>q;rcases hc with z | z
  ·rw [z]; exact nit b u e
  ·exact nit c _ z
theorem Inv.tok (I : Inv X pins σ H s) (t : Nat) : Inv X pins σ H { s with toks:=t }:=I.un (h':=s.heap) (t':=t) Un.refl I.hok
theorem Inv.kept {t' : Nat} (I : Inv X pins σ H s) (k : ∀ b u,s.heap.get? b = some u->h'.get? b = some u) : Inv X pins σ H { s with heap:=h',toks:=t' }:=I.un (Un.kept k) (I.hok.kept k)
theorem Inv.laid {a : Addr} {o : HO} {t' : Nat} (I : Inv X pins σ H s) (k : ∀ b u,s.heap.get? b = some u->h'.get? b = some u) (hp : s.heap.objs.size <= a) (new : zb9 X.prog X.w (upd H a o) h' a o) :
  Inv X pins σ (upd H a o) { s with heap:=h',toks:=t' }:=I.un (Un.laid k hp (I.hok.fresh hp)) (I.hok.laid k hp new)
theorem Inv.write {x e : Addr} {o : HO} {t' : Nat} (I : Inv X pins σ H s) (mu : Mut (H x)) (he : e = x \/ H e = some (.own x)) (k : ∀ b u,b ≠ e->s.heap.get? b = some u->h'.get? b = some u) (heo : ∃ u,h'.get? e = some u)
  (new : zb9 X.prog X.w (upd H x o) h' x o) : Inv X pins σ (upd H x o) { s with heap:=h',toks:=t' }:=I.un (Un.write mu he k heo) (I.hok.write mu he k heo new)
theorem Inv.weak {σ' : List (Option V)} (I : Inv X pins σ H s) (hl : σ'.length = σ.length) (w : ∀ (i : Nat) v,σ'[i]? = some (some v)->σ[i]? = some (some v)) : Inv X pins σ' H s :=
 ⟨I.ok,I.os,I.bare,I.base,let ⟨m,hn,hl'⟩:=I.loc; ⟨m,hn,fun i x v e1 e2 e3=>hl' i x v e1 (w i v e2) e3⟩,I.cell,I.free,I.freeC,I.pin,I.hok,hl.trans I.len⟩
theorem Inv.zl5 {pins' : List (Addr × Obj)} (I : Inv X pins σ H s) (h : ∀ p∈pins',s.heap.get? p.1 = some p.2 /\ H p.1 = none /\ p.1 ≠ X.env.locals /\ p.1 ∉ X.fs /\ ∀ v,p.2.data ≠ .cell v) : Inv X pins' σ H s :=
 ⟨I.ok,I.os,I.bare,I.base,I.loc,I.cell,I.free,I.freeC,fun p hp=>(dy9.mp hp).elim (fun z=>I.pin p (iy6 _ z)) (h p),I.hok,I.len⟩
theorem zP2 {N : List Str} (hN : N.Nodup) {i j : Nat} {x : Str} (a : N[i]? = some x) (b : N[j]? = some x) : i = j:=by
 refine za0 fun gG=>?_;obtain ⟨h1,e1⟩:=ay3.mp a;obtain ⟨h2,e2⟩:=ay3.mp b;refine gG ?_;clear gG;exact (jy8 hN).mp (e1.trans e2.symm)
theorem zu7 {M : Model} {A : Around} {E : Value->Shared->Prop} {i : Nat} {x : Str} {v : V} {u : Value} {Q : Unit->Shared->Prop} (I : Inv X pins σ H s) (hN : X.N.Nodup) (hi : X.N[i]? = some x) (hx : Loc X.env.scope x) (r : RelV v u)
  (h : ∀ s',Inv X pins (σ.set i (some v)) H s'->(∃ a,fy0 a s.heap s'.heap /\ (a = X.env.locals \/ X.env.cells.lookup x = some a))->Q () s') (hf : X.fn x = true \/ X.env.scope.names.lookup x = some .local:=by first | exact .inl rfl | exact .inr rfl | assumption) : wpAny M A (storeName X.env x u) Q E s:=by
 refine za0 fun gG=>?_;obtain ⟨m,hn,hl⟩:=id I.loc;refine gG ?_;clear gG;have hcls : (X.env.scope.kind == .class || (X.env.scope.kind == .module && X.env.locals != X.env.globals)) = false:=by rw [I.ok.kind]; rfl
 have hiσ : i < σ.length:=by rw [I.len]; exact (ay3.mp hi).1
 have cne:=I.cne
 have tracked : ∀ {a : Addr} {h' : Heap},(∃ o,s.heap.get? a = some o /\ H a = none)->fy0 a s.heap h'->HOk X.prog X.w H h':=fun {a h'} ha hs b ob e=>by
  refine za0 fun gG=>?_;obtain ⟨_,_,hfree⟩:=ha;refine gG ?_;clear gG;refine (I.hok b ob e).zU0 (fun c w' hc q=>(hs.2 c ?_).trans q) (fun _ q=>q) fun _ _ q=>q;rintro rfl;rcases hc with rfl | hc
  ·rw [hfree] at e; cases e
  ·rw [hfree] at hc; cases hc
 rcases hx with hk | hk
 ·refine wpAny_storeName_local hk hn (fun h' hn' hs=>?_) hcls;refine za0 fun gG=>?_;obtain ⟨oL,_,_,hoL,_⟩:=id hn;refine gG ?_;clear gG;refine h _ ⟨I.ok,I.os,I.bare,⟨fun b o e n hb hx=>?_,fun b o e n hb hx=>?_,I.base.free,fun b o e hx=>?_,I.base.tups,I.base.frzs,I.base.tbls⟩,⟨_,hn',fun j y v' e1 e2 e3=>?_⟩,fun y c e=>?_,I.free,I.freeC,fun p hp=>?_,tracked ⟨oL,hoL,I.free⟩ hs,by simpa using I.len⟩ ⟨_,hs,.inl rfl⟩
  ·exact (hs.2 b (cy1 (by3 (by6 e) I.ok.above))).trans (I.base.keep b o e n hb hx)
  ·obtain ⟨sl,e1⟩:=I.base.slot b o e n hb hx;exact ⟨sl,(hs.2 b (cy1 (by3 (by6 e) I.ok.above))).trans e1⟩
  ·obtain ⟨o',e1⟩:=I.base.there b o e hx;exact ⟨o',(hs.2 b (cy1 (by3 (by6 e) I.ok.above))).trans e1⟩
  ·by_cases hj : j = i
   ·subst hj;rw [hi] at e1; cases e1;rw [fy9 hiσ] at e2;cases e2;exact ⟨u,r,.inl ⟨hk,by simp⟩⟩
   ·rw [cy8 (fy4 hj)] at e2;refine za0 fun gG=>?_;obtain ⟨u',r',q⟩:=hl j y v' e1 e2 e3;refine gG ?_;clear gG;refine ⟨u',r',?_⟩;rcases q with ⟨k,e⟩ | ⟨k,c,e,z⟩
    ·refine .inl ⟨k,?_⟩;have : y ≠ x:=fun e=>hj (zP2 hN e1 (e ▸ hi));simp [this,e]
    ·exact .inr ⟨k,c,e,z.sameBut hs (cne y c e)⟩
  ·obtain ⟨w',z⟩:=I.cell y c e;exact ⟨w',z.sameBut hs (cne y c e)⟩
  ·refine za0 fun gG=>?_;obtain ⟨e,n,ne,nf,d⟩:=I.pin p hp;refine gG ?_;clear gG;exact ⟨(hs.2 p.1 ne).trans e,n,ne,nf,d⟩
 ·have hfn : X.fn x = true:=by
   rcases hf with z | z
   ·exact z
   ·rw [z] at hk; cases hk
  refine za0 fun gG=>?_;obtain ⟨c,hc⟩:=I.ok.has x (.inl hk);obtain ⟨w',z⟩:=I.cell x c hc;refine gG ?_;clear gG;refine wpAny_storeName_cell I.ok.kind hk hc z (fun h' hc' hs=>?_);refine za0 fun gG=>?_;obtain ⟨oc,hoc,hocd⟩:=id z;refine gG ?_;clear gG;refine h { s with heap:=h' } ⟨I.ok,I.os,I.bare,⟨fun b o e n hb hx=>?_,fun b o e n hb hx=>?_,I.base.free,fun b o e hx=>?_,I.base.tups,I.base.frzs,I.base.tbls⟩,⟨m,hn.sameBut hs (fy4 (cne x c hc)),fun j y v' e1 e2 e3=>?_⟩,fun y c' e=>?_,I.free,I.freeC,fun p hp=>?_,tracked ⟨oc,hoc,I.freeC x c hc⟩ hs,by simpa using I.len⟩ ⟨c,hs,.inr hc⟩
  ·exact (hs.2 b (cy1 (by3 (by6 e) (I.ok.cab x c hfn hc)))).trans (I.base.keep b o e n hb hx)
  ·obtain ⟨sl,e1⟩:=I.base.slot b o e n hb hx;exact ⟨sl,(hs.2 b (cy1 (by3 (by6 e) (I.ok.cab x c hfn hc)))).trans e1⟩
  ·obtain ⟨o',e1⟩:=I.base.there b o e hx;exact ⟨o',(hs.2 b (cy1 (by3 (by6 e) (I.ok.cab x c hfn hc)))).trans e1⟩
  ·by_cases hj : j = i
   ·subst hj;rw [hi] at e1; cases e1;rw [fy9 hiσ] at e2;cases e2;exact ⟨u,r,.inr ⟨.inl hk,c,hc,hc'⟩⟩
   ·rw [cy8 (fy4 hj)] at e2;refine za0 fun gG=>?_;obtain ⟨u',r',q⟩:=hl j y v' e1 e2 e3;refine gG ?_;clear gG;refine ⟨u',r',?_⟩;rcases q with q | ⟨k,c',e,z'⟩
    ·exact .inl q
    ·refine .inr ⟨k,c',e,z'.sameBut hs ?_⟩;rintro rfl;exact hj (zP2 hN e1 (I.ok.inj _ _ _ e hc ▸ hi))
  ·by_cases hcc : c' = c
   ·subst hcc; exact ⟨_,hc'⟩
   ·obtain ⟨w2,z2⟩:=I.cell y c' e;exact ⟨w2,z2.sameBut hs hcc⟩
  ·refine za0 fun gG=>?_;obtain ⟨e,n,ne,nf,d⟩:=I.pin p hp;refine gG ?_;clear gG;refine ⟨(hs.2 p.1 ?_).trans e,n,ne,nf,d⟩;intro q;rw [q,hoc] at e;have q' : oc = p.2:=jy0 e;exact d w' (by rw [<- q']; exact hocd)
theorem zA5 {M : Model} {A : Around} {E : Value->Shared->Prop} {i : Nat} {x : Str} {v : V} {u : Value} {Q : Unit->Shared->Prop} (I : Inv X pins σ H s) (hN : X.N.Nodup) (hi : X.N[i]? = some x) (hx : Loc X.env.scope x) (r : RelV v u)
  (h : ∀ s',Inv X pins (σ.set i (some v)) H s'->Q () s') (hf : X.fn x = true \/ X.env.scope.names.lookup x = some .local:=by first | exact .inl rfl | exact .inr rfl | assumption) : wpAny M A (storeName X.env x u) Q E s :=
 zu7 I hN hi hx r (fun s' I' _=>h s' I') hf
theorem Inv.zb28 {s' : Shared} {ch : List Addr} (I : Inv X pins σ H s) (ho : s'.os = s.os) (u : Un (frs X.stack) ch H H' s.heap s'.heap) (hok : HOk X.prog X.w H' s'.heap) (hg : AllBare s'.gens)
  (hch : ∀ b∈ch,(b∈X.ex \/ X.s₀.heap.objs.size <= b) /\ b ≠ X.env.locals /\ (∀ x c,X.env.cells.lookup x = some c->c ≠ b) /\ ∀ p∈X.pn++pins,p.1 ≠ b) : Inv X pins σ H' s':=by
 refine za0 fun gG=>?_;obtain ⟨h',g',d',t',o'⟩:=s';have e : o' = s.os:=ho;subst e;refine gG ?_;clear gG;exact I.call (g':=g') (t':=t') (d':=d') u hok hg hch
end
abbrev XK:=Value->Option Addr->Hp->Prop
abbrev St:=List (Option V)
abbrev VK:=V->Hp->Prop
abbrev TE:=St->Hp->VK->Prop
abbrev TT:=St->Hp->(Bool->Hp->Prop)->Prop
abbrev TA:=St->Hp->(List V->Hp->Prop)->Prop
structure Ends where
 nx : St->Hp->Prop
 rt : VK
 bk : St->Hp->Prop:=fun _ _=>False
 ct : St->Hp->Prop:=fun _ _=>False
abbrev TS:=Ends->St->Hp->Prop
def EP (X : Cx) (pins : List (Addr × Obj)) (σ : St) (Q : VK) (u : Value) (s' : Shared) : Prop:=∃ v H',Inv X pins σ H' s' /\ RelV v u /\ Q v H'
def TP (X : Cx) (pins : List (Addr × Obj)) (σ : St) (Q : Bool->Hp->Prop) (b : Bool) (s' : Shared) : Prop:=∃ H',Inv X pins σ H' s' /\ Q b H'
def AP (X : Cx) (pins : List (Addr × Obj)) (σ : St) (Q : List V->Hp->Prop) (us : List Value) (s' : Shared) : Prop:=∃ vs H',Inv X pins σ H' s' /\ Vals vs us /\ Q vs H'
def SP (X : Cx) (pins : List (Addr × Obj)) (D : Ends) (f : Flow) (s' : Shared) : Prop :=
 match f with
 | .next=>∃ σ' H',Inv X pins σ' H' s' /\ D.nx σ' H'
 | .brk=>∃ σ' H',Inv X pins σ' H' s' /\ D.bk σ' H'
 | .cont=>∃ σ' H',Inv X pins σ' H' s' /\ D.ct σ' H'
 | .ret u=>∃ v σ' H',Inv X pins σ' H' s' /\ RelV v u /\ D.rt v H'
def PE (X : Cx) (e : Expr) (t : TE) : Prop :=
 ∀ (pins : List (Addr × Obj)) (s : Shared) (σ : St) (H : Hp) (Q : VK),Inv X pins σ H s->t σ H Q->wpAny (model X.prog X.w) X.A (eval e X.env) (EP X pins σ Q) X.xe s
def PT (X : Cx) (e : Expr) (t : TT) : Prop :=
 ∀ (pins : List (Addr × Obj)) (s : Shared) (σ : St) (H : Hp) (Q : Bool->Hp->Prop),Inv X pins σ H s->t σ H Q->wpAny (model X.prog X.w) X.A (isTrue e X.env (eval e X.env)) (TP X pins σ Q) X.xe s
def PW (X : Cx) (e : Expr) (t : TT) : Prop :=
 ∀ (whole : Sem Value) (pins : List (Addr × Obj)) (s : Shared) (σ : St) (H : Hp) (Q : Bool->Hp->Prop),Inv X pins σ H s->t σ H Q->wpAny (model X.prog X.w) X.A (isTrue e X.env whole) (TP X pins σ Q) X.xe s
theorem PW.pt {X : Cx} {e : Expr} {t : TT} (h : PW X e t) : PT X e t:=h _
def PA (X : Cx) (es : List Expr) (t : TA) : Prop :=
 ∀ (pos : Pos) (pins : List (Addr × Obj)) (s : Shared) (σ : St) (H : Hp) (Q : List V->Hp->Prop),Inv X pins σ H s->t σ H Q->wpAny (model X.prog X.w) X.A (spliced (backTo pos (ey8 es X.env))) (AP X pins σ Q) X.xe s
def PS (X : Cx) (st : Stmt) (t : TS) : Prop :=
 ∀ (pins : List (Addr × Obj)) (s : Shared) (σ : St) (H : Hp) (D : Ends),Inv X pins σ H s->t D σ H->wpAny (model X.prog X.w) X.A (exec st X.env) (SP X pins D) X.xe s
def PSs (X : Cx) (st : List Stmt) (t : TS) : Prop :=
 ∀ (pins : List (Addr × Obj)) (s : Shared) (σ : St) (H : Hp) (D : Ends),Inv X pins σ H s->t D σ H->wpAny (model X.prog X.w) X.A (execs st X.env) (SP X pins D) X.xe s
theorem thn {α : Type} {t : Sem α} {Q Q' : α->Shared->Prop} {M : Model} {A : Around} {E : Value->Shared->Prop} {s : Shared} (h : wpAny M A t Q E s) (hQ : ∀ a s,Q a s->Q' a s) : wpAny M A t Q' E s:=fy2 h hQ fun _ _ x=>x
section
variable {X : Cx}
def tVar (i : Nat) : TE:=fun σ H Q=>∃ v,σ[i]? = some (some v) /\ Q v H
def tC (v : V) : TE:=fun _ H Q=>Q v H
theorem zd66 {i : Nat} {x : Str} {pos : Pos} (hN : X.N[i]? = some x) (hv : Vis X.env.scope x) (hd : (x == ("__debug__" : Str)) = false:=by decide) (hcd : (x == ("__classdict__" : Str)) = false:=by decide) : PE X (.Name x pos) (tVar i):=by
 intro pins s σ H Q I h;refine za0 fun gG=>?_;obtain ⟨v,e,h⟩:=h;obtain ⟨m,hn,hl⟩:=I.loc;obtain ⟨u,r,l⟩:=hl i x v hN e hv;refine gG ?_;clear gG;have fin : EP X pins σ Q u s:=⟨v,H,I,r,h⟩
 rcases l with ⟨hk,hm⟩ | ⟨hk,c,hc,hcell⟩
 ·exact wpAny_Name (wpAny_loadName_local I.ok.kind hk hn hm fin) hd
 ·rcases hk with hk | hk
  ·exact wpAny_Name (wpAny_loadName_cell I.ok.kind hk hc hcell fin) hd
  ·exact wpAny_Name (wpAny_loadName_free I.ok.kind hk hc hcell fin hcd) hd
theorem zd67 {i j pos} : PE X (.Constant (.int i) j pos) (tC (.int i)):=fun _ _ _ H _ I h=>wpAny_Constant_int ⟨.int i,H,I.tok _,⟨_,rfl⟩,h⟩
theorem ze93 {b j pos} : PE X (.Constant (.bool b) j pos) (tC (.bl b)):=fun _ _ _ H _ I h=>Constant_bool ⟨.bl b,H,I,rfl,h⟩
theorem zd68 {j pos} : PE X (.Constant .none j pos) (tC .non):=fun _ _ _ H _ I h=>Constant_none ⟨.non,H,I,rfl,h⟩
theorem zd69 {x j pos} : PE X (.Constant (.str x) j pos) (tC (.str x)):=fun _ _ _ H _ I h=>Calls.Constant_str ⟨.str x,H,I.tok _,⟨_,rfl⟩,h⟩
def Gl (X : Cx) (x : Str) : Prop:=X.env.kindOf x = some .globalImplicit
theorem zZ8 {E : Value->Shared->Prop} {pins : List (Addr × Obj)} {s : Shared} {σ : St} {H : Hp} {x : Str} {u : Value} {pos : Pos} {Q : Value->Shared->Prop} (I : Inv X pins σ H s) (hg : Gl X x) (hm : X.mg x = some u) (h : Q u s)
  (hd : (x == ("__debug__" : Str)) = false:=by decide) : wpAny (model X.prog X.w) X.A (eval (.Name x pos) X.env) Q E s :=
 Calls.Name_function_global I.ok.kind hg (Calls.loadGlobal_global (by rw [I.ok.glob]; exact I.mod.glob.keeps I.bk) hm h) hd
theorem zF6 {E : Value->Shared->Prop} {pins : List (Addr × Obj)} {s : Shared} {σ : St} {H : Hp} {x : Str} {u : Value} {pos : Pos} {Q : Value->Shared->Prop} (I : Inv X pins σ H s) (hg : Gl X x) (hm : X.mg x = none) (hv : ey9 x = some u) (h : Q u s)
  (hn : x ≠ "__name__" := by decide) (hd : (x == ("__debug__" : Str)) = false:=by decide) : wpAny (model X.prog X.w) X.A (eval (.Name x pos) X.env) Q E s:=by
 refine za0 fun gG=>?_;obtain ⟨mb,h1,h2⟩:=I.mod.blt;refine gG ?_;clear gG;exact Calls.Name_function_global I.ok.kind hg (Calls.loadGlobal_builtin (by rw [I.ok.glob]; exact I.mod.glob.keeps I.bk) hm (by rw [I.ok.blt]; exact h1.keeps I.bk) ((h2 x hn).trans hv) h) hd
theorem zc58 {x : Str} {v : V} {u : Value} {pos : Pos} (hg : Gl X x) (hm : X.mg x = some u) (r : RelV v u) (hd : (x == ("__debug__" : Str)) = false:=by decide) : PE X (.Name x pos) (tC v) :=
 fun _ _ _ H _ I h=>zZ8 I hg hm ⟨v,H,I,r,h⟩ hd
theorem zc59 {x : Str} {v : V} {u : Value} {pos : Pos} (hg : Gl X x) (hm : X.mg x = none) (hv : ey9 x = some u) (r : RelV v u) (hn : x ≠ "__name__" := by decide) (hd : (x == ("__debug__" : Str)) = false:=by decide) : PE X (.Name x pos) (tC v) :=
 fun _ _ _ H _ I h=>zF6 I hg hm hv ⟨v,H,I,r,h⟩ hn hd
variable {a b : Expr} {ta tb : TE} {pos : Pos}
def tB (t : TE) : TT:=fun σ H Q=>t σ H fun x H1=>∃ c,x = .bl c /\ Q c H1
theorem zd70 {e : Expr} {t : TE} (h : PE X e t) (he : ∀ whole,isTrue e X.env whole = (do let v <- whole; standAt e.pos; holding [v] (truthy v)):=by intro _; rfl) : PT X e (tB t):=by
 intro pins s σ H Q I hw;refine isTrue_plain (thn (h pins s σ H _ I hw) fun v s1 ⟨x,H1,I1,r1,q1⟩=>?_) (he _);refine za0 fun gG=>?_;obtain ⟨d,rfl,q⟩:=q1;refine gG ?_;clear gG;cases r1;exact ky8 ⟨H1,I1,q⟩
variable {tA tB' : TT} {rest : List Expr}
def tAnd (t u : TT) : TT:=fun σ H Q=>t σ H fun c H1=>if c = true then u σ H1 Q else Q false H1
def tOr (t u : TT) : TT:=fun σ H Q=>t σ H fun c H1=>if c = true then Q true H1 else u σ H1 Q
def tNot (t : TT) : TT:=fun σ H Q=>t σ H fun c H1=>Q (!c) H1
theorem zc60 (ha : PT X a tA) : PW X (.BoolOp .And [a] pos) tA:=by
 intro wh pins s σ H Q I h;refine isTrue_and (thn (ha pins s σ H Q I h) fun c s1 e=>?_);cases c with
 | true=>exact isTrue_and_nil e
 | false=>exact e
theorem zd71 (ha : PT X a tA) : PW X (.BoolOp .Or [a] pos) tA:=by
 intro wh pins s σ H Q I h;refine isTrue_or (thn (ha pins s σ H Q I h) fun c s1 e=>?_);cases c with
 | false=>exact isTrue_or_nil e
 | true=>exact e
theorem zd72 (ha : PT X a tA) (hb : PW X (.BoolOp .And (b :: rest) pos) tB') : PW X (.BoolOp .And (a :: b :: rest) pos) (tAnd tA tB'):=by
 intro wh pins s σ H Q I h;refine isTrue_and (thn (ha pins s σ H _ I h) fun c s1 ⟨H1,I1,q1⟩=>?_);cases c with
 | true=>exact hb wh pins s1 σ H1 Q I1 q1
 | false=>exact ⟨H1,I1,q1⟩
theorem ze94 (ha : PT X a tA) (hb : PW X (.BoolOp .Or (b :: rest) pos) tB') : PW X (.BoolOp .Or (a :: b :: rest) pos) (tOr tA tB'):=by
 intro wh pins s σ H Q I h;refine isTrue_or (thn (ha pins s σ H _ I h) fun c s1 ⟨H1,I1,q1⟩=>?_);cases c with
 | true=>exact ⟨H1,I1,q1⟩
 | false=>exact hb wh pins s1 σ H1 Q I1 q1
theorem zd73 (ha : PT X a tA) : PT X (.UnaryOp .Not a pos) (tNot tA):=by
 intro pins s σ H Q I h;exact isTrue_not (ha pins s σ H (fun c H1=>Q (!c) H1) I h)
def ze95 (ta tb : TE) : TE:=fun σ H Q=>ta σ H fun x H1=>∃ c,x = .bl c /\ if c = true then tb σ H1 Q else Q (.bl false) H1
def tOrV (ta tb : TE) : TE:=fun σ H Q=>ta σ H fun x H1=>∃ c,x = .bl c /\ if c = true then Q (.bl true) H1 else tb σ H1 Q
theorem zd74 {op} {t : TE} (h : PE X a t) : PE X (.BoolOp op [a] pos) t:=fun pins s σ H Q I hw=>BoolOp_one (h pins s σ H Q I hw)
theorem zd75 (ha : PE X a ta) (hb : PE X (.BoolOp .And (b :: rest) pos) tb) : PE X (.BoolOp .And (a :: b :: rest) pos) (ze95 ta tb):=by
 intro pins s σ H Q I h;refine BoolOp_and (thn (ha pins s σ H _ I h) fun v s1 ⟨x,H1,I1,r1,q1⟩=>?_);refine za0 fun gG=>?_;obtain ⟨c,rfl,q1⟩:=q1;refine gG ?_;clear gG;cases r1;refine ky8 ?_;cases c with
 | true=>exact hb pins s1 σ H1 Q I1 q1
 | false=>exact ⟨.bl false,H1,I1,rfl,q1⟩
theorem ze96 (ha : PE X a ta) (hb : PE X (.BoolOp .Or (b :: rest) pos) tb) : PE X (.BoolOp .Or (a :: b :: rest) pos) (tOrV ta tb):=by
 intro pins s σ H Q I h;refine BoolOp_or (thn (ha pins s σ H _ I h) fun v s1 ⟨x,H1,I1,r1,q1⟩=>?_);refine za0 fun gG=>?_;obtain ⟨c,rfl,q1⟩:=q1;refine gG ?_;clear gG;cases r1;refine ky8 ?_;cases c with
 | false=>exact hb pins s1 σ H1 Q I1 q1
 | true=>exact ⟨.bl true,H1,I1,rfl,q1⟩
def tIf (t : TT) (ta tb : TE) : TE:=fun σ H Q=>t σ H fun c H1=>if c = true then ta σ H1 Q else tb σ H1 Q
theorem zb29 {c : Expr} (hc : PT X c tA) (ha : PE X a ta) (hb : PE X b tb) : PE X (.IfExp c a b pos) (tIf tA ta tb):=by
 intro pins s σ H Q I h;refine wpAny_IfExp (thn (hc pins s σ H _ I h) fun d s1 ⟨H1,I1,q1⟩=>?_);cases d with
 | true=>exact ha pins s1 σ H1 Q I1 q1
 | false=>exact hb pins s1 σ H1 Q I1 q1
end
def SqL (K : ay4) (H : Hp) (a : Addr) (xs : List V) : Prop :=
 Rd H a (.lst xs) \/
  ∃ (o : Obj) (its : Array Value) (n : Nat),K.lookup a = some o /\ o.cls = .type "list" /\ o.dict = none /\ o.data = .seq its n /\ its.size <= by0 /\ Vals xs its.toList
def SqT (K : ay4) (H : Hp) (a : Addr) (xs : List V) : Prop :=
 Rd H a (.tup xs) \/
  ∃ (o : Obj) (its : Array Value) (n : Nat),K.lookup a = some o /\ o.cls = .type "tuple" /\ o.data = .seq its n /\ its.size <= by0 /\ Vals xs its.toList
def absV : Value->Option V
 | .none=>some .non
 | .bool b=>some (.bl b)
 | .int i _=>some (.int i)
 | .str x _=>some (.str x)
 | .bytes b _=>some (.byt b)
 | .float b _=>some (.flt b)
 | .ref a=>some (.ref a)
 | .type n=>some (.ty n)
 | _=>none
theorem RelV.abs {x : V} {u : Value} (r : RelV x u) : absV u = some x:=by
 cases x with
 | non=>cases r; rfl
 | bl _=>cases r; rfl
 | int _=>obtain ⟨t,rfl⟩:=r; rfl
 | str _=>obtain ⟨t,rfl⟩:=r; rfl
 | byt _=>obtain ⟨t,rfl⟩:=r; rfl
 | flt _=>obtain ⟨t,rfl⟩:=r; rfl
 | ref _=>cases r; rfl
 | ty _=>cases r; rfl
theorem RelV.inj {x y : V} {u : Value} (r : RelV x u) (q : RelV y u) : x = y:=jy0 (r.abs.symm.trans q.abs)
theorem Vals.inj {xs ys : List V} {us : List Value} (h : Vals xs us) (h' : Vals ys us) : xs = ys:=by
 induction h generalizing ys with
 | nil=>cases h'; rfl
 | cons r t ih=>cases h' with
  | cons r' t'=>rw [r.inj r',ih t']
section
variable {X : Cx} {pins : List (Addr × Obj)} {σ : St} {H : Hp} {s : Shared} {a : Addr} {xs ys : List V}
theorem SqL.of {K : ay4} (h : H a = some (.lst xs)) : SqL K H a xs:=.inl (.inl h)
theorem SqT.of {K : ay4} (h : H a = some (.tup xs)) : SqT K H a xs:=.inl (.inl h)
theorem Inv.list (I : Inv X pins σ H s) (h : SqL X.K H a xs) : ∃ its : List Value,Vals xs its /\ PlainL s.heap a its.toArray /\ xs.length <= by0:=by
 rcases h with h | ⟨o,its,n,hk,hc,hd,hs,hz,r⟩
 ·refine za0 fun gG=>?_;obtain ⟨z,its,n,r,e⟩:=h.ok I.hok;refine gG ?_;clear gG;exact ⟨its,r,⟨_,n,e,rfl,rfl,rfl⟩,z⟩
 ·refine ⟨its.toList,r,⟨o,n,I.kIn a o hk,hc,hd,by simpa using hs⟩,?_⟩;have e:=r.length;simp only [iy0] at e;omega
theorem Inv.tuple (I : Inv X pins σ H s) (h : SqT X.K H a xs) : ∃ its : List Value,Vals xs its /\ IsTup s.heap a its.toArray /\ xs.length <= by0:=by
 rcases h with h | ⟨o,its,n,hk,hc,hs,hz,r⟩
 ·refine za0 fun gG=>?_;obtain ⟨z,its,r,p⟩:=h.ok I.hok;refine gG ?_;clear gG;exact ⟨its,r,p,z⟩
 ·refine ⟨its.toList,r,⟨o,I.kIn a o hk,hc,n,by simpa using hs⟩,?_⟩;have e:=r.length;simp only [iy0] at e;omega
theorem Inv.zb30 (I : Inv X pins σ H s) (h : SqL X.K H a xs) (h' : SqL X.K H a ys) : xs = ys:=by
 refine za0 fun gG=>?_;obtain ⟨its,r,⟨o,n,e,_,_,d⟩,_⟩:=I.list h;obtain ⟨its',r',⟨o',n',e',_,_,d'⟩,_⟩:=I.list h';refine gG ?_;clear gG;rw [e] at e'; cases e';rw [d] at d';injection d' with d1 _
 have : its = its':=by simpa using congrArg Array.toList d1
 subst this;exact r.inj r'
theorem Inv.zF7 (I : Inv X pins σ H s) (h : SqT X.K H a xs) (h' : SqT X.K H a ys) : xs = ys:=by
 refine za0 fun gG=>?_;obtain ⟨its,r,⟨o,e,_,n,d⟩,_⟩:=I.tuple h;obtain ⟨its',r',⟨o',e',_,n',d'⟩,_⟩:=I.tuple h';refine gG ?_;clear gG;rw [e] at e'; cases e';rw [d] at d';injection d' with d1 _
 have : its = its':=by simpa using congrArg Array.toList d1
 subst this;exact r.inj r'
end
abbrev Cx.wish (X : Cx) (E : Value->Shared->Prop) : Cx:={ X with xe:=E }
abbrev Cx.nox (X : Cx) : Cx:=X.wish fun _ _=>False
theorem Cx.Ok.wish {X : Cx} (ok : X.Ok) (E : Value->Shared->Prop) : (X.wish E).Ok :=
 ⟨ok.mod,ok.kind,ok.glob,ok.blt,ok.above,ok.inj,ok.has,ok.cab,ok.hd,ok.frames,ok.stk,ok.exf,ok.bs,ok.bsz,ok.noex,ok.exfs,ok.zU1,ok.frf⟩
theorem Cx.Ok.zr7 {X : Cx} {E : Value->Shared->Prop} (ok : (X.wish E).Ok) : X.Ok :=
 ⟨ok.mod,ok.kind,ok.glob,ok.blt,ok.above,ok.inj,ok.has,ok.cab,ok.hd,ok.frames,ok.stk,ok.exf,ok.bs,ok.bsz,ok.noex,ok.exfs,ok.zU1,ok.frf⟩
section
variable {X : Cx} {pins : List (Addr × Obj)} {σ : St} {H : Hp} {s : Shared} {E : Value->Shared->Prop}
theorem Inv.wish (I : Inv X pins σ H s) (E : Value->Shared->Prop) : Inv (X.wish E) pins σ H s:=⟨I.ok.wish E,I.os,I.bare,I.base,I.loc,I.cell,I.free,I.freeC,I.pin,I.hok,I.len⟩
theorem Inv.zr7 (I : Inv (X.wish E) pins σ H s) : Inv X pins σ H s:=⟨I.ok.zr7,I.os,I.bare,I.base,I.loc,I.cell,I.free,I.freeC,I.pin,I.hok,I.len⟩
theorem SP.zr7 {D : Ends} {f : Flow} {s' : Shared} (h : SP (X.wish E) pins D f s') : SP X pins D f s':=by
 cases f with
 | next=>obtain ⟨σ',H',I,q⟩:=h; exact ⟨σ',H',I.zr7,q⟩
 | brk=>obtain ⟨σ',H',I,q⟩:=h; exact ⟨σ',H',I.zr7,q⟩
 | cont=>obtain ⟨σ',H',I,q⟩:=h; exact ⟨σ',H',I.zr7,q⟩
 | ret u=>obtain ⟨v,σ',H',I,r,q⟩:=h; exact ⟨v,σ',H',I.zr7,r,q⟩
theorem PSs.nox {st : List Stmt} {t : TS} (h : PSs X.nox st t) : PSs X st t:=fun pins s σ H D I hw =>
 fy2 (h pins s σ H D (I.wish _) hw) (fun _ _ q=>q.zr7) fun _ _ z=>uy6 z
end
section
variable {X : Cx} {st : Stmt} {rest : List Stmt} {t u : TS} {e : Expr} {te : TE} {pos : Pos}
def ze97 : TS:=fun D σ H=>D.nx σ H
def tSeq (t u : TS) : TS:=fun D σ H=>t { D with nx:=u D } σ H
theorem zc61 : PSs X [] ze97:=fun _ _ σ H _ I h=>wpAny_execs_nil ⟨σ,H,I,h⟩
theorem zb31 (h1 : PS X st t) (h2 : PSs X rest u) : PSs X (st :: rest) (tSeq t u):=by
 intro pins s σ H D I h;refine wpAny_execs_cons (thn (h1 pins s σ H { D with nx:=u D } I h) fun f s1 q=>?_);cases f with
 | next =>
  refine za0 fun gG=>?_;obtain ⟨σ',H',I',q⟩:=q;refine gG ?_;clear gG;exact h2 pins s1 σ' H' D I' q
 | ret v=>exact q
 | brk=>exact q
 | cont=>exact q
theorem zc62 (h1 : PS X st t) : PSs X [st] t:=by
 intro pins s σ H D I h;refine wpAny_execs_cons (thn (h1 pins s σ H D I h) fun f s1 q=>?_);cases f with
 | next=>exact wpAny_execs_nil q
 | ret v=>exact q
 | brk=>exact q
 | cont=>exact q
theorem Inv.quiet {pins : List (Addr × Obj)} {σ : St} {H : Hp} {s : Shared} (I : Inv X pins σ H s) : interactive X.env = false:=by simp [interactive,I.ok.kind]
def ze98 (te : TE) : TS:=fun D σ H=>te σ H fun _ H1=>D.nx σ H1
theorem zc63 (he : PE X e te) (hs : swapsWith e none pos.line X.env = pure false:=by rfl) : PS X (.Expr e pos) (ze98 te):=by
 intro pins s σ H D I h;exact wpAny_Expr_any (thn (he pins s σ H _ I h) fun v s1 zR=>by obtain ⟨x,H1,I1,r1,q1⟩:=zR; exact ⟨σ,H1,I1,q1⟩) I.quiet hs
def tRet (te : TE) : TS:=fun D σ H=>te σ H D.rt
theorem zZ9 (he : PE X e te) : PS X (.Return (some e) pos) (tRet te):=by
 intro pins s σ H D I h;exact wpAny_Return_some (thn (he pins s σ H _ I h) fun v s1 zR=>by obtain ⟨x,H1,I1,r1,q1⟩:=zR; exact ⟨x,σ,H1,I1,r1,q1⟩)
def tIfS (c : TT) (t u : TS) : TS:=fun D σ H=>c σ H fun b H1=>if b = true then t D σ H1 else u D σ H1
theorem ze99 {c : Expr} {a b : List Stmt} {tc : TT} (hc : PT X c tc) (ha : PSs X a t) (hb : PSs X b u) : PS X (.If c a b pos) (tIfS tc t u):=by
 intro pins s σ H D I h;refine wpAny_If (thn (hc pins s σ H _ I h) fun d s1 ⟨H1,I1,q1⟩=>?_);cases d with
 | true=>exact ha pins s1 σ H1 D I1 q1
 | false=>exact hb pins s1 σ H1 D I1 q1
end
abbrev TG:=V->St->Hp->(St->Hp->Prop)->Prop
abbrev TGs:=List V->St->Hp->(St->Hp->Prop)->Prop
def PG (X : Cx) (target : Expr) (t : TG) : Prop :=
 ∀ (pins : List (Addr × Obj)) (s : Shared) (σ : St) (H : Hp) (v : V) (u : Value) (Q : St->Hp->Prop),Inv X pins σ H s->RelV v u->t v σ H Q ->
  wpAny (model X.prog X.w) X.A (assign target X.env u) (fun _ s'=>∃ σ' H',Inv X pins σ' H' s' /\ Q σ' H') X.xe s
def PGs (X : Cx) (ts : List Expr) (t : TGs) : Prop :=
 ∀ (pins : List (Addr × Obj)) (s : Shared) (σ : St) (H : Hp) (vs : List V) (us : List Value) (Q : St->Hp->Prop),Inv X pins σ H s->Vals vs us->t vs σ H Q ->
  wpAny (model X.prog X.w) X.A (assignInOrder ((ly7 ts X.env).map (·.2)) us) (fun _ s'=>∃ σ' H',Inv X pins σ' H' s' /\ Q σ' H') X.xe s
abbrev TSet:=V->V->V->Hp->(Hp->Prop)->Prop
def PSet (X : Cx) (t : TSet) : Prop :=
 ∀ (pins : List (Addr × Obj)) (s : Shared) (σ : St) (H : Hp) (o i v : V) (ov iv u : Value) (Q : Hp->Prop),Inv X pins σ H s->RelV o ov->RelV i iv->RelV v u->t o i v H Q ->
  wpAny (model X.prog X.w) X.A (setItem ov iv u) (fun _ s'=>∃ H',Inv X pins σ H' s' /\ Q H') X.xe s
abbrev TIp:=V->V->Hp->VK->Prop
def PIp (X : Cx) (op : Operator) (t : TIp) : Prop :=
 ∀ (pins : List (Addr × Obj)) (s : Shared) (σ : St) (H : Hp) (x y : V) (v u : Value) (Q : VK),Inv X pins σ H s->RelV x v->RelV y u->t x y H Q ->
  wpAny (model X.prog X.w) X.A (inplaceOp op v u) (EP X pins σ Q) X.xe s
section
variable {X : Cx} {pos : Pos}
def zm8 (i : Nat) : TG:=fun v σ H Q=>Q (σ.set i (some v)) H
theorem zu8 {i : Nat} {x : Str} (hN : X.N.Nodup) (hi : X.N[i]? = some x) (hx : Loc X.env.scope x) (hf : X.fn x = true \/ X.env.scope.names.lookup x = some .local:=by first | exact .inl rfl | exact .inr rfl | assumption) : PG X (.Name x pos) (zm8 i):=by
 intro pins s σ H v u Q I r h;exact wpAny_assign_Name (zA5 I hN hi hx r (fun s' I'=>⟨_,H,I',h⟩) hf)
def gNil : TGs:=fun vs σ H Q=>vs = [] /\ Q σ H
def zU2 (t : TG) (u : TGs) : TGs:=fun vs σ H Q=>∃ v r,vs = v :: r /\ t v σ H fun σ' H'=>u r σ' H' Q
theorem za00 : PGs X [] gNil:=by
 intro pins s σ H vs us Q I r h;refine za0 fun gG=>?_;obtain ⟨e,h⟩:=h;subst e;refine gG ?_;clear gG;cases r;exact assignInOrder_nil ⟨σ,H,I,h⟩
theorem zP3 {e : Expr} {es : List Expr} {t : TG} {u : TGs} (h1 : PG X e t) (h2 : PGs X es u)
  (hs : (ly7 (e :: es) X.env).map (·.2) = assign e X.env :: (ly7 es X.env).map (·.2):=by rfl) : PGs X (e :: es) (zU2 t u):=by
 intro pins s σ H vs us Q I r h;refine za0 fun gG=>?_;obtain ⟨v,vr,e1,h⟩:=h;subst e1;refine gG ?_;clear gG;cases r with
 | cons r rr =>
  rw [hs];refine assignInOrder_cons (thn (h1 pins s σ H _ _ _ I r h) fun _ s1 ⟨σ1,H1,I1,q1⟩=>?_);exact h2 pins s1 σ1 H1 _ _ Q I1 rr q1
def gTup (K : ay4) (n : Nat) (t : TGs) : TG:=fun v σ H Q=>∃ a xs,v = .ref a /\ SqT K H a xs /\ xs.length = n /\ t xs σ H Q
theorem za01 {es : List Expr} {k : Nat} {t : TGs} {n : Nat} (hc : X.calm = true) (h : PGs X es t)
  (hn : (ly7 es X.env).length = n:=by rfl) (hst : (ly7 es X.env).findIdx? (·.1) = none:=by rfl) : PG X (.Tuple es k pos) (gTup X.K n t):=by
 intro pins s σ H v u Q I r hw;refine za0 fun gG=>?_;obtain ⟨a,xs,e1,hq,hl,hw⟩:=hw;subst e1;refine gG ?_;clear gG;cases r;refine za0 fun gG=>?_;obtain ⟨its,rv,ht,hz⟩:=I.tuple hq;refine gG ?_;clear gG;refine assign_Tuple_tuple (I.ok.hd hc) ht (by simp [hn,<- hl,rv.length]) hst fun h' hx=>?_;have I1 : Inv X pins σ H { s with heap:=h' }:=I.kept (t':=s.toks) fun b o e=>hx b o (cy1 (by6 e)) e;exact h pins _ σ H xs _ Q I1 (by simpa using rv) hw
def gSub (to ti : TE) (t : TSet) : TG:=fun v σ H Q=>to σ H fun o H1=>ti σ H1 fun i H2=>t o i v H2 fun H3=>Q σ H3
theorem zd77 {o i : Expr} {to ti : TE} {t : TSet} (ho : PE X o to) (hi : PE X i ti) (hs : PSet X t)
  (ha : ∀ v,assign (.Subscript o i pos) X.env v = (do
   let ov <- holding [v] (eval o X.env)
   let iv <- holding [v,ov] (eval i X.env)
   standAt pos
   holding [v,ov,iv] (setItem ov iv v)
   release [v,ov,iv] []):=by intro _; rfl) : PG X (.Subscript o i pos) (gSub to ti t):=by
 intro pins s σ H v u Q I r h;rw [ha];refine ay0 (fy3 (thn (ho pins s σ H _ I h) fun ov s1 ⟨x,H1,I1,r1,q1⟩=>?_));refine ay0 (fy3 (thn (hi pins s1 σ H1 _ I1 q1) fun iv s2 ⟨y,H2,I2,r2,q2⟩=>?_));refine ay0 (ly4 (ay0 (fy3 (thn (hs pins s2 σ H2 x y v ov iv u _ I2 r1 r2 r q2) fun _ s3 ⟨H3,I3,q3⟩=>?_))));exact wpAny_release ⟨σ,H3,I3,q3⟩
def tAsg (te : TE) (g : TG) : TS:=fun D σ H=>te σ H fun x H1=>g x σ H1 D.nx
theorem zd78 {tg e : Expr} {te : TE} {g : TG} (he : PE X e te) (hg : PG X tg g) (hs : swapsWithSole [tg] e pos.line X.env = pure false:=by rfl) (hw : swappedStores [tg] e X.env = pure none:=by rfl)
  (h1 : (ly7 [tg] X.env).map (·.2) = [assign tg X.env]:=by rfl) : PS X (.Assign [tg] e pos) (tAsg te g):=by
 intro pins s σ H D I h;refine wpAny_Assign_stores (thn (he pins s σ H _ I h) fun v s1 ⟨x,H1,I1,r1,q1⟩=>?_) hs hw;rw [h1];exact thn (hg pins s1 σ H1 x v _ I1 r1 q1) fun _ s2 q=>q
theorem zd79 {i : Nat} {x : Str} {e : Expr} {te : TE} {pos' : Pos} (hN : X.N.Nodup) (hi : X.N[i]? = some x) (hx : Loc X.env.scope x) (he : PE X e te) (hs : swapsWith e (some (.Name x pos')) pos.line X.env = pure false:=by rfl) (hf : X.fn x = true \/ X.env.scope.names.lookup x = some .local:=by first | exact .inl rfl | exact .inr rfl | assumption) :
  PS X (.Assign [.Name x pos'] e pos) (tAsg te (zm8 i)):=by
 intro pins s σ H D I h;refine wpAny_Assign_Name (thn (he pins s σ H _ I h) fun v s1 ⟨y,H1,I1,r1,q1⟩=>?_) hs;exact zA5 I1 hN hi hx r1 (fun s2 I2=>⟨_,H1,I2,q1⟩) hf
def tAug (i : Nat) (te : TE) (ti : TIp) : TS:=fun D σ H=>∃ x,σ[i]? = some (some x) /\ te σ H fun y H1=>ti x y H1 fun z H2=>D.nx (σ.set i (some z)) H2
theorem zd80 {i : Nat} {x : Str} {e : Expr} {te : TE} {op : Operator} {ti : TIp} {pos' : Pos} (hN : X.N.Nodup) (hi : X.N[i]? = some x) (hx : Loc X.env.scope x) (he : PE X e te) (ho : PIp X op ti) (hf : X.fn x = true \/ X.env.scope.names.lookup x = some .local:=by first | exact .inl rfl | exact .inr rfl | assumption) :
  PS X (.AugAssign (.Name x pos') op e pos) (tAug i te ti):=by
 intro pins s σ H D I h;refine za0 fun gG=>?_;obtain ⟨v,e1,h⟩:=h;obtain ⟨m,hn,hl⟩:=I.loc;refine gG ?_;clear gG;have vis : Vis X.env.scope x:=by rcases hx with k | k; exact .inl k; exact .inr (.inl k)
 refine za0 fun gG=>?_;obtain ⟨u,r,l⟩:=hl i x v hi e1 vis;refine gG ?_;clear gG;refine wpAny_AugAssign_Name ?_
 have go : wpAny (model X.prog X.w) X.A (eval e X.env) (fun w s₂=>wpAny (model X.prog X.w) X.A (inplaceOp op u w) (fun r s₃=>wpAny (model X.prog X.w) X.A (storeName X.env x r) (fun _=>SP X pins D .next) X.xe s₃) X.xe s₂) X.xe s:=by
  refine thn (he pins s σ H _ I h) fun w s1 zR=>?_;refine za0 fun gG=>?_;obtain ⟨y,H1,I1,r1,q1⟩:=zR;refine gG ?_;clear gG;refine thn (ho pins s1 σ H1 v y u w _ I1 r r1 q1) fun z s2 zR=>?_;refine za0 fun gG=>?_;obtain ⟨zv,H2,I2,r2,q2⟩:=zR;refine gG ?_;clear gG;exact zA5 I2 hN hi hx r2 (fun s3 I3=>⟨_,H2,I3,q2⟩) hf
 rcases l with ⟨hk,hm⟩ | ⟨hk,c,hc,hcell⟩
 ·exact wpAny_loadName_local I.ok.kind hk hn hm go
 ·rcases hk with hk | hk
  ·exact wpAny_loadName_cell I.ok.kind hk hc hcell go
  ·rcases hx with k | k
   ·have : X.env.scope.names.lookup x = some .free:=hk;rw [k] at this; cases this
   ·have : X.env.scope.names.lookup x = some .free:=hk;rw [k] at this; cases this
end
section
variable {X : Cx} {pos : Pos}
def zd81 (c : TT) (tb : TS) : TS:=fun D σ H=>∃ W : Nat->St->Hp->Prop,(∃ m,W m σ H) /\ ∀ m σ H,W m σ H ->
 c σ H fun b H1=>if b = true then ∃ N : St->Hp->Prop,(∀ σ' H',N σ' H'->∃ m',m' < m /\ W m' σ' H') /\ tb { D with nx:=N,ct:=N,bk:=D.nx } σ H1 else D.nx σ H1
theorem zb32 {c : Expr} {body : List Stmt} {tc : TT} {tb : TS} (hp : PassesOwn (model X.prog X.w) X.A X.env X.xe) (hc : PT X c tc) (hb : PSs X body tb) : PS X (.While c body [] pos) (zd81 tc tb):=by
 intro pins s σ H D I h;refine za0 fun gG=>?_;obtain ⟨W,⟨m0,w0⟩,turn⟩:=h;refine gG ?_;clear gG;refine wpAny_While (codeAny_whileLoop (fun n s'=>∃ σ' H',Inv X pins σ' H' s' /\ W n σ' H') ?_ m0 ⟨σ,H,I,w0⟩);intro n s1 gX;refine za0 fun gG=>?_;obtain ⟨σ1,H1,I1,w1⟩:=gX;refine gG ?_;clear gG;refine qy0 hp (thn (hc pins s1 σ1 H1 _ I1 (turn n σ1 H1 w1)) fun b s2 ⟨H2,I2,q2⟩=>?_);cases b with
 | true =>
  refine za0 fun gG=>?_;obtain ⟨N,hN,q2⟩:=q2;refine gG ?_;clear gG;rw [if_pos rfl];refine qy0 hp (thn (hb pins s2 σ1 H2 _ I2 q2) fun f s3 q3=>?_);cases f with
  | next =>
   refine za0 fun gG=>?_;obtain ⟨σ3,H3,I3,n3⟩:=q3;obtain ⟨m',hm,w3⟩:=hN σ3 H3 n3;refine gG ?_;clear gG;exact ⟨m',hm,σ3,H3,I3,w3⟩
  | cont =>
   refine za0 fun gG=>?_;obtain ⟨σ3,H3,I3,n3⟩:=q3;obtain ⟨m',hm,w3⟩:=hN σ3 H3 n3;refine gG ?_;clear gG;exact ⟨m',hm,σ3,H3,I3,w3⟩
  | brk=>exact q3
  | ret v=>exact q3
 | false =>
  rw [if_neg by9];exact wpAny_execs_nil ⟨σ1,H2,I2,q2⟩
end
structure It where
 go : Nat->Hp->Prop
 yld : Nat->Hp->V->Hp->Prop
 stop : Nat->Hp->Prop
def zr8 (X : Cx) (pins : List (Addr × Obj)) (H : Hp) (b : Addr) : Prop :=
 H b = none /\ b ≠ X.env.locals /\ b ∉ X.fs /\ (b∈X.ex \/ X.s₀.heap.objs.size <= b) /\ (∀ x c,X.env.cells.lookup x = some c->c ≠ b) /\ ∀ p∈X.pn++pins,p.1 ≠ b
theorem Inv.fpOk {X : Cx} {pins : List (Addr × Obj)} {σ : St} {H H' : Hp} {s : Shared} {b : Addr} (I : Inv X pins σ H s) (hb : s.heap.objs.size <= b) (hn : H' b = none) : zr8 X pins H' b:=by
 refine ⟨hn,oy3 (by3 I.lt hb),I.nofs hb,.inr (ey0 I.sz hb),fun x c e z=>?_,fun p hp z=>?_⟩
 ·obtain ⟨v,q⟩:=I.cell x c e;exact absurd (by3 q.lt (by rw [z]; exact hb)) (my5 _)
 ·exact absurd (by3 (by6 (I.pin p hp).1) (by rw [z]; exact hb)) (my5 _)
structure Turn (P : cy6) (w : World) (K : ay4) (tg : Expr) (J : It) (fp : List Addr) (it : Addr) (tn : Nat->Heap->Prop) : Prop where
 mem : it∈fp
 obj : ∀ i h,tn i h->∀ b∈fp,∃ o,h.get? b = some o /\ ∀ v,o.data ≠ .cell v
 keep : ∀ i h h',tn i h->(∀ b∈fp,∀ o,h.get? b = some o->h'.get? b = some o)->tn i h'
 item : ∀ (X : Cx),X.prog = P->X.w = w->X.K = K->X.calm = true->∀ (i : Nat) (pins : List (Addr × Obj)) (s : Shared) (σ : St) (H : Hp) (E : Value->Shared->Prop),Inv X pins σ H s->(∀ b∈fp,zr8 X pins H b)->tn i s.heap->J.go i H ->
  wpAny (model P w) X.A (pyNext (.ref it)) (fun r s1=>∃ u,r = some u /\
   wpAny (model P w) X.A (oy4 tg (.ref it) u) (fun _ s2=>∃ x H',Inv X pins σ H' s2 /\ RelV x u /\ J.yld i H x H' /\ tn (i + 1) s2.heap /\ ∀ b∈fp,H' b = none) E s1) E s
 done : ∀ (X : Cx),X.prog = P->X.w = w->X.K = K->X.calm = true->∀ (i : Nat) (pins : List (Addr × Obj)) (s : Shared) (σ : St) (H : Hp) (E : Value->Shared->Prop),Inv X pins σ H s->(∀ b∈fp,zr8 X pins H b)->tn i s.heap->J.stop i H ->
  wpAny (model P w) X.A (pyNext (.ref it)) (fun r s1=>r = none /\ Inv X pins σ H s1) E s
 self : ∀ (A : Around) (i : Nat) (s : Shared) (Q : Value->Shared->Prop) (E : Value->Shared->Prop),tn i s.heap->Q (.ref it) s->wpAny (model P w) A (pyIter (.ref it)) Q E s
abbrev TI:=St->Hp->(It->Hp->Prop)->Prop
def PIE (X : Cx) (pins : List (Addr × Obj)) (σ : St) (tg : Expr) (R : It->Hp->Prop) (itv : Value) (s2 : Shared) : Prop :=
 ∃ (it : Addr) (fp : List Addr) (tn : Nat->Heap->Prop) (J : It) (H' : Hp),itv = .ref it /\ Inv X pins σ H' s2 /\ Turn X.prog X.w X.K tg J fp it tn /\ tn 0 s2.heap /\ (∀ b∈fp,zr8 X pins H' b) /\ R J H'
theorem zF8 {X : Cx} {pins : List (Addr × Obj)} {σ : St} {tg : Expr} {R : It->Hp->Prop} {itv : Value} {s2 : Shared} {G : Prop} (h : PIE X pins σ tg R itv s2) (k : ∀ (it : Addr) (fp : List Addr) (tn : Nat->Heap->Prop) (J : It) (H' : Hp),itv = .ref it->Inv X pins σ H' s2->Turn X.prog X.w X.K tg J fp it tn->tn 0 s2.heap->(∀ b∈fp,zr8 X pins H' b)->R J H'->G) : G:=by
 refine za0 fun gG=>?_;obtain ⟨it,fp,tn,J,H2,e,I2,T,st2,f2,q⟩:=h;refine gG ?_;clear gG;exact k it fp tn J H2 e I2 T st2 f2 q
def PI (X : Cx) (tg iter : Expr) (wi : TI) : Prop :=
 ∀ (pins : List (Addr × Obj)) (s : Shared) (σ : St) (H : Hp) (R : It->Hp->Prop),Inv X pins σ H s->wi σ H R ->
  wpAny (model X.prog X.w) X.A (eval iter X.env) (fun v s1=>wpAny (model X.prog X.w) X.A (pyIter v) (PIE X pins σ tg R) X.xe s1) X.xe s
theorem zU3 {M : Model} {A : Around} {E : Value->Shared->Prop} {s : Shared} {tg : Expr} {it : Addr} {u : Value} {o : Obj} {n : String} {vs : Array Value} {Q : Unit->Shared->Prop} (ho : s.heap.get? it = some o) (hc : o.cls = .type n) (hd : o.data = .fields vs)
    (hn : ["enumerate", "zip", "dict_itemiterator", "dict_reverseitemiterator", "odict_iterator", "itertools.zip_longest", "itertools.pairwise"].contains n = false) (hQ : Q () s) : wpAny M A (oy4 tg (.ref it) u) Q E s:=by
  unfold letOwnedTupleGo
  cases tg <;> first
    | exact ay1 hQ
    | (cases u <;> first
        | exact ay1 hQ
        | (refine ay0 (wpAny_load ho ?_)
           rw [hc,hd];show wpAny M A (if (["enumerate", "zip", "dict_itemiterator", "dict_reverseitemiterator", "odict_iterator", "itertools.zip_longest", "itertools.pairwise"].contains n && vs[0]? == some (rawInt _)) = true then _ else _) Q E s;rw [if_neg (by intro h; rw [hn,Bool.false_and] at h; cases h)]
           exact ay1 hQ))
def Itl (K : ay4) (a : Addr) : It :=
 ⟨fun i H=>∃ xs x,SqL K H a xs /\ xs[i]? = some x,fun i H x H'=>H' = H /\ ∀ xs,SqL K H a xs->xs[i]? = some x,fun i H=>∃ xs,SqL K H a xs /\ xs.length <= i⟩
def Itt (K : ay4) (a : Addr) : It :=
 ⟨fun i H=>∃ xs x,SqT K H a xs /\ xs[i]? = some x,fun i H x H'=>H' = H /\ ∀ xs,SqT K H a xs->xs[i]? = some x,fun i H=>∃ xs,SqT K H a xs /\ xs.length <= i⟩
def Itr (lo : Int) (n : Nat) : It:=⟨fun i _=>i < n,fun i H x H'=>H' = H /\ x = .int (lo + i),fun i _=>n <= i⟩
theorem za02 {P : cy6} {w : World} {K : ay4} {tg : Expr} (a it : Addr) : Turn P w K tg (Itl K a) [it] it (fun i h=>h.IsListIter it a i) where
 mem:=by simp
 obj:=fun i h st b hb=>by
  have e : b = it:=by simpa using hb
  subst e;refine za0 fun gG=>?_;obtain ⟨o,e,c,d⟩:=st;refine gG ?_;clear gG;exact ⟨o,e,fun v z=>by rw [d] at z; cases z⟩
 keep:=fun i h h' st k=>st.at fun o e=>k it (by simp) o e
 item:=by
  intro X hP hw hK hc i pins s σ H E I hf st hg;subst hP hw hK;refine za0 fun gG=>?_;obtain ⟨xs,x,hq,hx⟩:=hg;obtain ⟨its,rv,p,hz⟩:=I.list hq;obtain ⟨u,hu,ru⟩:=rv.get hx;obtain ⟨f0,f1,f2,f3,f4,f5⟩:=hf it (by simp);refine gG ?_;clear gG;refine wpAny_pyNext_list_item st p.isList (x:=u) (by simpa using hu) fun h' st' sb=>?_;have I1 : Inv X pins σ H { s with heap:=h' }:=I.turned (t':=s.toks) (fun b o hb e=>(sb.2 b hb).trans e) f0 f1 f3 f4 f5;refine za0 fun gG=>?_;obtain ⟨o,e,c,d⟩:=id st';refine gG ?_;clear gG;exact ⟨u,rfl,zU3 (s:={ s with heap:=h' }) e c d (by decide) ⟨x,H,I1,ru,⟨rfl,fun ys hy=>by rw [I.zb30 hy hq]; exact hx⟩,st',fun b hb=>(hf b hb).1⟩⟩
 done:=by
  intro X hP hw hK hc i pins s σ H E I hf st hg;subst hP hw hK;refine za0 fun gG=>?_;obtain ⟨xs,hq,hx⟩:=hg;obtain ⟨its,rv,p,hz⟩:=I.list hq;obtain ⟨f0,f1,f2,f3,f4,f5⟩:=hf it (by simp);refine gG ?_;clear gG;have hl:=rv.length;exact wpAny_pyNext_list_end (I.ok.hd hc) st p.isList (by simp; omega) fun h' eb=>⟨rfl,I.turned (t':=s.toks) (fun b o hb e=>eb b o hb e) f0 f1 f3 f4 f5⟩
 self:=fun _ _ _ _ _ st h=>wpAny_pyIter_listiter st h
theorem zU4 {P : cy6} {w : World} {K : ay4} {tg : Expr} (a it : Addr) : Turn P w K tg (Itt K a) [it] it (fun i h=>h.IsTupleIter it a i) where
 mem:=by simp
 obj:=fun i h st b hb=>by
  have e : b = it:=by simpa using hb
  subst e;refine za0 fun gG=>?_;obtain ⟨o,e,c,d⟩:=st;refine gG ?_;clear gG;exact ⟨o,e,fun v z=>by rw [d] at z; cases z⟩
 keep:=fun i h h' st k=>st.at fun o e=>k it (by simp) o e
 item:=by
  intro X hP hw hK hc i pins s σ H E I hf st hg;subst hP hw hK;refine za0 fun gG=>?_;obtain ⟨xs,x,hq,hx⟩:=hg;obtain ⟨its,rv,p,hz⟩:=I.tuple hq;obtain ⟨u,hu,ru⟩:=rv.get hx;obtain ⟨f0,f1,f2,f3,f4,f5⟩:=hf it (by simp);refine gG ?_;clear gG;refine wpAny_pyNext_tuple_item st (show s.heap.IsTuple a its.toArray from p) (x:=u) (by simpa using hu) fun h' st' sb=>?_;have I1 : Inv X pins σ H { s with heap:=h' }:=I.turned (t':=s.toks) (fun b o hb e=>(sb.2 b hb).trans e) f0 f1 f3 f4 f5;refine za0 fun gG=>?_;obtain ⟨o,e,c,d⟩:=id st';refine gG ?_;clear gG;exact ⟨u,rfl,zU3 (s:={ s with heap:=h' }) e c d (by decide) ⟨x,H,I1,ru,⟨rfl,fun ys hy=>by rw [I.zF7 hy hq]; exact hx⟩,st',fun b hb=>(hf b hb).1⟩⟩
 done:=by
  intro X hP hw hK hc i pins s σ H E I hf st hg;subst hP hw hK;refine za0 fun gG=>?_;obtain ⟨xs,hq,hx⟩:=hg;obtain ⟨its,rv,p,hz⟩:=I.tuple hq;obtain ⟨f0,f1,f2,f3,f4,f5⟩:=hf it (by simp);refine gG ?_;clear gG;have hl:=rv.length;exact wpAny_pyNext_tuple_end (I.ok.hd hc) st (show s.heap.IsTuple a its.toArray from p) (by simp; omega) fun h' eb=>⟨rfl,I.turned (t':=s.toks) (fun b o hb e=>eb b o hb e) f0 f1 f3 f4 f5⟩
 self:=fun _ _ _ _ _ st h=>wpAny_pyIter_tupleiter st h
theorem zU5 {P : cy6} {w : World} {K : ay4} {tg : Expr} (it : Addr) (lo : Int) (n : Nat) : Turn P w K tg (Itr lo n) [it] it (fun i h=>IsRangeIter h it (lo + (i : Nat) * 1) ((n : Int) - (i : Nat)) 1) where
 mem:=by simp
 obj:=fun i h st b hb=>by
  have e : b = it:=by simpa using hb
  subst e
  exact ⟨_,st,fun v z=>by
   have z' : Data.fields _ = Data.cell v:=z
   cases z'⟩
 keep:=fun i h h' st k=>k it (by simp) _ st
 item:=by
  intro X hP hw hK hc i pins s σ H E I hf st hg;subst hP hw hK;refine za0 fun gG=>?_;obtain ⟨f0,f1,f2,f3,f4,f5⟩:=hf it (by simp);refine gG ?_;clear gG;have W:=Walks.range (prog:=X.prog) (w:=X.w) (I.ok.hd hc) it lo 1 n;refine W.item i s _ _ hg st fun v h' tk hv st' kk=>?_;refine za0 fun gG=>?_;obtain ⟨t,rfl⟩:=hv;refine gG ?_;clear gG;have I1 : Inv X pins σ H { s with heap:=h',toks:=tk }:=I.turned (fun b o hb e=>kk b o (by simpa using hb) e) f0 f1 f3 f4 f5;refine ⟨_,rfl,zU3 (s:={ s with heap:=h',toks:=tk }) (n := "range_iterator") st' rfl rfl (by decide) ⟨.int (lo + i),H,I1,⟨t,?_⟩,⟨rfl,rfl⟩,st',fun b hb=>(hf b hb).1⟩⟩;rw [Int.mul_one]
 done:=by
  intro X hP hw hK hc i pins s σ H E I hf st hg;subst hP hw hK;refine za0 fun gG=>?_;obtain ⟨f0,f1,f2,f3,f4,f5⟩:=hf it (by simp);refine gG ?_;clear gG;exact wpAny_pyNext_range_end (I.ok.hd hc) st (by have : n <= i:=hg; omega) fun h' eb=>⟨rfl,I.turned (t':=s.toks) (fun b o hb e=>eb b o hb e) f0 f1 f3 f4 f5⟩
 self:=fun _ _ _ _ _ st h=>wpAny_pyIter_rangeiter st h
section
variable {X : Cx} {tg : Expr}
def zf01 (K : ay4) (tl : TE) : TI:=fun σ H R=>tl σ H fun x H1=>∃ a,x = .ref a /\ (∃ xs,SqL K H1 a xs) /\ R (Itl K a) H1
def iTup (K : ay4) (tl : TE) : TI:=fun σ H R=>tl σ H fun x H1=>∃ a,x = .ref a /\ (∃ xs,SqT K H1 a xs) /\ R (Itt K a) H1
theorem za03 {l : Expr} {tl : TE} (hl : PE X l tl) : PI X tg l (zf01 X.K tl):=by
 intro pins s σ H R I h;refine thn (hl pins s σ H _ I h) fun v s1 zR=>?_;refine za0 fun gG=>?_;obtain ⟨x,H1,I1,r1,q1⟩:=zR;obtain ⟨a,e,⟨xs,hq⟩,q⟩:=q1;subst e;refine gG ?_;clear gG;cases r1;refine za0 fun gG=>?_;obtain ⟨its,rv,p,hz⟩:=I1.list hq;refine gG ?_;clear gG;refine wpAny_pyIter_list p.isList ?_;refine ⟨s1.heap.objs.size,[s1.heap.objs.size],_,_,H1,rfl,I1.kept (t':=s1.toks) fun b o e=>ay2 _ e,za02 a _,⟨_,ay7 _ rfl,rfl,rfl⟩,fun b hb=>?_,q⟩;have e : b = s1.heap.objs.size:=by simpa using hb
 subst e;exact I1.fpOk (ay6 _) (I1.hok.fresh (ay6 _))
theorem zc22 {l : Expr} {tl : TE} (hl : PE X l tl) : PI X tg l (iTup X.K tl):=by
 intro pins s σ H R I h;refine thn (hl pins s σ H _ I h) fun v s1 zR=>?_;refine za0 fun gG=>?_;obtain ⟨x,H1,I1,r1,q1⟩:=zR;obtain ⟨a,e,⟨xs,hq⟩,q⟩:=q1;subst e;refine gG ?_;clear gG;cases r1;refine za0 fun gG=>?_;obtain ⟨its,rv,p,hz⟩:=I1.tuple hq;refine gG ?_;clear gG;refine wpAny_pyIter_tuple (show s1.heap.IsTuple a its.toArray from p) ?_;refine ⟨s1.heap.objs.size,[s1.heap.objs.size],_,_,H1,rfl,I1.kept (t':=s1.toks) fun b o e=>ay2 _ e,zU4 a _,⟨_,ay7 _ rfl,rfl,rfl⟩,fun b hb=>?_,q⟩;have e : b = s1.heap.objs.size:=by simpa using hb
 subst e;exact I1.fpOk (ay6 _) (I1.hok.fresh (ay6 _))
theorem zb33 {pins : List (Addr × Obj)} {σ : St} {H : Hp} {s : Shared} {R : It->Hp->Prop} {E : Value->Shared->Prop} {lo hi : Int} {t u v : Tok} {tk : Nat} (I : Inv X pins σ H s) (h1 : -(2 ^ 62) <= lo) (h2 : lo < 2 ^ 62) (h3 : -(2 ^ 62) <= hi) (h4 : hi < 2 ^ 62)
  (q : R (Itr lo (hi - lo).toNat) H) : wpAny (model X.prog X.w) X.A (pyIter (.ref s.heap.objs.size)) (PIE X pins σ tg R) E { s with heap:=s.heap.push { cls:=.type "range",data:=.fields #[.int lo t,.int hi u,.int 1 v] },toks:=tk }:=by
 refine wpAny_pyIter_range (IsRange.new ..) (small_one h1 h2 h3 h4) ?_;have I1 : Inv X pins σ H { s with heap:=s.heap.push { cls:=.type "range",data:=.fields #[.int lo t,.int hi u,.int 1 v] },toks:=tk }:=I.kept fun b o e=>ay2 _ e
 refine ⟨(s.heap.push { cls:=.type "range",data:=.fields #[.int lo t,.int hi u,.int 1 v] }).objs.size,[(s.heap.push { cls:=.type "range",data:=.fields #[.int lo t,.int hi u,.int 1 v] }).objs.size],_,_,H,rfl,
  I1.kept (t':=tk) fun b o e=>ay2 _ e,zU5 _ lo (hi - lo).toNat,?_,fun b hb=>?_,q⟩
 ·have e1 : lo + ((0 : Nat) : Int) * 1 = lo:=by simp
  have e2 : (((hi - lo).toNat : Nat) : Int) - ((0 : Nat) : Int) = ry2 lo hi 1:=by rw [rangeSize_one]; split <;> omega
  show IsRangeIter _ _ (lo + ((0 : Nat) : Int) * 1) ((((hi - lo).toNat : Nat) : Int) - ((0 : Nat) : Int)) 1;rw [e1,e2];exact ay7 _ rfl
 ·have e : b = (s.heap.push { cls:=.type "range",data:=.fields #[.int lo t,.int hi u,.int 1 v] }).objs.size:=by simpa using hb
  subst e;exact I1.fpOk (ay6 _) (I1.hok.fresh (ay6 _))
def zf02 (ta : TA) : TI:=fun σ H R=>ta σ H fun vs H1=>∃ j : Int,vs = [.int j] /\ -(2 ^ 62) <= j /\ j < 2 ^ 62 /\ R (Itr 0 j.toNat) H1
theorem za04 {a : Expr} {ta : TA} {p pos : Pos} (hg : Gl X "range") (hm : X.mg "range" = none) (ha : PA X [a] ta) (hs : ey8 [a] X.env = [(false,eval a X.env)]:=by rfl) : PI X tg (.Call (.Name "range" p) [a] [] pos) (zf02 ta):=by
 intro pins s σ H R I h;refine Call_ (zF6 I hg hm boot_range (ty8 (thn (ha pos pins s σ H _ I h) fun us s1 ⟨vs,H1,I1,r1,q1⟩=>?_) hs rfl));refine za0 fun gG=>?_;obtain ⟨j,e,q1,q2,q⟩:=q1;subst e;refine gG ?_;clear gG;cases r1 with
 | cons r rr =>
  cases rr;refine za0 fun gG=>?_;obtain ⟨t,rfl⟩:=r;refine gG ?_;clear gG;exact call_range_1 (zb33 I1 (by omega) (by omega) q1 q2 (by simpa using q))
def tFor (wi : TI) (g : TG) (tb : TS) : TS:=fun D σ H=>wi σ H fun J H1=>∃ W : Nat->Nat->St->Hp->Prop,(∃ m,W 0 m σ H1) /\ ∀ i m σ H,W i m σ H ->
 (J.stop i H /\ D.nx σ H) \/ (J.go i H /\ ∃ N : St->Hp->Prop,(∀ σ' H',N σ' H'->∃ m',m' < m /\ W (i + 1) m' σ' H') /\ ∀ x H',J.yld i H x H'->g x σ H' fun σ2 H2=>tb { D with nx:=N,ct:=N,bk:=D.nx } σ2 H2)
def ze6 (fp : List Addr) (h : Heap) : List (Addr × Obj):=fp.filterMap fun b=>(h.get? b).map fun o=>(b,o)
theorem ze3 {fp : List Addr} {h : Heap} {b : Addr} {o : Obj} (hb : b∈fp) (e : h.get? b = some o) : (b,o)∈ze6 fp h:=List.mem_filterMap.mpr ⟨b,hb,by rw [e]; rfl⟩
theorem zg8 {fp : List Addr} {h : Heap} {p : Addr × Obj} (hp : p∈ze6 fp h) : p.1∈fp /\ h.get? p.1 = some p.2:=by
 refine za0 fun gG=>?_;obtain ⟨b,hb,e⟩:=List.mem_filterMap.mp hp;refine gG ?_;clear gG;cases q : h.get? b with
 | none=>rw [q] at e; cases e
 | some o =>
  rw [q] at e;have e' : (b,o) = p:=jy0 e;subst e';exact ⟨hb,q⟩
theorem Inv.pinned {pins : List (Addr × Obj)} {σ : St} {H : Hp} {s : Shared} {fp : List Addr} (I : Inv X pins σ H s) (hf : ∀ b∈fp,zr8 X pins H b) (ho : ∀ b∈fp,∃ o,s.heap.get? b = some o /\ ∀ v,o.data ≠ .cell v) : Inv X (pins++ze6 fp s.heap) σ H s :=
 I.zl5 fun p hp=>(dy9.mp hp).elim (fun z=>I.pin p (dy0 _ z)) fun z=>by
  refine za0 fun gG=>?_;obtain ⟨hb,e⟩:=zg8 z;obtain ⟨f0,f1,f2,_⟩:=hf p.1 hb;obtain ⟨o,e',d⟩:=ho p.1 hb;refine gG ?_;clear gG;rw [e] at e'; cases e';exact ⟨e,f0,f1,f2,d⟩
theorem Inv.zA6 {pins pl : List (Addr × Obj)} {σ : St} {H : Hp} {s : Shared} (I : Inv X (pins++pl) σ H s) : Inv X pins σ H s:=I.zl5 fun p hp=>I.pin p (dy0 _ (iy6 _ hp))
theorem zc23 {iter : Expr} {body : List Stmt} {wi : TI} {g : TG} {tb : TS} {pos : Pos} (hp : PassesOwn (model X.prog X.w) X.A X.env X.xe) (hc : X.calm = true) (hi : PI X tg iter wi) (hg : PG X tg g) (hb : PSs X body tb)
  (hs : ∀ x,ey2 iter X.env x = pure x:=by intro _; rfl) : PS X (.For tg iter body [] pos) (tFor wi g tb):=by
 intro pins s σ H D I h;refine wpAny_For (thn (hi pins s σ H _ I h) fun v s1 h1=>thn h1 fun itv s2 h2=>?_) hs;refine zF8 h2 fun it fp tn J H2 e I2 T st2 f2 qR=>?_;refine za0 fun gG=>?_;obtain ⟨W,⟨m0,w0⟩,turn⟩:=qR;subst e;refine gG ?_;clear gG;have stat : ∀ {H' : Hp},(∀ b∈fp,H' b = none)->∀ b∈fp,zr8 X pins H' b:=fun hn b hb=>⟨hn b hb,(f2 b hb).2⟩
 refine codeAny_forLoop_any (fun n s'=>∃ i σ' H',Inv X pins σ' H' s' /\ tn i s'.heap /\ (∀ b∈fp,H' b = none) /\ W i n σ' H') ?_ m0 ⟨0,σ,H2,I2,st2,fun b hb=>(f2 b hb).1,w0⟩;intro n s3 gX;refine za0 fun gG=>?_;obtain ⟨i,σ3,H3,I3,st3,fr3,w3⟩:=gX;refine gG ?_;clear gG;rcases turn i n σ3 H3 w3 with ⟨stop,qn⟩ | ⟨go,N,hN,step⟩
 ·refine qy0 hp (thn (T.done X rfl rfl rfl hc i pins s3 σ3 H3 X.xe I3 (stat fr3) st3 stop) fun r s4 ⟨hr,I4⟩=>?_);subst hr;exact wpAny_execs_nil ⟨σ3,H3,I4,qn⟩
 ·refine qy0 hp (thn (T.item X rfl rfl rfl hc i pins s3 σ3 H3 X.xe I3 (stat fr3) st3 go) fun r s4 ⟨u,hr,h4⟩=>?_);subst hr;refine qy0 hp (thn h4 fun _ s5 ⟨x,H5,I5,r5,y5,st5,fr5⟩=>?_);have I5':=I5.pinned (stat fr5) (T.obj _ _ st5);refine qy0 hp (thn (hg _ s5 σ3 H5 x u _ I5' r5 (step x H5 y5)) fun _ s6 ⟨σ6,H6,I6,q6⟩=>?_);refine qy0 hp (thn (hb _ s6 σ6 H6 _ I6 q6) fun f s7 q7=>?_)
  have again : ∀ {σ7 : St} {H7 : Hp},Inv X (pins++ze6 fp s5.heap) σ7 H7 s7->N σ7 H7->∃ m,m < n /\ ∃ i σ' H',Inv X pins σ' H' s7 /\ tn i s7.heap /\ (∀ b∈fp,H' b = none) /\ W i m σ' H':=fun {σ7 H7} I7 n7=>by
   refine za0 fun gG=>?_;obtain ⟨m',hm,w7⟩:=hN σ7 H7 n7;refine gG ?_;clear gG;refine ⟨m',hm,i + 1,σ7,H7,I7.zA6,T.keep _ _ _ st5 fun b hb o e=>(I7.pin (b,o) (dy0 _ (dy0 _ (ze3 hb e)))).1,fun b hb=>?_,w7⟩;refine za0 fun gG=>?_;obtain ⟨o,e,d⟩:=T.obj _ _ st5 b hb;refine gG ?_;clear gG;exact (I7.pin (b,o) (dy0 _ (dy0 _ (ze3 hb e)))).2.1
  cases f with
  | next=>obtain ⟨σ7,H7,I7,n7⟩:=q7; exact again I7 n7
  | cont=>obtain ⟨σ7,H7,I7,n7⟩:=q7; exact again I7 n7
  | brk=>obtain ⟨σ7,H7,I7,q7⟩:=q7; exact ⟨σ7,H7,I7.zA6,q7⟩
  | ret v=>obtain ⟨x7,σ7,H7,I7,r7,q7⟩:=q7; exact ⟨x7,σ7,H7,I7.zA6,r7,q7⟩
end
abbrev R2:=V->V->Hp->VK->Prop
def OpR (X : Cx) (f : Value->Value->Sem Value) (r : R2) : Prop :=
 ∀ (pins : List (Addr × Obj)) (s : Shared) (σ : St) (H : Hp) (x y : V) (v u : Value) (Q : VK),Inv X pins σ H s->RelV x v->RelV y u->r x y H Q ->
  wpAny (model X.prog X.w) X.A (f v u) (EP X pins σ Q) X.xe s
def UnR (X : Cx) (f : Value->Sem Value) (r : V->Hp->VK->Prop) : Prop :=
 ∀ (pins : List (Addr × Obj)) (s : Shared) (σ : St) (H : Hp) (x : V) (v : Value) (Q : VK),Inv X pins σ H s->RelV x v->r x H Q ->
  wpAny (model X.prog X.w) X.A (f v) (EP X pins σ Q) X.xe s
def zj8 (X : Cx) (f : Value) (r : List V->Hp->VK->Prop) : Prop :=
 ∀ (pins : List (Addr × Obj)) (s : Shared) (σ : St) (H : Hp) (xs : List V) (us : List Value) (Q : VK),Inv X pins σ H s->Vals xs us->r xs H Q ->
  wpAny (model X.prog X.w) X.A (call f us) (EP X pins σ Q) X.xe s
def TruR (X : Cx) (r : V->Hp->(Bool->Hp->Prop)->Prop) : Prop :=
 ∀ (pins : List (Addr × Obj)) (s : Shared) (σ : St) (H : Hp) (x : V) (v : Value) (Q : Bool->Hp->Prop),Inv X pins σ H s->RelV x v->r x H Q ->
  wpAny (model X.prog X.w) X.A (truthy v) (TP X pins σ Q) X.xe s
def tOp (r : R2) (ta tb : TE) : TE:=fun σ H Q=>ta σ H fun x H1=>tb σ H1 fun y H2=>r x y H2 Q
def tUn (r : V->Hp->VK->Prop) (ta : TE) : TE:=fun σ H Q=>ta σ H fun x H1=>r x H1 Q
def rI (C : Int->Int->Prop) (g : Int->Int->V) : R2:=fun x y H Q=>∃ i j,x = .int i /\ y = .int j /\ C i j /\ Q (g i j) H
def rI0 (g : Int->Int->V) : R2:=fun x y H Q=>∃ i j,x = .int i /\ y = .int j /\ Q (g i j) H
def rU (g : Int->V) : V->Hp->VK->Prop:=fun x H Q=>∃ i,x = .int i /\ Q (g i) H
section
variable {X : Cx} {a b c : Expr} {ta tb tc : TE} {pos : Pos}
theorem binT (ha : PE X a ta) (hb : PE X b tb) {pins : List (Addr × Obj)} {s : Shared} {σ : St} {H : Hp} {R : V->V->Hp->Prop} (I : Inv X pins σ H s)
  (h : ta σ H fun x H1=>tb σ H1 fun y H2=>R x y H2) {Q : Value->Shared->Prop} {f : Value->Value->Sem Value}
  (hf : ∀ v u s2 x y H2,Inv X pins σ H2 s2->RelV x v->RelV y u->R x y H2->wpAny (model X.prog X.w) X.A (f v u) Q X.xe s2) :
  wpAny (model X.prog X.w) X.A (eval a X.env) (fun v s₁=>wpAny (model X.prog X.w) X.A (eval b X.env) (fun u s₂=>wpAny (model X.prog X.w) X.A (f v u) Q X.xe s₂) X.xe s₁) X.xe s:=by
 refine thn (ha pins s σ H _ I h) fun v s1 zR=>?_;refine za0 fun gG=>?_;obtain ⟨x,H1,I1,r1,q1⟩:=zR;refine gG ?_;clear gG;refine thn (hb pins s1 σ H1 _ I1 q1) fun u s2 zR=>?_;refine za0 fun gG=>?_;obtain ⟨y,H2,I2,r2,q2⟩:=zR;refine gG ?_;clear gG;exact hf v u s2 x y H2 I2 r1 r2 q2
theorem zf04 {op : Operator} {r : R2} (ho : OpR X (my6 op) r) (ha : PE X a ta) (hb : PE X b tb) : PE X (.BinOp a op b pos) (tOp r ta tb):=by
 intro pins s σ H Q I h;exact wpAny_BinOp (binT ha hb I h fun v u s2 x y H2 I2 rx ry q=>ho pins s2 σ H2 x y v u Q I2 rx ry q)
theorem zf05 {op : UnaryOp} {r : V->Hp->VK->Prop} (ho : UnR X (unaryOp op) r) (ha : PE X a ta) : PE X (.UnaryOp op a pos) (tUn r ta):=by
 intro pins s σ H Q I h;exact UnaryOp_ (thn (ha pins s σ H _ I h) fun v s1 zR=>by obtain ⟨x,H1,I1,r1,q1⟩:=zR; exact ho pins s1 σ H1 x v Q I1 r1 q1)
theorem opI {f : Value->Value->Sem Value} {C : Int->Int->Prop} {g : Int->Int->Int}
  (rule : ∀ (i j : Int) (t u : Tok) (s : Shared) (Q : Value->Shared->Prop) (E : Value->Shared->Prop),C i j->Q (.int (g i j) s.toks) { s with toks:=s.toks + 1 }->wpAny (model X.prog X.w) X.A (f (.int i t) (.int j u)) Q E s) :
  OpR X f (rI C fun i j=>.int (g i j)):=by
 intro pins s σ H x y v u Q I rx ry h;refine za0 fun gG=>?_;obtain ⟨i,j,rfl,rfl,hc,q⟩:=h;obtain ⟨t,rfl⟩:=rx;obtain ⟨t',rfl⟩:=ry;refine gG ?_;clear gG;exact rule i j t t' s _ _ hc ⟨.int (g i j),H,I.tok _,⟨_,rfl⟩,q⟩
theorem opI0 {f : Value->Value->Sem Value} {g : Int->Int->Int}
  (rule : ∀ (i j : Int) (t u : Tok) (s : Shared) (Q : Value->Shared->Prop) (E : Value->Shared->Prop),Q (.int (g i j) s.toks) { s with toks:=s.toks + 1 }->wpAny (model X.prog X.w) X.A (f (.int i t) (.int j u)) Q E s) :
  OpR X f (rI0 fun i j=>.int (g i j)):=by
 intro pins s σ H x y v u Q I rx ry h;refine za0 fun gG=>?_;obtain ⟨i,j,rfl,rfl,q⟩:=h;obtain ⟨t,rfl⟩:=rx;obtain ⟨t',rfl⟩:=ry;refine gG ?_;clear gG;exact rule i j t t' s _ _ ⟨.int (g i j),H,I.tok _,⟨_,rfl⟩,q⟩
theorem opB0 {f : Value->Value->Sem Value} {g : Int->Int->Bool}
  (rule : ∀ (i j : Int) (t u : Tok) (s : Shared) (Q : Value->Shared->Prop) (E : Value->Shared->Prop),Q (.bool (g i j)) s->wpAny (model X.prog X.w) X.A (f (.int i t) (.int j u)) Q E s) :
  OpR X f (rI0 fun i j=>.bl (g i j)):=by
 intro pins s σ H x y v u Q I rx ry h;refine za0 fun gG=>?_;obtain ⟨i,j,rfl,rfl,q⟩:=h;obtain ⟨t,rfl⟩:=rx;obtain ⟨t',rfl⟩:=ry;refine gG ?_;clear gG;exact rule i j t t' s _ _ ⟨.bl (g i j),H,I,rfl,q⟩
def CDiv (i j : Int) : Prop:=0 < j /\ j < 1073741824
def CPow (i j : Int) : Prop:=0 <= j /\ j <= 1000000 /\ i.natAbs < 2 ^ 64
def CMul (i j : Int) : Prop:=(-(2 ^ 64) < i /\ i < 2 ^ 64) \/ (-(2 ^ 64) < j /\ j < 2 ^ 64)
theorem CMul.ok {i j : Int} (h : CMul i j) : IntMulOk i j:=by
 rcases h with ⟨h1,h2⟩ | ⟨h1,h2⟩
 ·exact .of_left (intBits_le_64 h1 h2)
 ·exact .of_right (intBits_le_64 h1 h2)
theorem zd82 : OpR X (my6 .Add) (rI0 fun i j=>.int (i + j)):=opI0 fun _ _ _ _ _ _ _ q=>add_int q
theorem zd83 : OpR X (my6 .Sub) (rI0 fun i j=>.int (i - j)):=opI0 fun _ _ _ _ _ _ _ q=>sub_int q
theorem zd84 : OpR X (my6 .Mult) (rI CMul fun i j=>.int (i * j)):=opI fun _ _ _ _ _ _ _ hc q=>mul_int q hc.ok
theorem zd85 : OpR X (my6 .Mod) (rI (fun _ j=>0 < j) fun i j=>.int (i % j)):=opI fun i j _ _ _ _ _ hc q=>by
 have h1 : (0 : Int) < j:=hc;exact mod_int' (by omega) (by rw [Int.fmod_eq_emod_of_nonneg i (by omega)]; exact q)
theorem zd86 : OpR X (my6 .Pow) (rI CPow fun i j=>.int (i ^ j.toNat)):=opI fun _ _ _ _ _ _ _ hc q=>pow_int_small hc.1 hc.2.1 hc.2.2 q
theorem unI {f : Value->Sem Value} {g : Int->Int}
  (rule : ∀ (i : Int) (t : Tok) (s : Shared) (Q : Value->Shared->Prop) (E : Value->Shared->Prop),Q (.int (g i) s.toks) { s with toks:=s.toks + 1 }->wpAny (model X.prog X.w) X.A (f (.int i t)) Q E s) :
  UnR X f (rU fun i=>.int (g i)):=by
 intro pins s σ H x v Q I rx h;refine za0 fun gG=>?_;obtain ⟨i,rfl,q⟩:=h;obtain ⟨t,rfl⟩:=rx;refine gG ?_;clear gG;exact rule i t s _ _ ⟨.int (g i),H,I.tok _,⟨_,rfl⟩,q⟩
theorem zd87 : UnR X (unaryOp .USub) (rU fun i=>.int (-i)):=unI fun _ _ _ _ _ q=>neg_int q
end
def scal : V->V->Bool
 | .non,.non=>true | .non,.int _=>true | .int _,.non=>true | .non,.bl _=>true | .bl _,.non=>true | .non,.str _=>true | .str _,.non=>true
 | .int _,.int _=>true | .bl _,.bl _=>true | .str _,.str _=>true | .byt _,.byt _=>true
 | .int _,.str _=>true | .str _,.int _=>true | .bl _,.str _=>true | .str _,.bl _=>true
 | _,_=>false
def rEq : R2:=fun x y H Q=>scal x y = true /\ Q (.bl (decide (x = y))) H
def rNe : R2:=fun x y H Q=>scal x y = true /\ Q (.bl (!decide (x = y))) H
theorem za05 {i j : Int} : decide (V.int i = V.int j) = (i == j):=by
 rw [qy1];simp
theorem zc24 {i j : Bool} : decide (V.bl i = V.bl j) = (i == j):=by
 rw [qy1];simp
theorem za06 {i j : Str} : decide (V.str i = V.str j) = (i == j):=by
 rw [qy1];simp
theorem za07 {i j : Array UInt8} : decide (V.byt i = V.byt j) = (i.toList == j.toList):=by
 rw [qy1];cases i;cases j;simp
section
variable {X : Cx} {a b c : Expr} {ta tb tc : TE} {pos : Pos}
theorem zc6 {pins : List (Addr × Obj)} {σ : St} {H : Hp} {s : Shared} {Q : VK} {k k' : Bool} (I : Inv X pins σ H s) (q : Q (.bl k) H) (e : k = k') : EP X pins σ Q (.bool k') s:=by
 subst e;exact ⟨.bl k,H,I,rfl,q⟩
theorem zc64 : OpR X (fy7 .Eq) rEq:=by
 intro pins s σ H x y v u Q I rx ry h;obtain ⟨hs,q⟩:=h;cases x with
 | non =>
  cases rx;cases y with
  | non=>cases ry; exact PySem.EqNone.eq_none_none (zc6 I q (by simp))
  | bl j=>cases ry; exact PySem.EqNone.eq_none_bool (zc6 I q (by simp))
  | int j=>obtain ⟨t',rfl⟩:=ry; exact PySem.EqNone.eq_none_int (zc6 I q (by simp))
  | str j=>obtain ⟨t',rfl⟩:=ry; exact PySem.EqNone.eq_none_str (zc6 I q (by simp))
  | _=>exact absurd (show false = true from hs) by9
 | bl i =>
  cases rx;cases y with
  | non=>cases ry; exact PySem.EqNone.eq_bool_none (zc6 I q (by simp))
  | bl j=>cases ry; exact eq_bool (zc6 I q zc24)
  | str j=>obtain ⟨t',rfl⟩:=ry; exact PySem.EqMixed.eq_bool_str (zc6 I q (by simp))
  | _=>exact absurd (show false = true from hs) by9
 | int i =>
  refine za0 fun gG=>?_;obtain ⟨t,rfl⟩:=rx;refine gG ?_;clear gG;cases y with
  | non=>cases ry; exact PySem.EqNone.eq_int_none (zc6 I q (by simp))
  | int j=>obtain ⟨t',rfl⟩:=ry; exact eq_int (zc6 I q za05)
  | str j=>obtain ⟨t',rfl⟩:=ry; exact PySem.EqMixed.eq_int_str (zc6 I q (by simp))
  | _=>exact absurd (show false = true from hs) by9
 | str i =>
  refine za0 fun gG=>?_;obtain ⟨t,rfl⟩:=rx;refine gG ?_;clear gG;cases y with
  | non=>cases ry; exact PySem.EqNone.eq_str_none (zc6 I q (by simp))
  | bl j=>cases ry; exact PySem.EqMixed.eq_str_bool (zc6 I q (by simp))
  | int j=>obtain ⟨t',rfl⟩:=ry; exact PySem.EqMixed.eq_str_int (zc6 I q (by simp))
  | str j=>obtain ⟨t',rfl⟩:=ry; exact eq_str (zc6 I q za06)
  | _=>exact absurd (show false = true from hs) by9
 | byt i =>
  refine za0 fun gG=>?_;obtain ⟨t,rfl⟩:=rx;refine gG ?_;clear gG;cases y with
  | byt j=>obtain ⟨t',rfl⟩:=ry; exact PySem.W.eq_bytes (zc6 I q za07)
  | _=>exact absurd (show false = true from hs) by9
 | _=>cases y <;> exact absurd (show false = true from hs) by9
theorem zd88 : OpR X (fy7 .NotEq) rNe:=by
 intro pins s σ H x y v u Q I rx ry h;obtain ⟨hs,q⟩:=h;cases x with
 | non =>
  cases rx;cases y with
  | non=>cases ry; exact PySem.EqNone.ne_none_none (zc6 I q (by simp))
  | bl j=>cases ry; exact PySem.EqNone.ne_none_bool (zc6 I q (by simp))
  | int j=>obtain ⟨t',rfl⟩:=ry; exact PySem.EqNone.ne_none_int (zc6 I q (by simp))
  | str j=>obtain ⟨t',rfl⟩:=ry; exact PySem.EqNone.ne_none_str (zc6 I q (by simp))
  | _=>exact absurd (show false = true from hs) by9
 | bl i =>
  cases rx;cases y with
  | non=>cases ry; exact PySem.EqNone.ne_bool_none (zc6 I q (by simp))
  | bl j=>cases ry; exact ne_bool (zc6 I q (congrArg not zc24))
  | str j=>obtain ⟨t',rfl⟩:=ry; exact PySem.EqMixed.ne_bool_str (zc6 I q (by simp))
  | _=>exact absurd (show false = true from hs) by9
 | int i =>
  refine za0 fun gG=>?_;obtain ⟨t,rfl⟩:=rx;refine gG ?_;clear gG;cases y with
  | non=>cases ry; exact PySem.EqNone.ne_int_none (zc6 I q (by simp))
  | int j=>obtain ⟨t',rfl⟩:=ry; exact ne_int (zc6 I q (congrArg not za05))
  | str j=>obtain ⟨t',rfl⟩:=ry; exact PySem.EqMixed.ne_int_str (zc6 I q (by simp))
  | _=>exact absurd (show false = true from hs) by9
 | str i =>
  refine za0 fun gG=>?_;obtain ⟨t,rfl⟩:=rx;refine gG ?_;clear gG;cases y with
  | non=>cases ry; exact PySem.EqNone.ne_str_none (zc6 I q (by simp))
  | bl j=>cases ry; exact PySem.EqMixed.ne_str_bool (zc6 I q (by simp))
  | int j=>obtain ⟨t',rfl⟩:=ry; exact PySem.EqMixed.ne_str_int (zc6 I q (by simp))
  | str j=>obtain ⟨t',rfl⟩:=ry; exact ne_str (zc6 I q (congrArg not za06))
  | _=>exact absurd (show false = true from hs) by9
 | byt i =>
  refine za0 fun gG=>?_;obtain ⟨t,rfl⟩:=rx;refine gG ?_;clear gG;cases y with
  | byt j=>obtain ⟨t',rfl⟩:=ry; exact PySem.W.ne_bytes (zc6 I q (congrArg not za07))
  | _=>exact absurd (show false = true from hs) by9
 | _=>cases y <;> exact absurd (show false = true from hs) by9
theorem zf07 : OpR X (fy7 .Lt) (rI0 fun i j=>.bl (decide (i < j))):=opB0 fun _ _ _ _ _ _ _ q=>lt_int q
theorem zf08 : OpR X (fy7 .LtE) (rI0 fun i j=>.bl (decide (i <= j))):=opB0 fun _ _ _ _ _ _ _ q=>le_int q
theorem zf09 : OpR X (fy7 .Gt) (rI0 fun i j=>.bl (decide (j < i))):=opB0 fun _ _ _ _ _ _ _ q=>gt_int q
theorem za08 : OpR X (fy7 .In) (fun x y H Q=>∃ i j,x = .str i /\ y = .str j /\ Q (.bl (!(wy4 j i 0 j.length 1).isEmpty)) H):=by
 intro pins s σ H x y v u Q I rx ry h;refine za0 fun gG=>?_;obtain ⟨i,j,rfl,rfl,q⟩:=h;obtain ⟨t,rfl⟩:=rx;obtain ⟨t',rfl⟩:=ry;refine gG ?_;clear gG;exact in_str (zc6 I q rfl)
theorem zd89 : OpR X (fy7 .Is) (fun x y H Q=>y = .non /\ Q (.bl (decide (x = .non))) H):=by
 intro pins s σ H x y v u Q I rx ry h;refine za0 fun gG=>?_;obtain ⟨rfl,q⟩:=h;refine gG ?_;clear gG;cases ry;refine is_none_gen (zc6 I q ?_)
 cases x <;> first
  | (cases rx; rfl)
  | (obtain ⟨t,rfl⟩:=rx; rfl)
theorem zc65 : OpR X (fy7 .IsNot) (fun x y H Q=>y = .non /\ Q (.bl (!decide (x = .non))) H):=by
 intro pins s σ H x y v u Q I rx ry h;refine za0 fun gG=>?_;obtain ⟨rfl,q⟩:=h;refine gG ?_;clear gG;cases ry;refine isnot_none_gen (zc6 I q ?_)
 cases x <;> first
  | (cases rx; rfl)
  | (obtain ⟨t,rfl⟩:=rx; rfl)
theorem zc66 {op : CmpOp} {r : R2} (ho : OpR X (fy7 op) r) (ha : PE X a ta) (hb : PE X b tb) (hm : behindInMarks op b = false) : PE X (.Compare a [op] [b] pos) (tOp r ta tb):=by
 intro pins s σ H Q I h;exact wpAny_Compare1 (binT ha hb I h fun v u s2 x y H2 I2 rx ry q=>ho pins s2 σ H2 x y v u Q I2 rx ry q) hm
def zd90 (t : TE) : TT:=fun σ H Q=>t σ H fun x H'=>∃ k,x = .bl k /\ Q k H'
theorem zc67 {op : CmpOp} {r : R2} (ho : OpR X (fy7 op) r) (ha : PE X a ta) (hb : PE X b tb) (hm : behindInMarks op b = false) : PT X (.Compare a [op] [b] pos) (zd90 (tOp r ta tb)):=by
 intro pins s σ H Q I h
 refine wpAny_isTrue_Compare1 (thn (ha pins s σ H _ I h) fun v s1 ⟨x,H1,I1,r1,q1⟩=>thn (hb pins s1 σ H1 _ I1 q1) fun u s2 ⟨y,H2,I2,r2,q2⟩ =>
  thn (ho pins s2 σ H2 x y v u _ I2 r1 r2 q2) fun c s3 ⟨z,H3,I3,r3,k,e,q3⟩=>?_) hm
 subst e;cases r3;exact ky8 ⟨H3,I3,q3⟩
def zd91 (r r' : R2) (ta tb tc : TE) : TE:=fun σ H Q=>ta σ H fun x H1=>tb σ H1 fun y H2=>r x y H2 fun z H3=>∃ k,z = .bl k /\
 (if k = true then tc σ H3 fun w' H4=>r' y w' H4 Q else Q (.bl false) H3)
theorem zb34 {op op' : CmpOp} {r r' : R2} (ho : OpR X (fy7 op) r) (ho' : OpR X (fy7 op') r') (ha : PE X a ta) (hb : PE X b tb) (hc : PE X c tc)
  (hm : lastMarks [op,op'] [b,c] = false:=by with_unfolding_all rfl) : PT X (.Compare a [op,op'] [b,c] pos) (zd90 (zd91 r r' ta tb tc)):=by
 intro pins s σ H Q I h
 refine isTrue_chain (thn (ha pins s σ H _ I h) fun v s1 ⟨x,H1,I1,r1,q1⟩=>test_link (thn (hb pins s1 σ H1 _ I1 q1) fun u s2 ⟨y,H2,I2,r2,q2⟩ =>
  thn (ho pins s2 σ H2 x y v u _ I2 r1 r2 q2) fun d s3 ⟨z,H3,I3,r3,k,e,q3⟩=>?_)) hm
 subst e;cases r3;refine ky8 ?_;cases k with
 | false =>
  refine za0 fun gG=>?_;obtain ⟨k',e',q'⟩:=q3;refine gG ?_;clear gG;cases e';exact ite_ff ⟨H3,I3,q'⟩
 | true =>
  refine ite_tt (test_last (thn (hc pins s3 σ H3 _ I3 q3) fun w' s4 ⟨z',H4,I4,r4,q4⟩=>thn (ho' pins s4 σ H4 y z' u w' _ I4 r2 r4 q4) fun d' s5 ⟨z2,H5,I5,r5,k2,e2,q5⟩=>?_));subst e2;cases r5;exact ky8 ⟨H5,I5,q5⟩
def TruV (K : ay4) (x : V) (H : Hp) (k : Bool) : Prop :=
 match x with
 | .non=>k = false
 | .bl b=>k = b
 | .int i=>k = (i != 0)
 | .str y=>y.length <= by0 /\ k = ((y.length : Int) != 0)
 | .byt y=>y.size <= by0 /\ k = ((y.size : Int) != 0)
 | .ref p=>(∃ xs,SqL K H p xs /\ k = !xs.isEmpty) \/ (∃ xs,SqT K H p xs /\ k = !xs.isEmpty) \/ ∃ kvs,H p = some (.dK kvs) /\ k = !kvs.isEmpty
 | _=>False
theorem zU6 {κ : Type} {kvs : List (κ × V)} {vs : List (κ × Value)} (r : KV kvs vs) : (!vs.isEmpty) = !kvs.isEmpty:=by
 cases r <;> rfl
theorem zq0 {xs : List V} {its : List Value} (r : Vals xs its) : (!its.toArray.isEmpty) = !xs.isEmpty:=by
 cases r <;> simp
theorem zm7 : (by0 : Nat) < 2 ^ 63:=by rw [ny6]; decide
theorem zd92 : TruR X (fun x H Q=>∃ k,TruV X.K x H k /\ Q k H):=by
 intro pins s σ H x v Q I rx h;refine za0 fun gG=>?_;obtain ⟨k,e,q⟩:=h;refine gG ?_;clear gG;have hl:=zm7;have hs : by0 = 16777216:=ny6;cases x with
 | non =>
  cases rx;have e' : k = false:=e;subst e';exact truthy_none ⟨H,I,q⟩
 | bl b =>
  cases rx;have e' : k = b:=e;subst e';exact ky8 ⟨H,I,q⟩
 | int i =>
  refine za0 fun gG=>?_;obtain ⟨t,rfl⟩:=rx;refine gG ?_;clear gG;have e' : k = (i != 0):=e;subst e';exact PySem.P.truthy_int ⟨H,I,q⟩
 | str y =>
  refine za0 fun gG=>?_;obtain ⟨t,rfl⟩:=rx;refine gG ?_;clear gG;obtain ⟨hy,e'⟩ : y.length <= by0 /\ k = ((y.length : Int) != 0):=e;subst e';exact PySem.P.truthy_str (by omega) ⟨H,I.tok _,q⟩
 | byt y =>
  refine za0 fun gG=>?_;obtain ⟨t,rfl⟩:=rx;refine gG ?_;clear gG;obtain ⟨hy,e'⟩ : y.size <= by0 /\ k = ((y.size : Int) != 0):=e;subst e';exact PySem.W.truthy_bytes (by omega) ⟨H,I.tok _,q⟩
 | ref p =>
  cases rx;have e' : (∃ xs,SqL X.K H p xs /\ k = !xs.isEmpty) \/ (∃ xs,SqT X.K H p xs /\ k = !xs.isEmpty) \/ ∃ kvs,H p = some (.dK kvs) /\ k = !kvs.isEmpty:=e;rcases e' with ⟨xs,hx,e'⟩ | ⟨xs,hx,e'⟩ | ⟨kvs,hx,e'⟩
  ·subst e';refine za0 fun gG=>?_;obtain ⟨its,r,pl,hz⟩:=I.list hx;refine gG ?_;clear gG;have hlen:=r.length;exact wpAny_truthy_list pl.isList (by simp only [by7]; omega) ⟨H,I.tok _,by rw [zq0 r]; exact q⟩
  ·subst e';refine za0 fun gG=>?_;obtain ⟨its,r,pl,hz⟩:=I.tuple hx;refine gG ?_;clear gG;have hlen:=r.length;exact truthy_tuple pl (by simp only [by7]; omega) ⟨H,I.tok _,by rw [zq0 r]; exact q⟩
  ·subst e';obtain ⟨hz,hS,vs,r,m⟩ : kvs.length <= by0 /\ (p == ly6) = false /\ ∃ vs,KV kvs vs /\ s.heap.DictOf (zc5 X.prog X.w) p vs:=I.hok p _ hx;have hlen : kvs.length = vs.length:=Paired.length r;exact wpAny_truthy_dict hS m (by omega) ⟨H,I.tok _,by rw [zU6 r]; exact q⟩
 | _=>exact (show False from e).elim
theorem zb35 (ha : PE X a ta) (he : ∀ whole,isTrue a X.env whole = (do let v <- whole; standAt a.pos; holding [v] (truthy v))) :
  PT X a (fun σ H Q=>ta σ H fun x H'=>∃ k,TruV X.K x H' k /\ Q k H'):=by
 intro pins s σ H Q I h;exact isTrue_plain (thn (ha pins s σ H _ I h) fun v s1 zR=>by obtain ⟨x,H1,I1,r1,q1⟩:=zR; exact zd92 pins s1 σ H1 x v Q I1 r1 q1) (he _)
theorem vals1 {x : V} {us : List Value} (r : Vals [x] us) : ∃ u,us = [u] /\ RelV x u:=by
 cases r with
 | cons r1 r2=>cases r2; exact ⟨_,rfl,r1⟩
theorem vals2 {x y : V} {us : List Value} (r : Vals [x,y] us) : ∃ u w',us = [u,w'] /\ RelV x u /\ RelV y w':=by
 cases r with
 | cons r1 r2 =>
  cases r2 with
  | cons r3 r4=>cases r4; exact ⟨_,_,rfl,r1,r3⟩
theorem za09 : zj8 X (.type "int") (fun xs H Q=>(∃ i,xs = [.int i] /\ Q (.int i) H) \/ ∃ k,xs = [.bl k] /\ Q (.int (if k then 1 else 0)) H):=by
 intro pins s σ H xs us Q I r h;rcases h with ⟨i,rfl,q⟩ | ⟨k,rfl,q⟩
 ·refine za0 fun gG=>?_;obtain ⟨u,rfl,t,rfl⟩:=vals1 r;refine gG ?_;clear gG;exact call_int_int ⟨.int i,H,I,⟨_,rfl⟩,q⟩
 ·refine za0 fun gG=>?_;obtain ⟨u,rfl,r1⟩:=vals1 r;refine gG ?_;clear gG;cases r1;exact call_int_bool ⟨.int (if k then 1 else 0),H,I.tok _,⟨_,rfl⟩,q⟩
theorem zK9 : zj8 X (.builtin "divmod") (fun xs H Q=>∃ i j,xs = [.int i,.int j] /\ CDiv i j /\ ∀ p,H p = none->Q (.ref p) (upd H p (.tup [.int (i / j),.int (i % j)]))):=by
 intro pins s σ H xs us Q I r h;refine za0 fun gG=>?_;obtain ⟨i,j,rfl,⟨h1,h2⟩,q⟩:=h;obtain ⟨u,w',rfl,⟨t,rfl⟩,⟨t',rfl⟩⟩:=vals2 r;refine gG ?_;clear gG;refine divmod_int (by omega) ?_ (.inl (PyProof.noPylong_small (by omega)));rw [Int.fdiv_eq_ediv_of_nonneg i (by omega),Int.fmod_eq_emod_of_nonneg i (by omega)];have hn : H s.heap.objs.size = none:=I.hok.fresh (ay6 _);refine ⟨.ref s.heap.objs.size,_,?_,rfl,q _ hn⟩;refine I.laid (fun b o e=>ay2 _ e) (ay6 _) ⟨by simp only [hy8,List.length_nil]; rw [ny6]; decide,[.int (i / j) s.toks,.int (i % j) (s.toks + 1)],.cons ⟨_,rfl⟩ (.cons ⟨_,rfl⟩ .nil),?_⟩;exact ⟨_,ay7 s.heap rfl,rfl,0,rfl⟩
end
structure ObjM (h : Heap) (x dx C : Addr) (mA : Str->Option Value) : Prop where
 obj : h.get? x = some (PySem.W.instObj C dx)
 ns : h.Ns1 dx mA
 ne : dx ≠ x
theorem za10 {h : Heap} {dx : Addr} {mA : Str->Option Value} (n : h.Ns1 dx mA) : ∃ od,h.get? dx = some od /\ ∀ name,PySem.W.lookIn name od = some (mA name):=by
 refine za0 fun gG=>?_;obtain ⟨o,es,ep,ho,hd,hk,_,hm⟩:=n;refine gG ?_;clear gG;refine ⟨o,ho,fun name=>?_⟩;have e:=hm name;unfold nsFind findBy at e;rw [<- Array.find?_toList] at e;unfold PySem.W.lookIn;rw [hd];dsimp only
 split
 ·rename_i y q
  rw [q] at e;exact congrArg some e
 ·rename_i q
  rw [q] at e
  have a : es.toList.any (·.refKey) = false:=by
   rw [List.any_eq_false];intro y hy;refine za0 fun gG=>?_;obtain ⟨z,t,hkey⟩:=hk y (Array.mem_toList_iff.mp hy);refine gG ?_;clear gG;simp [DictEntry.refKey,hkey]
  have a' : ¬ es.toList.any (·.refKey) = true:=by rw [a]; exact by9
  rw [if_neg a'];exact congrArg some e
theorem ObjM.look {h : Heap} {x dx C : Addr} {mA : Str->Option Value} (I : ObjM h x dx C mA) : ∃ od,PySem.W.InstAt h x (PySem.W.instObj C dx) C (some od) /\ ∀ name,PySem.W.lookIn name od = some (mA name) :=
 let ⟨od,ho,hl⟩:=za10 I.ns
 ⟨od,⟨I.obj,rfl,rfl,ho⟩,hl⟩
section
variable {prog : cy6} {w : World} {A : Around} {E : Value->Shared->Prop} {s : Shared} {K : ay4} {x dx C f : Addr} {mA : Str->Option Value} {name : Str} {v : Value}
end
theorem zF4.some_of {v : V} {o : Option Value} (r : zF4 (some v) o) : ∃ u,o = some u /\ RelV v u:=by
 cases o with
 | none=>exact (show False from r).elim
 | some u=>exact ⟨u,rfl,r⟩
theorem zF4.none_of {o : Option Value} (r : zF4 none o) : o = none:=by
 cases o with
 | none=>rfl
 | some u=>exact (show False from r).elim
section
variable {P : cy6} {w : World} {H H' : Hp} {h h' : Heap} {a C dx : Addr} {fs fs' : List (Str × V)}
theorem zc68 (hok : HOk P w H h) (e : H a = some (.ins C dx fs)) : ∃ mA,ObjM h a dx C mA /\ (∀ f,zF4 (fs.lookup f) (mA f)) /\ PySem.Within mA (fs.map (·.1)) /\ fs.length <= 1000 /\ H dx = some (.own a):=by
 refine za0 fun gG=>?_;obtain ⟨d,z,ne,ob,mA,n,r,q⟩:=(show zb9 P w H h a (.ins C dx fs) from hok a _ e)
 refine gG ?_;clear gG;exact ⟨mA,⟨ob,n,ne⟩,r,q,z,d⟩
end
structure Cls (K : ay4) (C : Addr) : Prop where
 pg : PySem.W.plainGet K C Str.empty = true
 hd : PySem.W.hasDictIn K C = true
 po : PySem.W.plainOver K C = true
 sa : PySem.W.findIn K (.ref C) "__setattr__" = some (some (.builtin "object.__setattr__"))
theorem Cls.get {K : ay4} {C : Addr} (c : Cls K C) (f : Str) : PySem.W.plainGet K C f = true:=c.pg
section
variable {X : Cx} {pins : List (Addr × Obj)} {σ : St} {H : Hp} {s : Shared} {a C dx : Addr} {fs : List (Str × V)} {f : Str} {v : V} {A : Around} {E : Value->Shared->Prop}
end
section
variable {X : Cx} {o e value : Expr} {f : Str} {pos pos' tpos : Pos} {ta tv : TE}
end
section
variable {X : Cx} {pins : List (Addr × Obj)} {σ : St} {H : Hp} {s : Shared} {A : Around} {E : Value->Shared->Prop} {Q : Value->Shared->Prop} {c : Value} {b : Bool}
inductive zZ0 (K : ay4) (H : Hp) : V->Value->Prop where
 | non : zZ0 K H .non (.type "NoneType")
 | bl (x : Bool) : zZ0 K H (.bl x) (.type "bool")
 | int (i : Int) : zZ0 K H (.int i) (.type "int")
 | str (x : Str) : zZ0 K H (.str x) (.type "str")
 | flt (x : UInt64) : zZ0 K H (.flt x) (.type "float")
 | lst {a : Addr} {xs : List V} (e : H a = some (.lst xs)) : zZ0 K H (.ref a) (.type "list")
 | frz {a : Addr} {o : Obj} {xs : List V} (e : H a = some (.frz o (.lst xs))) : zZ0 K H (.ref a) (.type "list")
 | tup {a : Addr} {xs : List V} (e : H a = some (.tup xs)) : zZ0 K H (.ref a) (.type "tuple")
 | dK {a : Addr} {kvs : List (Key × V)} (e : H a = some (.dK kvs)) : zZ0 K H (.ref a) (.type "dict")
 | dT {a : Addr} {kvs : List (List Key × V)} (e : H a = some (.dT kvs)) : zZ0 K H (.ref a) (.type "dict")
 | ins {a C dx : Addr} {fs : List (Str × V)} (e : H a = some (.ins C dx fs)) (cl : Cls K C) (ha : PySem.W.findIn K (.ref C) "__class__" = some (some (.builtin "object.__class__")))
   (hn : PySem.W.specialIn K (.builtin "object.__class__") "__get__" = some (some (.builtin "getset_descriptor.__get__"))) (htk : PySem.W.takesIn K (.builtin "object.__class__") = some true)
   (hm : PySem.W.mroIn K C (.type "object") = some true) : zZ0 K H (.ref a) (.ref C)
theorem zi0 {x : V} {u t : Value} (I : Inv X pins σ H s) (rx : RelV x u) (ty : zZ0 X.K H x t) (e : PySem.W.kitOne X.K t c = some b) (h : ∀ tk,Q (.bool b) { s with toks:=tk }) :
  wpAny (model X.prog X.w) A (call (.builtin "isinstance") [u,c]) Q E s:=by
 cases ty with
 | non=>cases (show u = ey1 from rx); exact jy1 PySem.W.kitx_none I.kIn uy7 e (fun z=>nomatch z) h
 | bl y=>cases (show u = Value.bool y from rx); exact jy1 PySem.W.kitx_bool I.kIn uy7 e (fun z=>nomatch z) h
 | int i=>obtain ⟨t,q⟩:=(show ∃ t,u = Value.int i t from rx); cases q; exact jy1 PySem.W.kitx_int I.kIn uy7 e (fun z=>nomatch z) h
 | str y=>obtain ⟨t,q⟩:=(show ∃ t,u = Value.str y t from rx); cases q; exact jy1 PySem.W.kitx_str I.kIn uy7 e (fun z=>nomatch z) h
 | flt y=>obtain ⟨t,q⟩:=(show ∃ t,u = Value.float y t from rx); cases q; exact jy1 PySem.W.kitx_float I.kIn uy7 e (fun z=>nomatch z) h
 | @lst a xs ea =>
  cases (show u = dy2 a from rx);refine za0 fun gG=>?_;obtain ⟨_,_,n,_,h1⟩:=(show zb9 X.prog X.w H s.heap a (.lst xs) from I.hok a _ ea)
  refine gG ?_;clear gG;exact jy1 PySem.W.kitx_list I.kIn ⟨_,h1,rfl⟩ e (fun z=>nomatch z) h
 | @frz a ob xs ea =>
  cases (show u = dy2 a from rx);refine za0 fun gG=>?_;obtain ⟨_,_,_,n,_,h1⟩:=(show zb9 X.prog X.w H s.heap a (.frz ob (.lst xs)) from I.hok a _ ea)
  refine gG ?_;clear gG;exact jy1 PySem.W.kitx_list I.kIn ⟨_,h1,rfl⟩ e (fun z=>nomatch z) h
 | @tup a xs ea =>
  cases (show u = dy2 a from rx);refine za0 fun gG=>?_;obtain ⟨_,_,_,p⟩:=(show zb9 X.prog X.w H s.heap a (.tup xs) from I.hok a _ ea)
  obtain ⟨o,h1,h2,_⟩:=p;refine gG ?_;clear gG;exact jy1 PySem.W.kitx_tuple I.kIn ⟨o,h1,h2⟩ e (fun z=>nomatch z) h
 | @dK a kvs ea =>
  cases (show u = dy2 a from rx);refine za0 fun gG=>?_;obtain ⟨_,_,vs,_,p⟩:=(show zb9 X.prog X.w H s.heap a (.dK kvs) from I.hok a _ ea)
  obtain ⟨o,es,ep,h1,h2,_⟩:=p;refine gG ?_;clear gG;exact jy1 PySem.W.kitx_dict I.kIn ⟨o,h1,h2.1⟩ e (fun z=>nomatch z) h
 | @dT a kvs ea =>
  cases (show u = dy2 a from rx);refine za0 fun gG=>?_;obtain ⟨_,_,xs,_,o,es,ep,h1,h2,_⟩:=(show zb9 X.prog X.w H s.heap a (.dT kvs) from I.hok a _ ea)
  refine gG ?_;clear gG;exact jy1 PySem.W.kitx_dict I.kIn ⟨o,h1,h2.1⟩ e (fun z=>nomatch z) h
 | @ins a C dx fs ea cl ha hn htk hm =>
  cases (show u = dy2 a from rx);refine za0 fun gG=>?_;obtain ⟨mA,O,_⟩:=zc68 I.hok ea;obtain ⟨od,J,_⟩:=O.look;refine gG ?_;clear gG;exact jy1 (PySem.W.kitx_own (cl.get _) cl.hd ha hn htk hm) I.kIn J e (fun z=>nomatch z) h
end
structure zz0 (k : Nat) (A : Around) : Prop where
 hd : A.handled = none
 dp : A.depth + 3 * k + 5 < recursionLimit
 un : A.units + 16 * k + 200 < cLine
theorem zz0.mono {j k : Nat} {A : Around} (r : zz0 k A) (h : j <= k) : zz0 j A:=⟨r.hd,by have:=r.dp; omega,by have:=r.un; omega⟩
theorem zz0.deeper {k : Nat} {A : Around} (r : zz0 (k + 1) A) (env : Env) : zz0 k (A.deeper env) :=
 ⟨r.hd,by have:=r.dp; show A.depth + 1 + 3 * k + 5 < _; omega,by have:=r.un; show A.units + 3 + 16 * k + 200 < _; omega⟩
theorem zz0.depth {k : Nat} {A : Around} (r : zz0 k A) : A.depth < recursionLimit:=by have:=r.dp; omega
theorem zz0.units {k : Nat} {A : Around} (r : zz0 k A) : A.units + 64 < cLine:=by have:=r.un; omega
def tNil : TA:=fun _ H Q=>Q [] H
def zf11 (ta : TE) (tr : TA) : TA:=fun σ H Q=>ta σ H fun x H1=>tr σ H1 fun xs H2=>Q (x :: xs) H2
section
variable {X : Cx} {e : Expr} {es : List Expr} {te : TE} {t : TA} {pos : Pos}
theorem zz1 : PA X [] tNil:=fun _ _ _ _ H Q I h=>Calls.spliced_nil ⟨[],H,I,.nil,h⟩
theorem zm9 (ha : PE X e te) (hr : PA X es t) (hs : ey8 (e :: es) X.env = (false,eval e X.env) :: ey8 es X.env:=by rfl) : PA X (e :: es) (zf11 te t):=by
 intro pos pins s σ H Q I h;rw [hs];show wpAny _ _ (spliced ((false,eval e X.env) :: backTo pos (ey8 es X.env))) _ _ s;refine Calls.spliced_cons (thn (ha pins s σ H _ I h) fun u s1 ⟨x,H1,I1,r1,q1⟩=>?_);exact thn (hr pos pins s1 σ H1 _ I1 q1) fun us s2 zR=>by obtain ⟨xs,H2,I2,r2,q2⟩:=zR; exact ⟨x :: xs,H2,I2,.cons r1 r2,q2⟩
def tTup (t : TA) : TE:=fun σ H Q=>t σ H fun xs H1=>xs.length <= by0 /\ ∀ p,H1 p = none->Q (.ref p) (upd H1 p (.tup xs))
def tLst (t : TA) : TE:=fun σ H Q=>t σ H fun xs H1=>xs.length <= by0 /\ ∀ p,H1 p = none->Q (.ref p) (upd H1 p (.lst xs))
theorem zc25 {x1} (h : PA X es t) : PE X (.Tuple es x1 pos) (tTup t):=by
 intro pins s σ H Q I hq;refine wpAny_Tuple_spliced (thn (h pos pins s σ H _ I hq) fun us s1 ⟨xs,H1,I1,r,z,q⟩=>⟨by rw [<- r.length]; exact z,?_⟩);have hf : H1 s1.heap.objs.size = none:=I1.hok.fresh (ay6 _);refine ⟨.ref s1.heap.objs.size,upd H1 s1.heap.objs.size (.tup xs),I1.laid (t':=s1.toks) (fun b u e=>ay2 _ e) (ay6 _) ?_,rfl,q _ hf⟩;exact ⟨z,us,r,⟨_,ay7 _ rfl,rfl,_,rfl⟩⟩
theorem zc26 (h : PA X es t) : PE X (.List es pos) (tLst t):=by
 intro pins s σ H Q I hq;refine wpAny_List_spliced (thn (h pos pins s σ H _ I hq) fun us s1 ⟨xs,H1,I1,r,z,q⟩=>⟨by rw [<- r.length]; exact z,?_⟩);have hf : H1 s1.heap.objs.size = none:=I1.hok.fresh (ay6 _);refine ⟨.ref s1.heap.objs.size,upd H1 s1.heap.objs.size (.lst xs),I1.laid (t':=s1.toks) (fun b u e=>ay2 _ e) (ay6 _) ?_,rfl,q _ hf⟩;exact ⟨z,us,0,r,ay7 _ rfl⟩
end
abbrev Sp:=List V->Hp->VK->XK->Prop
abbrev CXT:=List Env->Hp->Shared->XK->Value->Shared->Prop
structure Env0 (P : cy6) (w : World) (K : ay4) (mg : Str->Option Value) (base : Heap) (A : Around) (outer : List Env) (s : Shared) (H : Hp) : Prop where
 frames : A.frames = some outer
 mod : Mod K mg base
 bs : ∀ b o,base.get? b = some o->s.heap.get? b = some o /\ H b = none
 bsz : base.objs.size <= s.heap.objs.size
 zU1 : s.heap.FunFrames base outer
 frf : ∀ b∈frs outer,H b = none
 hok : HOk P w H s.heap
 bare : AllBare s.gens
def CE (outer : List Env) (P : cy6) (w : World) (H : Hp) (s : Shared) (Q : VK) (u : Value) (s' : Shared) : Prop :=
 ∃ v H',s'.os = s.os /\ AllBare s'.gens /\ Un (frs outer) [] H H' s.heap s'.heap /\ HOk P w H' s'.heap /\ RelV v u /\ Q v H'
def CR (CX : CXT) (outer : List Env) (P : cy6) (w : World) (H : Hp) (s : Shared) (Q : VK) (E : XK) (r : Result) (s' : Shared) : Prop :=
 match r with
 | .ok (.ret u)=>CE outer P w H s Q u s'
 | .ok _=>False
 | .error e=>CX outer H s E e s'
structure zj9 (P : cy6) (w : World) (K : ay4) (mg : Str->Option Value) (base : Heap) (CX : CXT) (k : Nat) (f : Addr) (fd : ey4) (ps : List Str) (sp : Sp) : Prop where
 len : ∀ vs H Q E,sp vs H Q E->vs.length = ps.length
 run : ∀ (A : Around) (outer : List Env) (s : Shared) (H : Hp) (args : Args) (us : List Value) (vs : List V) (Q : VK) (E : XK),zz0 k A->Env0 P w K mg base A outer s H->BindsTo s fd args (ps.zip us)->Vals vs us->sp vs H Q E ->
  my2 (model P w) A (.call (.ref f) args) (CR CX outer P w H s Q E) s
section
variable {X : Cx} {pins : List (Addr × Obj)} {σ : St} {H : Hp} {s s' : Shared}
theorem Inv.env0 (I : Inv X pins σ H s) : Env0 X.prog X.w X.K X.mg X.base X.A X.stack s H :=
 ⟨I.ok.frames,I.ok.mod,I.bs,ey0 I.ok.bsz I.sz,I.stack,I.zZ7,I.hok,I.bare⟩
theorem Inv.after {Q : VK} {u : Value} (I : Inv X pins σ H s) (h : CE X.stack X.prog X.w H s Q u s') : EP X pins σ Q u s':=by
 refine za0 fun gG=>?_;obtain ⟨v,H',os,bare,un,hok,r,q⟩:=h;obtain ⟨hh,g,d,t,os'⟩:=s';refine gG ?_;clear gG;obtain rfl : os' = s.os:=os;exact ⟨v,H',I.call (h':=hh) (g':=g) (d':=d) (t':=t) (ch:=[]) un hok bare (fun b z=>absurd z (by simp)),r,q⟩
end
def zf12 (sp : Sp) (dvs : List V) (E : XK) (t : TA) : TE:=fun σ H Q=>t σ H fun vs H1=>sp (vs++dvs) H1 Q E
def Binds (K : ay4) (fd : ey4) (ps : List Str) (ds : List Value) : Prop :=
 ∀ (s : Shared) (us : List Value),K.In s.heap->(us++ds).length = ps.length->BindsTo s fd ⟨us,[]⟩ (ps.zip (us++ds))
theorem Binds.all {K : ay4} {fd : ey4} {ps : List Str} (h : ∀ us : List Value,us.length = ps.length->bindArgs fd ⟨us,[]⟩ = pure (ps.zip us)) : Binds K fd ps []:=fun s us _ hl=>by
 rw [wy5] at hl ⊢;exact .of_eq (h us hl)
def Passes (CX : CXT) (X : Cx) (E : XK) : Prop:=∀ (pins : List (Addr × Obj)) (σ : St) (H : Hp) (s : Shared) (e : Value) (s' : Shared),Inv X pins σ H s->CX X.stack H s E e s'->X.xe e s'
section
variable {X : Cx} {CX : CXT} {k : Nat} {f C : Addr} {fd : ey4} {ps : List Str} {sp : Sp} {dvs : List V} {ds : List Value} {E : XK} {x m : Str} {p pos apos : Pos} {e o : Expr} {es : List Expr} {ta : TE} {t : TA}
theorem zd93 {pins : List (Addr × Obj)} {σ : St} {H : Hp} {s : Shared} {Q : VK} {us : List Value} {vs : List V} (F : zj9 X.prog X.w X.K X.mg X.base CX k f fd ps sp) (hr : zz0 k X.A) (hb : Binds X.K fd ps ds) (hd : Vals dvs ds) (hx : Passes CX X E)
  (I : Inv X pins σ H s) (r : Vals vs us) (h : sp (vs++dvs) H Q E) : wpAny (model X.prog X.w) X.A (call (.ref f) us) (EP X pins σ Q) X.xe s:=by
 have r2 : Vals (vs++dvs) (us++ds):=r.append hd;have hl : (us++ds).length = ps.length:=by rw [<- r2.length]; exact F.len _ _ _ _ h
 refine wpAny_call (codeAny_mono (F.run X.A X.stack s H ⟨us,[]⟩ (us++ds) (vs++dvs) Q E hr I.env0 (hb s us I.kIn hl) r2 h) fun r s' hq=>?_);cases r with
 | error e=>exact hx pins σ H s e s' I hq
 | ok fl =>
  cases fl with
  | ret u=>exact I.after hq
  | next=>exact uy6 hq
  | brk=>exact uy6 hq
  | cont=>exact uy6 hq
theorem zc69 (F : zj9 X.prog X.w X.K X.mg X.base CX k f fd ps sp) (hr : zz0 k X.A) (hg : Gl X x) (hm : X.mg x = some (.ref f)) (hk : cy9 X.K (.ref f) = true) (hb : Binds X.K fd ps ds) (hd : Vals dvs ds) (hx : Passes CX X E)
  (ha : PA X (e :: es) t) (hdb : (x == ("__debug__" : Str)) = false:=by decide) (he : ey8 (e :: es) X.env = (false,eval e X.env) :: ey8 es X.env:=by rfl) (hpl : (backTo pos (ey8 es X.env)).any (·.1) = false:=by rfl) :
  PE X (.Call (.Name x p) (e :: es) [] pos) (zf12 sp dvs E t):=by
 intro pins s σ H Q I h;refine wpAny_Call_Name_kw (zZ8 I hg hm ?_ hdb);refine PySem.W.callWith_K (h₀:=X.base) I.ok.mod.kin hk (thn (ha pos pins s σ H _ I h) fun us s1 ⟨vs,H1,I1,r,q⟩=>⟨I1.kIn,?_⟩) he hpl;exact zd93 F hr hb hd hx I1 r q
end
section
variable {X : Cx} {CX : CXT} {k : Nat} {f C : Addr} {fd : ey4} {ps ks : List Str} {sp : Sp} {E : XK} {x m : Str} {p pos apos kpos : Pos} {e o : Expr} {es : List Expr} {kws : List Keyword} {te ta : TE} {t tk : TA} {nm : Option Str}
variable {g : List Value->List Value->List Value} {gV : List V->List V->List V}
end
structure zb5 (N P : List Str) (sc : Scope) : Prop where
 kind : sc.kind = .function
 co : sc.isCoroutine = false
 gen : sc.isGenerator = false
 nd : N.Nodup
 pre : N.take P.length = P
 par : ∀ x∈P,sc.names.lookup x = some .local \/ sc.names.lookup x = some .cell
 nofree : ∀ y∈sc.names,y.2 ≠ .free
theorem zF9 {kindOf : Str->Option wy6} {x : Str} : ∀ {binds : List (Str × Value)} {m : Str->Option Value},(∀ v,(x,v) ∉ binds)->bindL kindOf binds m x = m x
 | [],_,_=>rfl
 | (n,v) :: r,m,h=>by
  unfold bindL;rw [zF9 fun w hw=>h w (by1 _ hw)]
  split
  ·have : x ≠ n:=by rintro rfl; exact h v by2
   simp [this]
  ·rfl
theorem zG0 {kindOf : Str->Option wy6} {x : Str} : ∀ {binds : List (Str × Value)} {m : Str->Option Value},(∀ v,(x,v) ∉ binds)->bindC kindOf binds m x = m x
 | [],_,_=>rfl
 | (n,v) :: r,m,h=>by
  unfold bindC;rw [zG0 fun w hw=>h w (by1 _ hw)]
  split
  ·rfl
  ·have : x ≠ n:=by rintro rfl; exact h v by2
   simp [this]
theorem zG1 {kindOf : Str->Option wy6} {x : Str} {v : Value} : ∀ {P : List Str} {vs : List Value} {i : Nat} {m : Str->Option Value},P.Nodup->P[i]? = some x->vs[i]? = some v->kindOf x = some .local ->
  bindL kindOf (P.zip vs) m x = some v
 | [],_,_,_,_,h,_,_=>by simp at h
 | _ :: _,[],_,_,_,_,h,_=>by simp at h
 | p :: P,w :: vs,0,m,nd,h1,h2,hk=>by
  simp at h1 h2; subst h1; subst h2;show bindL kindOf ((p,w) :: P.zip vs) m p = _;unfold bindL;rw [zF9 fun v hv=>(ly5.mp nd).1 (List.of_mem_zip hv).1,if_pos hk];simp
 | p :: P,w :: vs,i + 1,m,nd,h1,h2,hk=>by
  show bindL kindOf ((p,w) :: P.zip vs) m x = _;unfold bindL;exact zG1 (i:=i) (ly5.mp nd).2 (by simpa using h1) (by simpa using h2) hk
theorem zG2 {kindOf : Str->Option wy6} {x : Str} {v : Value} : ∀ {P : List Str} {vs : List Value} {i : Nat} {m : Str->Option Value},P.Nodup->P[i]? = some x->vs[i]? = some v->kindOf x ≠ some .local ->
  bindC kindOf (P.zip vs) m x = some v
 | [],_,_,_,_,h,_,_=>by simp at h
 | _ :: _,[],_,_,_,_,h,_=>by simp at h
 | p :: P,w :: vs,0,m,nd,h1,h2,hk=>by
  simp at h1 h2; subst h1; subst h2;show bindC kindOf ((p,w) :: P.zip vs) m p = _;unfold bindC;rw [zG0 fun v hv=>(ly5.mp nd).1 (List.of_mem_zip hv).1,if_neg hk];simp
 | p :: P,w :: vs,i + 1,m,nd,h1,h2,hk=>by
  show bindC kindOf ((p,w) :: P.zip vs) m x = _;unfold bindC;exact zG2 (i:=i) (ly5.mp nd).2 (by simpa using h1) (by simpa using h2) hk
def start (N : List Str) (vs : List V) : St:=vs.map some++List.replicate (N.length - vs.length) none
def cxOf (CX : CXT) (P : cy6) (w : World) (K : ay4) (mg : Str->Option Value) (base : Heap) (N : List Str) (qual : Str) (scope : Scope) (f : Addr) (cd : Value) (A : Around) (outer : List Env) (s : Shared) (H : Hp) (E : XK) : Cx where
 prog:=P
 w:=w
 K:=K
 mg:=mg
 base:=base
 A:=A.deeper (envOfC qual scope s.heap.objs.size f cd)
 N:=N
 s₀:=s
 H₀:=H
 env:=envOfC qual scope s.heap.objs.size f cd
 outer:=outer
 stack:=envOfC qual scope s.heap.objs.size f cd :: outer
 ex:=[]
 calm:=true
 fn:=fun _=>true
 pn:=[]
 xe:=fun e s'=>wpAny (model P w) (A.deeper (envOfC qual scope s.heap.objs.size f cd)) (leaving (envOfC qual scope s.heap.objs.size f cd) e) (fun _ s''=>CX outer H s E e s'') (fun e' s''=>CX outer H s E e' s'') s'
theorem zP4 {sc : Scope} {n : Nat} {x : Str} (h : sc.names.lookup x = some .cell) : ∃ c,(cellsFrom n sc.names []).lookup x = some c:=by
 have q:=PySem.W.cellsFrom_some sc.names n [] (.inl h);exact Option.isSome_iff_exists.mp q
theorem za11 {CX : CXT} {P : cy6} {w : World} {K : ay4} {mg : Str->Option Value} {base : Heap} {N ps : List Str} {qual : Str} {scope : Scope} {f : Addr} {cd : Value} {A : Around} {outer : List Env} {s s1 : Shared} {H : Hp} {E : XK} {us : List Value} {vs : List V}
  (S : zb5 N ps scope) (hd : A.handled = none) (e0 : Env0 P w K mg base A outer s H) (hl : vs.length = ps.length) (r : Vals vs us)
  (x : InCallC s s.heap.objs.size (bindL (envOfC qual scope s.heap.objs.size f cd).kindOf (ps.zip us) fun _=>none) (cellsFrom (s.heap.objs.size + 1) scope.names []) (bindC (envOfC qual scope s.heap.objs.size f cd).kindOf (ps.zip us) fun _=>none) s1) :
  Inv (cxOf CX P w K mg base N qual scope f cd A outer s H E) [] (start N vs) H s1:=by
 have hpl : ps.length <= N.length:=by have:=congrArg vy9 S.pre; rw [dy3] at this; omega
 refine za0 fun gG=>?_;obtain ⟨h1,tk,rfl,hk⟩:=x.done;refine gG ?_;clear gG;have noA : ∀ b : Addr,b ∉ (cxOf CX P w K mg base N qual scope f cd A outer s H E).ex:=fun b z=>absurd (show b∈([] : List Addr) from z) (by simp)
 refine ⟨⟨e0.mod,S.kind,rfl,rfl,ay6 _,fun y z c h1 h2=>?_,fun y hy=>?_,fun y c _ h=>?_,fun _=>hd,Around.frames_deeper e0.frames,.inr ⟨rfl,rfl⟩,fun b z=>absurd z (noA b),e0.bs,e0.bsz,fun b _ _=>noA b,fun b z=>absurd z (noA b),e0.zU1,e0.frf⟩,
  rfl,e0.bare,Un.kept hk,⟨_,x.toInCall.ns,fun i y v h1 h2 h3=>?_⟩,fun y c h=>⟨_,x.cell y c h⟩,e0.hok.fresh (ay6 _),fun y c h=>?_,fun p hp=>absurd (show p∈([] : List (Addr × Obj)) from hp) (by simp),e0.hok.kept hk,?_⟩
 ·exact name_of_addr x.apart (jy2 h1) (jy2 h2)
 ·have hy : scope.names.lookup y = some .cell \/ scope.names.lookup y = some .free:=hy;rcases hy with hy | hy
  ·exact zP4 hy
  ·exact absurd rfl (S.nofree _ (jy2 hy))
 ·exact ly8 (x.above y c (jy2 h))
 ·have hi : i < vs.length:=by
   unfold start at h2
   by_cases hi : i < vs.length
   ·exact hi
   ·rw [cy7 (by simpa using hi)] at h2;rw [List.getElem?_replicate] at h2
    split at h2 <;> cases h2
  have ha : vs[i]? = some v:=by
   unfold start at h2;rw [ay8 (by simpa using hi),ay9] at h2;cases e : vs[i]? with
   | none=>rw [e] at h2; cases h2
   | some a=>rw [e] at h2; cases h2; rfl
  refine za0 fun gG=>?_;obtain ⟨u,hu,rv⟩:=r.get ha;refine gG ?_;clear gG
  have hp : ps[i]? = some y:=by
   rw [<- S.pre,gy9 (by omega)]; exact h1
  have ndP : ps.Nodup:=by rw [<- S.pre]; exact S.nd.sublist (List.take_sublist _ _)
  refine ⟨u,rv,?_⟩;rcases S.par y (cy3 hp) with k | k
  ·exact .inl ⟨k,zG1 ndP hp hu k⟩
  ·obtain ⟨c,e⟩:=zP4 (n:=s.heap.objs.size + 1) k;refine .inr ⟨.inl k,c,e,?_⟩;have q:=x.cell y c e;rw [zG2 ndP hp hu (by show scope.names.lookup y ≠ _; rw [k]; decide)] at q;exact q
 ·exact e0.hok.fresh (ly8 (x.above y c (jy2 h)))
 ·unfold start;show _ = N.length;rw [by5,ay5,List.length_replicate];omega
theorem zf13 {CX : CXT} {P : cy6} {w : World} {K : ay4} {mg : Str->Option Value} {base : Heap} {k : Nat} {f : Addr} {name qual : Str} {params : Arguments} {body : List Stmt} {scope : Scope} {dV kV doc pm cdv ct oc : Value} {an od : Option Addr}
  {osl : Array (Option Value)} {N ps : List Str} {sp : Sp} (lk : K.lookup f = some ⟨oc,od,.func (dy4 name qual params body scope dV kV doc pm an cdv ct),osl⟩) (hcd : dy1 K cdv qual = true) (S : zb5 N ps scope)
  (len : ∀ vs H Q E,sp vs H Q E->vs.length = ps.length)
  (hbody : ∀ (A : Around) (outer : List Env) (s : Shared) (H : Hp) (vs : List V) (Q : VK) (E : XK),zz0 k (A.deeper (envOfC qual scope s.heap.objs.size f cdv))->sp vs H Q E ->
   ∃ t,PSs (cxOf CX P w K mg base N qual scope f cdv A outer s H E) body t /\ t { nx:=fun _ H'=>Q .non H',rt:=Q } (start N vs) H) :
  zj9 P w K mg base CX (k + 1) f (dy4 name qual params body scope dV kV doc pm an cdv ct) ps sp:=by
 refine ⟨len,fun A outer s H args us vs Q E hr e0 hb r hsp=>?_⟩;have hl:=len _ _ _ _ hsp;have KX : K.In s.heap:=e0.mod.kin.keeps fun b o e=>(e0.bs b o e).1;have lim : s.heap.NoLimit:=e0.mod.nolimit.keeps fun b o e=>(e0.bs b o e).1
 have hkind : ∀ y∈ps.zip us,scope.names.lookup y.1 = some .local \/ (scope.names.lookup y.1 = some .cell /\ ((cellsFrom (s.heap.objs.size + 1) scope.names []).lookup y.1).isSome = true):=fun ⟨n,v⟩ hy=>by
  rcases S.par n (List.of_mem_zip hy).1 with q | q
  ·exact .inl q
  ·exact .inr ⟨q,PySem.W.cellsFrom_some _ _ _ (.inl q)⟩
 refine codeAny_call_function hr.depth (KX _ _ lk) rfl S.co S.gen rfl (PySem.W.codeRec_of KX hcd) (hb _ _ _ _ ?_);refine wpAny_newFunctionEnv_cells S.kind hkind fun env he s1 x=>?_;subst he;refine ⟨lim.keeps x.toInCall.keep,codeAny_func ?_⟩;refine za0 fun gG=>?_;obtain ⟨t,ht,hq⟩:=hbody A outer s H vs Q E (hr.deeper _) hsp;refine gG ?_;clear gG;have I : Inv (cxOf CX P w K mg base N qual scope f cdv A outer s H E) [] (start N vs) H s1:=za11 S hr.hd e0 hl r x;refine fy2 (ht [] s1 (start N vs) H _ I hq) (fun fl s' hs=>?_) fun e s' hs=>hs
 have fin : ∀ {σ' : St} {H' : Hp} {v : V} {u : Value},Inv (cxOf CX P w K mg base N qual scope f cdv A outer s H E) [] σ' H' s'->RelV v u->Q v H'->CE outer P w H s Q u s' :=
  fun {σ' H' v u} J rv q=>⟨v,H',J.os,J.bare,J.base,J.hok,rv,q⟩
 cases fl with
 | ret u =>
  refine za0 fun gG=>?_;obtain ⟨v,σ',H',J,rv,q⟩:=hs;refine gG ?_;clear gG;exact fin J rv q
 | next =>
  refine za0 fun gG=>?_;obtain ⟨σ',H',J,q⟩:=hs;refine gG ?_;clear gG;exact fin (v:=V.non) (u:=ey1) J rfl q
 | brk =>
  refine za0 fun gG=>?_;obtain ⟨_,_,_,q⟩:=hs;refine gG ?_;clear gG;exact uy6 q
 | cont =>
  refine za0 fun gG=>?_;obtain ⟨_,_,_,q⟩:=hs;refine gG ?_;clear gG;exact uy6 q
section
variable {X : Cx} {x : Str} {p pos : Pos} {e : Expr} {es : List Expr} {t : TA} {id T : String} {r : List V->Hp->VK->Prop}
def tCB (r : List V->Hp->VK->Prop) (t : TA) : TE:=fun σ H Q=>t σ H fun vs H1=>r vs H1 Q
theorem zt6 (hc : zj8 X (.builtin id) r) (hg : Gl X x) (hm : X.mg x = none) (hv : ey9 x = some (.builtin id)) (ha : PA X (e :: es) t) (hn : x ≠ "__name__" := by decide) (hdb : (x == ("__debug__" : Str)) = false:=by decide)
  (he : ey8 (e :: es) X.env = (false,eval e X.env) :: ey8 es X.env:=by rfl) (hpl : (backTo pos (ey8 es X.env)).any (·.1) = false:=by rfl) : PE X (.Call (.Name x p) (e :: es) [] pos) (tCB r t):=by
 intro pins s σ H Q I h;refine wpAny_Call_Name_kw (zF6 I hg hm hv ?_ hn hdb);exact PyProof.Rows.callWith_builtin1 (thn (ha pos pins s σ H _ I h) fun us s1 zR=>by obtain ⟨vs,H1,I1,r1,q1⟩:=zR; exact hc pins s1 σ H1 vs us Q I1 r1 q1) he hpl
theorem zu9 (hc : zj8 X (.type T) r) (hg : Gl X x) (hm : X.mg x = none) (hv : ey9 x = some (.type T)) (ha : PA X (e :: es) t) (hn : x ≠ "__name__" := by decide) (hdb : (x == ("__debug__" : Str)) = false:=by decide)
  (he : ey8 (e :: es) X.env = (false,eval e X.env) :: ey8 es X.env:=by rfl) (hpl : (backTo pos (ey8 es X.env)).any (·.1) = false:=by rfl) : PE X (.Call (.Name x p) (e :: es) [] pos) (tCB r t):=by
 intro pins s σ H Q I h;refine wpAny_Call_Name_kw (zF6 I hg hm hv ?_ hn hdb);exact ty8 (thn (ha pos pins s σ H _ I h) fun us s1 zR=>by obtain ⟨vs,H1,I1,r1,q1⟩:=zR; exact hc pins s1 σ H1 vs us Q I1 r1 q1) he hpl
end
end L2
namespace HT
open PySem PyProof.Rows
section
open PySem.SeqAt
open PySem.AutoSeq1 (wpAny_loadPart')
open PySem.MeetsSeq PySem.MeetsSeq2 PySem.MeetsSeq3
end
section
variable {prog : cy6} {w : World} {A : Around} {E : Value->Shared->Prop} {s : Shared}
theorem zc71 {t b : Addr} {vs ws : List Value} {Q : Value->Shared->Prop} (ht : IsTup s.heap t vs.toArray) (hb : IsTup s.heap b ws.toArray) (hv : vs ≠ [])
  (h1 : ws = []->Q (.ref t) s) (h2 : ws ≠ []->Q (.ref s.heap.objs.size) { s with heap:=s.heap.push { cls:=.type "tuple",data:=.seq (vs++ws).toArray } })
  (hsz : vs.length + ws.length <= by0) : wpAny (model prog w) A (my6 .Add (.ref t) (.ref b)) Q E s:=by
 refine za0 fun gG=>?_;obtain ⟨⟨cls,dd,data,sl⟩,ho,hc,n,hd⟩:=id ht;obtain ⟨⟨cls2,dd2,data2,sl2⟩,ho2,hc2,n2,hd2⟩:=id hb;refine gG ?_;clear gG;simp only at hc hd hc2 hd2;subst hc hd hc2 hd2;have e : vs.toArray++ws.toArray = (vs++ws).toArray:=by simp
 by_cases hw : ws = []
 ·exact concat_meets ⟨_,ho,rfl⟩ ⟨_,ho2,rfl⟩ noFill_tuple_add seq_tuple_add PySem.F.slot_tuple_add PySem.F.entry_tuple_add (PySem.F.args_tuple_add_2 _ _)
   (tuple_addW1 t b vs.toArray ws.toArray n n2 dd dd2 sl sl2 (by simpa using hv) (by simp [hw])) ⟨ho,ho2,h1 hw⟩
 ·refine concat_meets ⟨_,ho,rfl⟩ ⟨_,ho2,rfl⟩ noFill_tuple_add seq_tuple_add PySem.F.slot_tuple_add PySem.F.entry_tuple_add (PySem.F.args_tuple_add_2 _ _)
   (tuple_addW2 t b vs.toArray ws.toArray n n2 dd dd2 sl sl2 (by simpa using hv) (by simpa using hw) (by rw [by7,by7]; exact hsz)) ⟨ho,ho2,?_⟩
  rw [e];exact h2 hw
def sIx (n d : Nat) : Option Int->Nat
 | none=>d
 | some v=>if v < 0 then (v + (n : Int)).toNat else min v.toNat n
theorem za12 (n d k : Nat) : sIx n d (some (k : Int)) = min k n:=by
 show (if (k : Int) < 0 then ((k : Int) + (n : Int)).toNat else min (k : Int).toNat n) = min k n;rw [if_neg (by omega),ky0]
theorem zd94 (n d : Nat) (hd : d <= n) (o : Option Int) : sIx n d o <= n:=by
 cases o with
 | none=>exact hd
 | some v =>
  show (if v < 0 then (v + (n : Int)).toNat else min v.toNat n) <= n
  by_cases hv : v < 0
  ·rw [if_pos hv]; omega
  ·rw [if_neg hv]; exact Nat.min_le_right _ _
theorem za13 (v : Int) (n d : Nat) : (if v < 0 then max (v + (n : Int)) 0 else min v (n : Int)) = ((sIx n d (some v) : Nat) : Int):=by
 show (if v < 0 then max (v + (n : Int)) 0 else min v (n : Int)) = (((if v < 0 then (v + (n : Int)).toNat else min v.toNat n) : Nat) : Int)
 by_cases hv : v < 0
 ·simp only [if_pos hv]; omega
 ·simp only [if_neg hv]; omega
theorem zU7 (lo hi : Option Int) (n : Nat) : vy3 lo hi 1 (n : Int) = (((sIx n 0 lo : Nat) : Int),((sIx n n hi : Nat) : Int)):=by
 have h1 : ¬ ((1 : Int) < 0):=by omega
 unfold Builtin.Slice.sliceAdjust;simp only [h1,if_false];refine Prod.ext ?_ ?_
 ·cases lo with
  | none=>rfl
  | some v=>exact za13 v n 0
 ·cases hi with
  | none=>rfl
  | some v=>exact za13 v n n
theorem zU8 (i j : Nat) : py5 (i : Int) (j : Int) 1 = j - i:=by
 unfold Builtin.Slice.slicePlaces;have h1 : (1 : Int) > 0:=by omega
 simp only [h1,if_true,Int.ediv_one]
 split <;> omega
theorem zz2 {v : Value} {o : Option Int} {Q : Option Int->Shared->Prop} (p : IsPart v o) (h : Q o s) : wpAny (model prog w) A (Builtin.Slice.slicePartIndex v) Q E s:=by
 cases p with
 | none=>exact slicePart_none h
 | int i t=>exact slicePart_int h
theorem zl3 {sl : Addr} {vl vu : Value} {lo hi : Option Int} {n : Nat} {Q : Int × Int × Nat->Shared->Prop} (hs : s.heap.IsSliceOf sl vl vu .none) (pl : IsPart vl lo) (pu : IsPart vu hi)
  (h : Q (((sIx n 0 lo : Nat) : Int),1,sIx n n hi - sIx n 0 lo) s) : wpAny (model prog w) A (Builtin.Slice.sliceApplied (.ref sl) (pure (n : Int))) Q E s:=by
 refine za0 fun gG=>?_;obtain ⟨os,hos,hcs,hds⟩:=id hs;refine gG ?_;clear gG;unfold Builtin.Slice.sliceApplied Builtin.Slice.sliceFields;refine ay0 (ay0 (jy3 hos hds (x:=vl) rfl (ay0 (jy3 hos hds (x:=vu) rfl (ay0 (jy3 hos hds (x:=.none) rfl (ay1 ?_)))))));refine ay0 (slicePart_none ?_);show wpAny _ _ (if ((1 : Int) == 0) = true then _ else _) _ _ s;rw [if_neg (by decide)];refine ay0 (zz2 pl (ay0 (zz2 pu (ay0 (ay1 ?_)))));show wpAny _ _ (match vy3 lo hi 1 (n : Int) with | (lo,hi)=>pure (lo,(1 : Int),py5 lo hi 1)) _ _ s;rw [zU7 lo hi n];show wpAny _ _ (pure (((sIx n 0 lo : Nat) : Int),(1 : Int),py5 ((sIx n 0 lo : Nat) : Int) ((sIx n n hi : Nat) : Int) 1)) _ _ s;rw [zU8];exact ay1 h
theorem zb36 (xs : Array Value) (i k : Nat) : ((iy3 k).filterMap fun (m : Nat)=>xs[((i : Int) + (m : Int) * 1).toNat]?).toArray = ((xs.toList.drop i).take k).toArray:=by
 have e : (fun (m : Nat)=>xs[((i : Int) + (m : Int) * 1).toNat]?) = fun m=>xs[i + m]?:=by
  funext m
  have : ((i : Int) + (m : Int) * 1).toNat = i + m:=by omega
  rw [this]
 rw [e];have:=pick_run xs i k;rw [List.filterMap_map] at this;have e2 : ((fun x=>xs[x]?) ∘ fun x=>i + x) = fun m=>xs[i + m]?:=rfl;rw [e2] at this;rw [this]
theorem zq1 {t sl : Addr} {items : Array Value} {vl vu : Value} {lo hi : Option Int} {Q : Value->Shared->Prop} (ht : IsTup s.heap t items) (hs : s.heap.IsSliceOf sl vl vu .none) (pl : IsPart vl lo) (pu : IsPart vu hi)
  (hw : ¬ (sIx items.size 0 lo = 0 /\ sIx items.size items.size hi = items.size))
  (h : Q (.ref s.heap.objs.size) { s with heap:=s.heap.push { cls:=.type "tuple",data:=.seq ((items.toList.drop (sIx items.size 0 lo)).take (sIx items.size items.size hi - sIx items.size 0 lo)).toArray } })
  (hsz : items.size <= by0) : wpAny (model prog w) A (getItem (.ref t) (.ref sl)) Q E s:=by
 have htake : sizeOk (.seq ((items.toList.drop (sIx items.size 0 lo)).take (sIx items.size items.size hi - sIx items.size 0 lo)).toArray):=by
  show ((items.toList.drop (sIx items.size 0 lo)).take (sIx items.size items.size hi - sIx items.size 0 lo)).toArray.size <= by0;rw [by7,dy3,vy6,iy0];omega
 have hj : sIx items.size items.size hi <= items.size:=zd94 _ _ (ay6 _) hi;refine za0 fun gG=>?_;obtain ⟨os,hos,hcs,hds⟩:=id hs;refine gG ?_;clear gG;have hTs : s.TypeIs (.ref sl) "slice" := ⟨os,hos,hcs⟩
 unfold getItem
 try with_reducible refine fy3 ?_
 first | refine ay0 (ay1 ?_) | skip
 refine ay0 (wpAny_sequenceKey ht.typeIs (by decide) ?_)
 refine ay0 (ey5 (name:=ly9 "__getitem__") ht.typeIs hy9
  (dy6 hy9 ht.typeIs entry_tuple_getitem ?_ (args_tuple_getitem _ _)))
 show wpAny _ _ (Builtin.Tuple.tupleItemsOf (.ref t) >>= _) _ _ s;refine ay0 (tupleItemsOf_ ht ?_);refine ay0 (ty9 hTs ?_);rw [if_pos (by decide)];refine ay0 (zl3 hs pl pu ?_)
 have hno : ¬ ((((sIx items.size 0 lo : Nat) : Int) == 0 && (1 : Int) == 1 && (sIx items.size items.size hi - sIx items.size 0 lo) == items.size) = true):=by
  intro q;rw [my0,my0] at q;have q1 : ((sIx items.size 0 lo : Nat) : Int) = 0:=eq_of_beq q.1.1;have q2 : sIx items.size items.size hi - sIx items.size 0 lo = items.size:=eq_of_beq q.2;exact hw ⟨by omega,by omega⟩
 show wpAny _ _ (if (((sIx items.size 0 lo : Nat) : Int) == 0 && (1 : Int) == 1 && (sIx items.size items.size hi - sIx items.size 0 lo) == items.size) = true then _ else _) _ _ s;rw [if_neg hno,zb36]
 first
  | exact ay0 (m:=qy3 _) (ey3 (ay1 ⟨_,rfl,ay1 h⟩) htake)
  | exact ay0 (m:=qy3 _) (ey3 (ay0 (ay1 (ay1 ⟨_,rfl,ay1 h⟩))) htake)
  | exact ay0 (ay0 (m:=qy3 _) (ey3 (ay1 (ay1 ⟨_,rfl,ay1 h⟩)) htake))
  | exact ay0 (ay0 (m:=qy3 _) (ey3 (ay1 ⟨_,rfl,ay1 h⟩) htake))
end
end HT
namespace L2
open PySem PySem.Spec PyProof.Rows
abbrev TO:=St->Hp->(Option Int->Hp->Prop)->Prop
def PO (X : Cx) (e : Option Expr) (t : TO) : Prop :=
 ∀ (pins : List (Addr × Obj)) (s : Shared) (σ : St) (H : Hp) (Q : Option Int->Hp->Prop),Inv X pins σ H s->t σ H Q ->
  wpAny (model X.prog X.w) X.A (evalPart e X.env) (fun u s'=>∃ o H',Inv X pins σ H' s' /\ IsPart u o /\ Q o H') X.xe s
def zc72 : TO:=fun _ H Q=>Q none H
def zf14 (t : TE) : TO:=fun σ H Q=>t σ H fun x H1=>∃ i,x = .int i /\ Q (some i) H1
section
variable {X : Cx} {e : Expr} {te : TE} {lo hi : Option Expr} {tl th : TO} {pos p2 : Pos}
theorem zc73 : PO X none zc72:=by
 intro pins s σ H Q I h;rw [evalPart_none];exact ay1 ⟨none,H,I,.none,h⟩
theorem zc74 (h : PE X e te) : PO X (some e) (zf14 te):=by
 intro pins s σ H Q I hw;rw [evalPart_some];refine thn (h pins s σ H _ I hw) fun u s1 zR=>?_;refine za0 fun gG=>?_;obtain ⟨x,H1,I1,r1,q1⟩:=zR;obtain ⟨i,rfl,q⟩:=q1;obtain ⟨t,rfl⟩:=r1;refine gG ?_;clear gG;exact ⟨some i,H1,I1,.int i t,q⟩
def SlR (X : Cx) (r : V->Option Int->Option Int->Hp->VK->Prop) : Prop :=
 ∀ (pins : List (Addr × Obj)) (s : Shared) (σ : St) (H : Hp) (x : V) (v vl vu : Value) (lo hi : Option Int) (sl : Addr) (Q : VK),Inv X pins σ H s->RelV x v->s.heap.IsSliceOf sl vl vu .none->IsPart vl lo->IsPart vu hi->r x lo hi H Q ->
  ∃ T id,typeLookup (.type T) "__getitem__" = pure (some (.builtin id)) /\ s.TypeIs v T /\ wpAny (model X.prog X.w) X.A (getItem v (.ref sl)) (EP X pins σ Q) X.xe s
def tSl (r : V->Option Int->Option Int->Hp->VK->Prop) (te : TE) (tl th : TO) : TE:=fun σ H Q=>te σ H fun x H1=>tl σ H1 fun l H2=>th σ H2 fun u H3=>r x l u H3 Q
theorem zb37 {r : V->Option Int->Option Int->Hp->VK->Prop} (hr : SlR X r) (he : PE X e te) (hl : PO X lo tl) (hu : PO X hi th) : PE X (.Subscript e (.Slice lo hi none p2) pos) (tSl r te tl th):=by
 intro pins s σ H Q I h;refine Subscript_ (thn (he pins s σ H _ I h) fun v s1 ⟨x,H1,I1,r1,q1⟩=>?_);refine wpAny_Slice (thn (hl pins s1 σ H1 _ I1 q1) fun vl s2 ⟨l,H2,I2,pl,q2⟩=>thn (hu pins s2 σ H2 _ I2 q2) fun vu s3 ⟨u,H3,I3,pu,q3⟩=>?_);rw [evalPart_none];refine ay1 ?_;have I4 : Inv X pins σ H3 { s3 with heap:=s3.heap.push { cls:=.type "slice",data:=.fields #[vl,vu,.none] } }:=I3.kept (t':=s3.toks) fun b ob q=>ay2 _ q;refine za0 fun gG=>?_;obtain ⟨T,id,hT,ht,hg⟩:=hr pins { s3 with heap:=s3.heap.push { cls:=.type "slice",data:=.fields #[vl,vu,.none] } } σ H3 x v vl vu l u s3.heap.objs.size Q I4 r1 (Heap.IsSliceOf.new ..) pl pu q3;refine gG ?_;clear gG;show wpAny (model X.prog X.w) X.A (subscriptTail e (.Slice lo hi none p2) v (.ref s3.heap.objs.size)) (EP X pins σ Q) X.xe { s3 with heap:=s3.heap.push { cls:=.type "slice",data:=.fields #[vl,vu,.none] } };exact tail_any (ops:=[.ref s3.heap.objs.size,v]) ht hT hg (by with_unfolding_all rfl)
def zL0 (xs : List V) (lo hi : Option Int) : List V:=(xs.drop (HT.sIx xs.length 0 lo)).take (HT.sIx xs.length xs.length hi - HT.sIx xs.length 0 lo)
theorem zv0 (xs : List V) (lo hi : Option Int) : (zL0 xs lo hi).length <= xs.length:=by
 unfold zL0;rw [dy3,vy6];omega
def rSlT (K : ay4) : V->Option Int->Option Int->Hp->VK->Prop:=fun x lo hi H Q=>∃ a xs,x = .ref a /\ SqT K H a xs /\
 ¬ (HT.sIx xs.length 0 lo = 0 /\ HT.sIx xs.length xs.length hi = xs.length) /\ ∀ p,H p = none->Q (.ref p) (upd H p (.tup (zL0 xs lo hi)))
theorem zc27 : SlR X (rSlT X.K):=by
 intro pins s σ H x v vl vu lo hi sl Q I rx hs pl pu h;refine za0 fun gG=>?_;obtain ⟨a,xs,rfl,hx,hw,q⟩:=h;refine gG ?_;clear gG;cases rx;refine za0 fun gG=>?_;obtain ⟨its,r,ht,hz⟩:=I.tuple hx;refine gG ?_;clear gG;have hlen : its.toArray.size = xs.length:=by rw [by7]; exact r.length.symm
 refine ⟨"tuple",_,hy9.lookup,ht.typeIs,?_⟩;refine HT.zq1 ht hs pl pu (by rw [hlen]; exact hw) ?_ (by rw [hlen]; exact hz);rw [hlen];refine ⟨.ref s.heap.objs.size,_,I.laid (t':=s.toks) (o:=.tup (zL0 xs lo hi)) (fun b ob q=>ay2 _ q) (ay6 _) ?_,rfl,q _ (I.hok.fresh (ay6 _))⟩;exact ⟨ey0 (zv0 xs lo hi) hz,_,(r.drop (HT.sIx xs.length 0 lo)).take (HT.sIx xs.length xs.length hi - HT.sIx xs.length 0 lo),IsTup.new _ _⟩
def zf15 (K : ay4) : R2:=fun x y H Q=>∃ a b xs ys,x = .ref a /\ y = .ref b /\ SqT K H a xs /\ SqT K H b ys /\ xs ≠ [] /\ xs.length + ys.length <= by0 /\
 (ys = []->Q (.ref a) H) /\ (ys ≠ []->∀ p,H p = none->Q (.ref p) (upd H p (.tup (xs++ys))))
theorem Vals.zA7 {xs : List V} {us : List Value} (r : Vals xs us) : us = [] ↔ xs = []:=by
 cases r with
 | nil=>simp
 | cons _ _=>simp
theorem zc75 : OpR X (my6 .Add) (zf15 X.K):=by
 intro pins s σ H x y v u Q I rx ry h;refine za0 fun gG=>?_;obtain ⟨a,b,xs,ys,rfl,rfl,ha,hb,hx,hz,q1,q2⟩:=h;refine gG ?_;clear gG;cases rx;cases ry;refine za0 fun gG=>?_;obtain ⟨its,r1,p1,_⟩:=I.tuple ha;obtain ⟨its2,r2,p2,_⟩:=I.tuple hb;refine gG ?_;clear gG;refine HT.zc71 p1 p2 (fun z=>hx (r1.zA7.mp z)) (fun z=>⟨.ref a,H,I,rfl,q1 (r2.zA7.mp z)⟩) (fun z=>?_) (by rw [<- r1.length,<- r2.length]; exact hz);refine ⟨.ref s.heap.objs.size,_,I.laid (t':=s.toks) (o:=.tup (xs++ys)) (fun b ob q=>ay2 _ q) (ay6 _) ?_,rfl,q2 (fun w=>z (r2.zA7.mpr w)) _ (I.hok.fresh (ay6 _))⟩;exact ⟨by rw [by5]; exact hz,_,r1.append r2,IsTup.new _ _⟩
end
def ixN (n : Nat) (i : Int) : Option Nat:=if 0 <= i then (if i < n then some i.toNat else none) else if -(n : Int) <= i then some (i + n).toNat else none
def atI {α : Type} (xs : List α) (i : Int) : Option α:=(ixN xs.length i).bind fun j=>xs[j]?
theorem za14 {n : Nat} {i : Int} {j : Nat} (h : ixN n i = some j) : seqIndex? i n = some j /\ j < n /\ -(n : Int) <= i /\ i < n:=by
 unfold ixN at h
 by_cases h0 : 0 <= i
 ·rw [if_pos h0] at h
  by_cases h1 : i < n
  ·rw [if_pos h1] at h;have e : i.toNat = j:=jy0 h;exact ⟨by rw [seqIndex_of h0 h1,e],by omega,by omega,h1⟩
  ·rw [if_neg h1] at h; cases h
 ·rw [if_neg h0] at h
  by_cases h1 : -(n : Int) <= i
  ·rw [if_pos h1] at h;have e : (i + n).toNat = j:=jy0 h;exact ⟨by rw [seqIndex_neg (by omega) h1,e],by omega,h1,by omega⟩
  ·rw [if_neg h1] at h; cases h
theorem za15 {α : Type} {xs : List α} {i : Int} {v : α} (h : atI xs i = some v) : ∃ j,seqIndex? i xs.length = some j /\ xs[j]? = some v /\ j < xs.length /\ -(xs.length : Int) <= i /\ i < xs.length:=by
 unfold atI at h;cases e : ixN xs.length i with
 | none=>rw [e] at h; cases h
 | some j =>
  rw [e] at h;refine za0 fun gG=>?_;obtain ⟨h1,h2,h3,h4⟩:=za14 e;refine gG ?_;clear gG;exact ⟨j,h1,h,h2,h3,h4⟩
def za16 (b : Expr) : Prop:=∀ o i,subscripted b false o i = operate [o,i] (getItem o i)
def IxR (X : Cx) (r : R2) : Prop :=
 ∀ (value slice : Expr) (pins : List (Addr × Obj)) (s : Shared) (σ : St) (H : Hp) (x y : V) (v u : Value) (Q : VK),Inv X pins σ H s->RelV x v->RelV y u->r x y H Q ->
  subscripted slice false v u = operate [v,u] (getItem v u)->wpAny (model X.prog X.w) X.A (subscriptTail value slice v u) (EP X pins σ Q) X.xe s
def MtR (X : Cx) (id : String) (r : V->List V->Hp->VK->Prop) : Prop :=
 ∀ (pins : List (Addr × Obj)) (s : Shared) (σ : St) (H : Hp) (x : V) (xs : List V) (v : Value) (us : List Value) (Q : VK),Inv X pins σ H s->RelV x v->Vals xs us->r x xs H Q ->
  wpAny (model X.prog X.w) X.A (call (.builtin id) (v :: us)) (EP X pins σ Q) X.xe s
section
variable {X : Cx} {a b : Expr} {ta tb : TE} {pos : Pos}
theorem zf16 {r : R2} (hr : IxR X r) (ha : PE X a ta) (hb : PE X b tb) (hs : za16 b) : PE X (.Subscript a b pos) (tOp r ta tb):=by
 intro pins s σ H Q I h;exact Subscript_ (binT ha hb I h fun v u s2 x y H2 I2 rx ry q=>hr a b pins s2 σ H2 x y v u Q I2 rx ry q (hs _ _))
def rIxL (K : ay4) : R2:=fun x y H Q=>∃ p xs i v,x = .ref p /\ y = .int i /\ SqL K H p xs /\ atI xs i = some v /\ Q v H
def rIxT (K : ay4) : R2:=fun x y H Q=>∃ p xs i v,x = .ref p /\ y = .int i /\ SqT K H p xs /\ atI xs i = some v /\ Q v H
theorem za17 : IxR X (rIxL X.K):=by
 intro value slice pins s σ H x y v u Q I rx ry h hs;refine za0 fun gG=>?_;obtain ⟨p,xs,i,z,rfl,rfl,hq,he,q⟩:=h;refine gG ?_;clear gG;cases rx;refine za0 fun gG=>?_;obtain ⟨t,rfl⟩:=ry;obtain ⟨its,r,pl,hz⟩:=I.list hq;obtain ⟨j,h1,h2,h3,h4,h5⟩:=za15 he;obtain ⟨w,ew,rw'⟩:=r.get h2;refine gG ?_;clear gG;have hl:=r.length;have hn:=zm7;have fin : EP X pins σ Q w s:=⟨z,H,I,rw',q⟩
 by_cases h0 : 0 <= i
 ·have hj : i.toNat = j:=by
   rw [seqIndex_of h0 h5] at h1;exact jy0 h1
  exact item_listR pl.isList h0 (by omega) (by rw [hj]; simpa using ew) fin hs
 ·have hj : (i + (its.toArray.size : Int)).toNat = j:=by
   rw [seqIndex_neg (by omega) h4] at h1;rw [by7,<- hl];exact jy0 h1
  exact ty0 (x:=w) pl.isList.typeIs slot_list_getitem.lookup
   (wpAny_getItem_list_neg (Q:=fun r s'=>r = w /\ EP X pins σ Q r s') pl.isList (by omega) (by rw [by7] <;> omega) (by omega) (by rw [hj]; simpa using ew) ⟨rfl,fin⟩) hs
theorem zd95 : IxR X (rIxT X.K):=by
 intro value slice pins s σ H x y v u Q I rx ry h hs;refine za0 fun gG=>?_;obtain ⟨p,xs,i,z,rfl,rfl,hq,he,q⟩:=h;refine gG ?_;clear gG;cases rx;refine za0 fun gG=>?_;obtain ⟨t,rfl⟩:=ry;obtain ⟨its,r,pl,hz⟩:=I.tuple hq;obtain ⟨j,h1,h2,h3,h4,h5⟩:=za15 he;obtain ⟨w,ew,rw'⟩:=r.get h2;refine gG ?_;clear gG;have hl:=r.length;have hn:=zm7;have fin : EP X pins σ Q w s:=⟨z,H,I,rw',q⟩
 exact ty0 (x:=w) pl.typeIs slot_tuple_getitem.lookup
  (getItem_tuple (j:=j) (Q:=fun r s'=>r = w /\ EP X pins σ Q r s') pl (by omega) (by omega) (by rw [by7,<- hl]; exact h1) (by simpa using ew) ⟨rfl,fin⟩) hs
theorem zU9 (its : List Value) (n j : Nat) (u : Value) : iy9 (·.setIfInBounds j u) { cls:=.type "list",data:=.seq its.toArray n } = { cls:=.type "list",data:=.seq (its.set j u).toArray n }:=by
 simp [iy9]
theorem Inv.lst {pins : List (Addr × Obj)} {σ : St} {H : Hp} {s : Shared} {p : Addr} {xs : List V} (I : Inv X pins σ H s) (h : H p = some (.lst xs)) :
  ∃ (its : List Value) (n : Nat),Vals xs its /\ s.heap.get? p = some { cls:=.type "list",data:=.seq its.toArray n } /\ xs.length <= by0:=by
 refine za0 fun gG=>?_;obtain ⟨z,its,n,r,e⟩:=I.hok p _ h;refine gG ?_;clear gG;exact ⟨its,n,r,e,z⟩
theorem Inv.zd96 {pins : List (Addr × Obj)} {σ : St} {H : Hp} {s : Shared} {p : Addr} {xs ys : List V} {its its' : List Value} {n n' : Nat} {f : Obj->Obj} (I : Inv X pins σ H s) (h : H p = some (.lst xs))
  (ho : s.heap.get? p = some { cls:=.type "list",data:=.seq its.toArray n }) (hf : f { cls:=.type "list",data:=.seq its.toArray n } = { cls:=.type "list",data:=.seq its'.toArray n' }) (r : Vals ys its') (hz : ys.length <= by0) (t : Nat) :
  Inv X pins σ (upd H p (.lst ys)) { s with heap:=s.heap.update p f,toks:=t }:=by
 have e : (s.heap.update p f).get? p = some { cls:=.type "list",data:=.seq its'.toArray n' }:=by
  rw [fy6 f ho (by rw [hf] <;> rfl),hf]
 refine I.write (x:=p) (e:=p) (by rw [h]; trivial) (.inl rfl) (fun b u hb q=>(dy8 _ _ (fy4 hb)).trans q) ⟨_,e⟩ ?_;exact ⟨hz,its',n',r,e⟩
def zf17 : V->V->V->Hp->(Hp->Prop)->Prop:=fun o i v H Q=>∃ p xs k j,o = .ref p /\ i = .int k /\ H p = some (.lst xs) /\ ixN xs.length k = some j /\ Q (upd H p (.lst (xs.set j v)))
theorem set_list : PSet X zf17:=by
 intro pins s σ H o i v ov iv u Q I ro ri rv h;refine za0 fun gG=>?_;obtain ⟨p,xs,k,j,rfl,rfl,hp,hj,q⟩:=h;refine gG ?_;clear gG;cases ro;refine za0 fun gG=>?_;obtain ⟨t,rfl⟩:=ri;obtain ⟨its,n,r,ho,hz⟩:=I.lst hp;obtain ⟨h1,h2,h3,h4⟩:=za14 hj;refine gG ?_;clear gG;have hl:=r.length;have hn:=zm7
 have I' : Inv X pins σ (upd H p (.lst (xs.set j v))) { s with heap:=s.heap.update p (iy9 (·.setIfInBounds j u)) } :=
  I.zd96 hp ho (zU9 its n j u) (r.set rv j) (by rw [oy5]; exact hz) s.toks
 by_cases h0 : 0 <= k
 ·have hk : k.toNat = j:=by
   rw [seqIndex_of h0 h4] at h1;exact jy0 h1
  exact PySem.W.ki_setAt ho h0 (by omega) (by rw [by7,<- hl]; exact h4) (by rw [hk]; exact ⟨_,I',q⟩)
 ·have hk : (k + (its.toArray.size : Int)).toNat = j:=by
   rw [seqIndex_neg (by omega) h3] at h1;rw [by7,<- hl];exact jy0 h1
  exact PySem.W.ki_setBack ho (by omega) (by rw [by7,<- hl]; exact h3) (by omega) (by rw [hk]; exact ⟨_,I',q⟩)
theorem zG3 (lo hi : Option Int) (n : Nat) : (sliceBounds lo hi none n).1 = ((HT.sIx n 0 lo : Nat) : Int) /\ (sliceBounds lo hi none n).2.1 = ((HT.sIx n n hi : Nat) : Int) /\ (sliceBounds lo hi none n).2.2 = 1:=by
 refine ⟨?_,?_,rfl⟩
 ·cases lo with
  | none=>simp [sliceBounds,HT.sIx]
  | some i =>
   simp only [sliceBounds,HT.sIx,Option.getD_none,show (1 : Int) > 0 by decide,if_true]
   by_cases h : i < 0
   ·simp only [h,if_true] <;> omega
   ·simp only [h,if_false] <;> omega
 ·cases hi with
  | none=>simp [sliceBounds,HT.sIx]
  | some i =>
   simp only [sliceBounds,HT.sIx,Option.getD_none,show (1 : Int) > 0 by decide,if_true]
   by_cases h : i < 0
   ·simp only [h,if_true] <;> omega
   ·simp only [h,if_false] <;> omega
theorem zA8 (its : List Value) (lo hi : Option Int) : slicePick its.toArray lo hi none = ((its.drop (HT.sIx its.length 0 lo)).take (HT.sIx its.length its.length hi - HT.sIx its.length 0 lo)).toArray:=by
 refine za0 fun gG=>?_;obtain ⟨h1,h2,h3⟩:=zG3 lo hi its.toArray.size;refine gG ?_;clear gG;unfold slicePick;rw [h1,h2,h3];simp only [sliceRange_one,pick_run,by7] <;> rfl
def rSlL (K : ay4) : V->Option Int->Option Int->Hp->VK->Prop:=fun x lo hi H Q=>∃ a xs,x = .ref a /\ SqL K H a xs /\ ∀ p,H p = none->Q (.ref p) (upd H p (.lst (zL0 xs lo hi)))
theorem zL1 : SlR X (rSlL X.K):=by
 intro pins s σ H x v vl vu lo hi sl Q I rx hs pl pu h;refine za0 fun gG=>?_;obtain ⟨a,xs,rfl,hx,q⟩:=h;refine gG ?_;clear gG;cases rx;refine za0 fun gG=>?_;obtain ⟨its,r,ht,hz⟩:=I.list hx;refine gG ?_;clear gG;have hlen:=r.length;refine ⟨"list",_,slot_list_getitem.lookup,ht.isList.typeIs,?_⟩;refine wpAny_getItem_list_slice ht.isList hs pl pu .none (by simp) ?_ (by rw [by7] <;> omega);rw [zA8,<- hlen];refine ⟨.ref s.heap.objs.size,_,I.laid (t':=s.toks) (o:=.lst (zL0 xs lo hi)) (fun b ob q=>ay2 _ q) (ay6 _) ?_,rfl,q _ (I.hok.fresh (ay6 _))⟩;exact ⟨ey0 (zv0 xs lo hi) hz,_,0,(r.drop (HT.sIx xs.length 0 lo)).take (HT.sIx xs.length xs.length hi - HT.sIx xs.length 0 lo),ay7 _ rfl⟩
def zA9 : V->Bool
 | .non=>true
 | .bl _=>true
 | .int _=>true
 | .str _=>true
 | _=>false
def eqV : V->V->Bool
 | .non,.non=>true
 | .bl a,.bl b=>a == b
 | .bl a,.int b=>(if a then 1 else 0) == b
 | .int a,.bl b=>a == (if b then 1 else 0)
 | .int a,.int b=>a == b
 | .str a,.str b=>a == b
 | _,_=>false
theorem zd97 {A : Around} {s : Shared} {y x : V} {u v : Value} (ry : RelV y u) (rx : RelV x v) (fy : zA9 y = true) (fx : zA9 x = true) : SeqAt.EqAt A s u v (eqV y x):=by
 cases y with
 | non =>
  cases ry;cases x with
  | non=>cases rx; exact SeqAt.EqAt.same _
  | bl b=>cases rx; exact SeqAt.EqAt.none_bool b
  | int b=>obtain ⟨t,rfl⟩:=rx; exact SeqAt.EqAt.none_int b t
  | str b=>obtain ⟨t,rfl⟩:=rx; exact SeqAt.EqAt.none_str b t
  | _=>exact absurd (show false = true from fx) by9
 | bl a =>
  cases ry;cases x with
  | non=>cases rx; exact SeqAt.EqAt.bool_none a
  | bl b=>cases rx; exact SeqAt.EqAt.bool_bool a b
  | int b=>obtain ⟨t,rfl⟩:=rx; exact SeqAt.EqAt.bool_int a b t
  | str b=>obtain ⟨t,rfl⟩:=rx; exact SeqAt.EqAt.bool_str a b t
  | _=>exact absurd (show false = true from fx) by9
 | int a =>
  refine za0 fun gG=>?_;obtain ⟨t',rfl⟩:=ry;refine gG ?_;clear gG;cases x with
  | non=>cases rx; exact SeqAt.EqAt.int_none a t'
  | bl b=>cases rx; exact SeqAt.EqAt.int_bool a t' b
  | int b=>obtain ⟨t,rfl⟩:=rx; exact SeqAt.EqAt.int_int a t' b t
  | str b=>obtain ⟨t,rfl⟩:=rx; exact SeqAt.EqAt.int_str a t' b t
  | _=>exact absurd (show false = true from fx) by9
 | str a =>
  refine za0 fun gG=>?_;obtain ⟨t',rfl⟩:=ry;refine gG ?_;clear gG;cases x with
  | non=>cases rx; exact SeqAt.EqAt.str_none a t'
  | bl b=>cases rx; exact SeqAt.EqAt.str_bool a t' b
  | int b=>obtain ⟨t,rfl⟩:=rx; exact SeqAt.EqAt.str_int a t' b t
  | str b=>obtain ⟨t,rfl⟩:=rx; exact SeqAt.EqAt.str_str a t' b t
  | _=>exact absurd (show false = true from fx) by9
 | _=>exact absurd (show false = true from fy) by9
def eqU (x : V) (u : Value) : Bool:=match u with
 | .none=>eqV .non x
 | .bool b=>eqV (.bl b) x
 | .int i _=>eqV (.int i) x
 | .str z _=>eqV (.str z) x
 | _=>false
theorem zc28 {x y : V} {u : Value} (r : RelV y u) (f : zA9 y = true) : eqU x u = eqV y x:=by
 cases y with
 | non=>cases r; rfl
 | bl b=>cases r; rfl
 | int i=>obtain ⟨t,rfl⟩:=r; rfl
 | str z=>obtain ⟨t,rfl⟩:=r; rfl
 | _=>exact absurd (show false = true from f) by9
theorem zL2 {x : V} : ∀ {xs : List V} {us : List Value},Vals xs us->xs.all zA9 = true->us.any (eqU x) = xs.any fun y=>eqV y x
 | _,_,.nil,_=>rfl
 | y :: xs,u :: us,.cons r t,f=>by
  rw [List.all_cons,my0] at f;rw [ry3,ry3,zc28 r f.1,zL2 t f.2]
theorem zB0 {A : Around} {s : Shared} {x : V} {v : Value} (rx : RelV x v) (fx : zA9 x = true) : ∀ {xs : List V} {us : List Value},Vals xs us->xs.all zA9 = true->∀ u∈us,SeqAt.EqAt A s u v (eqU x u)
 | _,_,.nil,_=>fun u hu=>by cases hu
 | y :: xs,u :: us,.cons r t,f=>fun u' hu=>by
  rw [List.all_cons,my0] at f;rcases by8.mp hu with rfl | hu
  ·rw [zc28 r f.1]; exact zd97 r rx f.1 fx
  ·exact zB0 rx fx t f.2 u' hu
def inV (x : V) (xs : List V) : Bool:=xs.any fun y=>eqV y x
def rIn (K : ay4) (neg : Bool) : R2:=fun x y H Q=>∃ p xs,y = .ref p /\ (SqL K H p xs \/ SqT K H p xs) /\ zA9 x = true /\ xs.all zA9 = true /\ Q (.bl (if neg then !inV x xs else inV x xs)) H
theorem zG4 : OpR X (fy7 .NotIn) (rIn X.K true):=by
 intro pins s σ H x y v u Q I rx ry h;refine za0 fun gG=>?_;obtain ⟨p,xs,rfl,hq,fx,fs,q⟩:=h;refine gG ?_;clear gG;cases ry;rcases hq with hq | hq
 ·refine za0 fun gG=>?_;obtain ⟨its,r,pl,hz⟩:=I.list hq;refine gG ?_;clear gG;refine SeqAt.notIn_listAt (eqU x) pl.isList (fun w hw=>zB0 rx fx r fs w (by simpa using hw)) ⟨.bl _,H,I,rfl,?_⟩;rw [show its.toArray.any (eqU x) = its.any (eqU x) by simp,zL2 r fs];exact q
 ·refine za0 fun gG=>?_;obtain ⟨its,r,pl,hz⟩:=I.tuple hq;refine gG ?_;clear gG;refine SeqAt.notIn_tupleAt (eqU x) pl (fun w hw=>zB0 rx fx r fs w (by simpa using hw)) ⟨.bl _,H,I,rfl,?_⟩;rw [show its.toArray.any (eqU x) = its.any (eqU x) by simp,zL2 r fs];exact q
theorem zr9 : zj8 X (.builtin "len") (fun xs H Q=>∃ p ys,xs = [.ref p] /\ (SqL X.K H p ys \/ SqT X.K H p ys) /\ Q (.int ys.length) H):=by
 intro pins s σ H xs us Q I r h;refine za0 fun gG=>?_;obtain ⟨p,ys,rfl,hq,q⟩:=h;obtain ⟨u,rfl,rx⟩:=vals1 r;refine gG ?_;clear gG;cases rx;have hn:=zm7;rcases hq with hq | hq
 ·refine za0 fun gG=>?_;obtain ⟨its,r',pl,hz⟩:=I.list hq;refine gG ?_;clear gG;have hlen:=r'.length;exact Calls.call_len_list pl.isList (by simp only [by7] <;> omega) ⟨.int ys.length,H,I.tok _,⟨s.toks + 1,by rw [by7,hlen]⟩,q⟩
 ·refine za0 fun gG=>?_;obtain ⟨its,r',pl,hz⟩:=I.tuple hq;refine gG ?_;clear gG;have hlen:=r'.length;exact len_tuple pl (by simp only [by7] <;> omega) ⟨.int ys.length,H,I.tok _,⟨s.toks + 1,by rw [by7,hlen]⟩,q⟩
theorem zG5 : zj8 X (.builtin "len") (fun xs H Q=>∃ z,xs = [.str z] /\ z.length <= by0 /\ Q (.int z.length) H):=by
 intro pins s σ H xs us Q I r h;refine za0 fun gG=>?_;obtain ⟨z,rfl,hz,q⟩:=h;obtain ⟨u,rfl,t,rfl⟩:=vals1 r;refine gG ?_;clear gG;have hn:=zm7;exact len_str (by omega) ⟨.int z.length,H,I.tok _,⟨_,rfl⟩,q⟩
theorem zG6 : zj8 X (.type "list") (fun xs H Q=>∃ p ys,xs = [.ref p] /\ (SqL X.K H p ys \/ SqT X.K H p ys) /\ ∀ l,H l = none->Q (.ref l) (upd H l (.lst ys))):=by
 intro pins s σ H xs us Q I r h;refine za0 fun gG=>?_;obtain ⟨p,ys,rfl,hq,q⟩:=h;obtain ⟨u,rfl,rx⟩:=vals1 r;refine gG ?_;clear gG;cases rx
 have fin : ∀ (its : List Value),Vals ys its->ys.length <= by0->∀ (h' : Heap) (c' : Nat),(∀ b o',s.heap.get? b = some o'->h'.get? b = some o') ->
   h'.get? s.heap.objs.size = some { cls:=.type "list",dict:=none,data:=.seq its.toArray c',slots:=#[] }->EP X pins σ Q (.ref s.heap.objs.size) { s with heap:=h' }:=fun its r' hz h' c' kp e =>
  ⟨.ref s.heap.objs.size,_,I.laid (t':=s.toks) kp (ay6 _) (show zb9 X.prog X.w _ h' _ (.lst ys) from ⟨hz,its,c',r',e⟩),rfl,q _ (I.hok.fresh (ay6 _))⟩
 rcases hq with hq | hq
 ·refine za0 fun gG=>?_;obtain ⟨its,r',pl,hz⟩:=I.list hq;have hlen:=r'.length;obtain ⟨o,ho,hc,n,hd⟩:=pl.isList;refine gG ?_;clear gG;exact call_list_seq p (.inl rfl) ho hc hd (fun h' c' kp e=>fin its r' hz h' c' kp e) (by simp only [by7] <;> omega)
 ·refine za0 fun gG=>?_;obtain ⟨its,r',pl,hz⟩:=I.tuple hq;have hlen:=r'.length;obtain ⟨o,ho,hc,n,hd⟩:=pl;refine gG ?_;clear gG;exact call_list_seq p (.inr rfl) ho hc hd (fun h' c' kp e=>fin its r' hz h' c' kp e) (by simp only [by7] <;> omega)
theorem zB1 : zj8 X (.type "tuple") (fun xs H Q=>∃ p ys,xs = [.ref p] /\ ((SqL X.K H p ys /\ ∀ l,H l = none->Q (.ref l) (upd H l (.tup ys))) \/ (SqT X.K H p ys /\ Q (.ref p) H))):=by
 intro pins s σ H xs us Q I r h;refine za0 fun gG=>?_;obtain ⟨p,ys,rfl,h⟩:=h;obtain ⟨u,rfl,rx⟩:=vals1 r;refine gG ?_;clear gG;cases rx;rcases h with ⟨hq,q⟩ | ⟨hq,q⟩
 ·refine za0 fun gG=>?_;obtain ⟨its,r',pl,hz⟩:=I.list hq;refine gG ?_;clear gG;have hlen:=r'.length;refine call_tuple_list pl.isList (fun h' kp=>?_) (by simp only [by7] <;> omega);have I1 : Inv X pins σ H { s with heap:=h' }:=I.kept (t':=s.toks) kp
  have I2 : Inv X pins σ (upd H h'.objs.size (.tup ys)) { s with heap:=h'.push { cls:=.type "tuple",data:=.seq its.toArray } } :=
   I1.laid (t':=s.toks) (fun b o e=>ay2 _ e) (ay6 _) (show zb9 X.prog X.w _ _ _ (.tup ys) from ⟨hz,its,r',IsTup.new _ _⟩)
  exact ⟨.ref h'.objs.size,_,I2,rfl,q _ (I1.hok.fresh (ay6 _))⟩
 ·refine za0 fun gG=>?_;obtain ⟨its,r',pl,hz⟩:=I.tuple hq;refine gG ?_;clear gG;exact call_tuple_same pl ⟨.ref p,H,I,rfl,q⟩
def tyV (K : ay4) (T : String) (x : V) (H : Hp) : Prop:=match x with
 | .str _=>T = "str"
 | .int _=>T = "int"
 | .ref p=>(T = "list" /\ ∃ xs,SqL K H p xs) \/ (T = "tuple" /\ ∃ o,K.lookup p = some o /\ o.cls = .type "tuple" /\ o.dict = none) \/
   (T = "dict" /\ ((∃ kvs,H p = some (.dK kvs)) \/ ∃ kvs,H p = some (.dT kvs))) \/ (T = "set" /\ ∃ S n,H p = some (.set S n))
 | _=>False
theorem zd98 {pins : List (Addr × Obj)} {σ : St} {H : Hp} {s : Shared} {T : String} {x : V} {v : Value} (I : Inv X pins σ H s) (r : RelV x v) (ty : tyV X.K T x H) :
  s.TypeIs v T /\ ∀ a,v = .ref a->∃ ob,s.heap.get? a = some ob /\ ob.dict = none:=by
 cases x with
 | str z =>
  refine za0 fun gG=>?_;obtain ⟨t,rfl⟩:=r;refine gG ?_;clear gG;cases (show T = "str" from ty);exact ⟨typeIs_str s z t,fun _ e=>nomatch e⟩
 | int i =>
  refine za0 fun gG=>?_;obtain ⟨t,rfl⟩:=r;refine gG ?_;clear gG;cases (show T = "int" from ty);exact ⟨typeIs_int s i t,fun _ e=>nomatch e⟩
 | ref p =>
  cases r;rcases ty with ⟨rfl,xs,hq⟩ | ⟨rfl,o,hk,hc,hd⟩ | ⟨rfl,hk⟩ | ⟨rfl,S,n,hk⟩
  ·refine za0 fun gG=>?_;obtain ⟨its,_,pl,_⟩:=I.list hq;refine gG ?_;clear gG;refine ⟨pl.isList.typeIs,fun a e=>?_⟩;cases e;refine za0 fun gG=>?_;obtain ⟨o,n,e,c,hd,_⟩:=pl;refine gG ?_;clear gG;exact ⟨o,e,hd⟩
  ·refine ⟨⟨o,I.kIn p o hk,hc⟩,fun a e=>?_⟩;cases e;exact ⟨o,I.kIn _ o hk,hd⟩
  ·have z : ∃ o,s.heap.get? p = some o /\ o.ExactDict:=by
    rcases hk with ⟨kvs,hk⟩ | ⟨kvs,hk⟩
    ·refine za0 fun gG=>?_;obtain ⟨_,_,_,_,o,_,_,e,ex,_⟩:=I.hok p _ hk;refine gG ?_;clear gG;exact ⟨o,e,ex⟩
    ·refine za0 fun gG=>?_;obtain ⟨_,_,_,_,o,_,_,e,ex,_⟩:=I.hok p _ hk;refine gG ?_;clear gG;exact ⟨o,e,ex⟩
   refine za0 fun gG=>?_;obtain ⟨o,e,ex⟩:=z;refine gG ?_;clear gG;refine ⟨⟨o,e,ex.1⟩,fun a e2=>?_⟩;cases e2;exact ⟨o,e,ex.2.1⟩
  ·refine za0 fun gG=>?_;obtain ⟨o,_,_,_,e,ex,_⟩:=I.hok p _ hk;refine gG ?_;clear gG;refine ⟨⟨o,e,ex.1⟩,fun a e2=>?_⟩;cases e2;exact ⟨o,e,ex.2.1⟩
 | _=>exact uy6 ty
def tBM (K : ay4) (T : String) (r : V->List V->Hp->VK->Prop) (to : TE) (t : TA) : TE:=fun σ H Q=>to σ H fun x H1=>tyV K T x H1 /\ t σ H1 fun xs H2=>r x xs H2 Q
variable {o e : Expr} {es : List Expr} {to : TE} {t : TA} {name : Str} {apos cpos : Pos} {T id : String} {r : V->List V->Hp->VK->Prop}
theorem zf18 (pa : PlainAttrs T) (slot : Slot T name id) (hty : typeOf (.builtin id) = pure (.type "method_descriptor")) (hm : MtR X id r) (ho : PE X o to) (ha : PA X (e :: es) t)
  (hbase : oy1 o name X.env (eval o X.env) = eval o X.env:=by rfl)
  (hfew : ((backTo cpos (ey8 (e :: es) X.env)).all (fun x=>!x.1) && (backToKw cpos (keywordEach [] X.env)).all (fun x=>x.1.isSome)
   && decide ((e :: es).length + ([] : List Keyword).length + (if ([] : List Keyword).isEmpty then 0 else 1) < 30)) = true:=by rfl)
  (hline : (apos.endLine == cpos.line) = true:=by rfl) (hs : ey8 (e :: es) X.env = (false,eval e X.env) :: ey8 es X.env:=by rfl) (hplain : (backTo cpos (ey8 es X.env)).any (·.1) = false:=by rfl) :
  PE X (.Call (.Attribute o name apos) (e :: es) [] cpos) (tBM X.K T r to t):=by
 intro pins s σ H Q I h;refine wpAny_Call_method_late hbase hfew hline rfl (thn (ho pins s σ H _ I h) fun v s1 ⟨x,H1,I1,r1,ty,q1⟩=>?_);obtain ⟨h1,h2⟩:=zd98 I1 r1 ty;refine ⟨T,id,pa,slot,hty,h1,h2,?_⟩;have hA:=ha cpos pins s1 σ H1 _ I1 q1;rw [hs] at hA ⊢;refine ty2 (by show (false || (backTo cpos (ey8 es X.env)).any (·.1)) = false; rw [hplain] <;> rfl) (Calls.evalArgs_plain ?_);exact thn hA fun us s2 zR=>by obtain ⟨vs,H2,I2,r2,q2⟩:=zR; exact hm pins s2 σ H2 x vs v us Q I2 r1 r2 q2
end
def MtM (X : Cx) (id : String) (r : V->List V->Hp->VK->Prop) : Prop :=
 ∀ (pins : List (Addr × Obj)) (s : Shared) (σ : St) (H : Hp) (x : V) (xs : List V) (v : Value) (us : List Value) (Q : VK),Inv X pins σ H s->RelV x v->Vals xs us->r x xs H Q ->
  wpAny (model X.prog X.w) X.A (call (.builtin id) (v :: us)) (EP X pins σ Q) X.xe s
theorem Vals.one {x : V} {us : List Value} (h : Vals [x] us) : ∃ u,us = [u] /\ RelV x u:=by
 cases h with
 | cons r t=>cases t; exact ⟨_,rfl,r⟩
theorem Vals.two {x y : V} {us : List Value} (h : Vals [x,y] us) : ∃ u v,us = [u,v] /\ RelV x u /\ RelV y v:=by
 cases h with
 | cons r t=>cases t with
  | cons q t=>cases t; exact ⟨_,_,rfl,r,q⟩
theorem Vals.eraseIdx : ∀ {xs : List V} {us : List Value} (i : Nat),Vals xs us->Vals (xs.eraseIdx i) (us.eraseIdx i)
 | _,_,_,.nil=>.nil
 | _,_,0,.cons _ t=>t
 | _,_,i + 1,.cons r t=>.cons r (Vals.eraseIdx i t)
theorem zG7 {α : Type} : ∀ (l : List α) (i : Nat),(l.eraseIdx i).length <= l.length
 | [],_=>ay6 _
 | _ :: _,0=>Nat.le_succ _
 | _ :: r,i + 1=>Nat.succ_le_succ (zG7 r i)
section
variable {X : Cx} {pins : List (Addr × Obj)} {σ : St} {H : Hp} {s : Shared} {l b : Addr} {xs ys zs : List V}
theorem Inv.lset {its its' : List Value} {n : Nat} {f : Array Value->Array Value} {t' : Nat} (I : Inv X pins σ H s) (hH : H l = some (.lst xs))
  (e : s.heap.get? l = some { cls:=.type "list",data:=.seq its.toArray n }) (hf : f its.toArray = its'.toArray) (hv : Vals ys its') (hz : ys.length <= by0) :
  Inv X pins σ (upd H l (.lst ys)) { s with heap:=s.heap.update l (iy9 f),toks:=t' }:=by
 have q:=PySem.IsL.update e f;rw [hf] at q;refine I.write (x:=l) (e:=l) (by rw [hH]; exact trivial) (.inl rfl) (fun b' u hb hu=>(dy8 s.heap (iy9 f) (fy4 hb)).trans hu) ⟨_,q⟩ ?_;exact ⟨hz,its',_,hv,q⟩
theorem Inv.lnew {its : List Value} {t' : Nat} (I : Inv X pins σ H s) (hv : Vals ys its) (hz : ys.length <= by0) :
  Inv X pins σ (upd H s.heap.objs.size (.lst ys)) { s with heap:=s.heap.push { cls:=.type "list",data:=.seq its.toArray },toks:=t' } :=
 I.laid (fun _ _ q=>ay2 _ q) (ay6 _) ⟨hz,its,0,hv,ay7 _ rfl⟩
theorem Inv.fresh (I : Inv X pins σ H s) : H s.heap.objs.size = none:=I.hok.fresh (ay6 _)
theorem Inv.lstM (I : Inv X pins σ H s) (hH : H l = some (.lst xs)) : xs.length <= by0 /\ ∃ (its : List Value) (n : Nat),Vals xs its /\ xs.length = its.length /\ s.heap.get? l = some { cls:=.type "list",data:=.seq its.toArray n }:=by
 refine za0 fun gG=>?_;obtain ⟨z,its,n,r,e⟩:=I.hok l _ hH;refine gG ?_;clear gG;exact ⟨z,its,n,r,r.length,e⟩
theorem zb38 {n : Nat} (h : n <= by0) : wy3 n = false:=by
 unfold Builtin.List.listTooLong;exact decide_eq_false (by omega)
end
section
variable {X : Cx}
def zc76 : V->List V->Hp->VK->Prop:=fun x vs H Q=>∃ l xs y,x = .ref l /\ vs = [y] /\ H l = some (.lst xs) /\ xs.length < by0 /\ Q .non (upd H l (.lst (xs++[y])))
theorem za18 : MtM X "list.append" zc76:=by
 intro pins s σ H x vs v us Q I rx rv h;refine za0 fun gG=>?_;obtain ⟨l,xs,y,rfl,rfl,hH,hz,q⟩:=h;refine gG ?_;clear gG;cases rx;refine za0 fun gG=>?_;obtain ⟨u,rfl,ru⟩:=rv.one;obtain ⟨z,its,n,r,hl,e⟩:=I.lstM hH;refine gG ?_;clear gG;refine call_meets F.slot_list_append ⟨_,e,rfl⟩ F.entry_list_append (F.args_list_append_2 _ _) (PySem.list_append l its.toArray n u (by rw [by7]; omega)) ⟨e,?_⟩;refine ⟨.non,_,I.lset (its':=its++[u]) hH e (by simp) (r.append (.cons ru .nil)) ?_,rfl,q⟩;rw [by5,List.length_singleton];omega
def ze00 : V->List V->Hp->VK->Prop:=fun x vs H Q=>∃ l xs i k y,x = .ref l /\ vs = [.int i] /\ H l = some (.lst xs) /\ -(2 ^ 63) <= i /\ i < 2 ^ 63 /\ seqIndex? i xs.length = some k /\ xs[k]? = some y /\ Q y (upd H l (.lst (xs.eraseIdx k)))
theorem zP5 : MtM X "list.pop" ze00:=by
 intro pins s σ H x vs v us Q I rx rv h;refine za0 fun gG=>?_;obtain ⟨l,xs,i,k,y,rfl,rfl,hH,h1,h2,hk,hy,q⟩:=h;refine gG ?_;clear gG;cases rx;refine za0 fun gG=>?_;obtain ⟨u,rfl,ru⟩:=rv.one;obtain ⟨t,rfl⟩:=ru;obtain ⟨z,its,n,r,hl,e⟩:=I.lstM hH;obtain ⟨w,hw,rw'⟩:=r.get hy;refine gG ?_;clear gG
 refine call_meets F.slot_list_pop ⟨_,e,rfl⟩ F.entry_list_pop (F.args_list_pop_2 _ _)
  (MeetsSeq.list_pop_at l its.toArray n i t k w (fitsIndex_both h1 h2) (by rw [by7,<- hl]; exact hk) (by rw [<- my8]; exact hw) (by rw [by7]; omega)) ⟨e,?_⟩
 refine ⟨y,_,I.lset (its':=its.eraseIdx k) hH e ?_ (r.eraseIdx k) ?_,rw',q⟩
 ·show its.toArray.eraseIdxIfInBounds k = (its.eraseIdx k).toArray;rw [List.eraseIdxIfInBounds_toArray]
 ·have:=zG7 xs k;omega
end
section
variable {prog : cy6} {w : World} {A : Around} {E : Value->Shared->Prop} {s : Shared}
end
section
variable {X : Cx}
end
end L2
namespace Att
open PySem PySem.W PySem.Calls PyProof.Rows
theorem zv1 {P : Params} {h : Heap} : ∀ (ns : List Int) (vs : List Value),WellAll P h vs (ns.map WData.int)->IntsAre vs ns:=by
 intro ns
 induction ns with
 | nil =>
  intro vs w;rw [List.map_nil] at w;cases w;exact .nil
 | cons n ns ih =>
  intro vs w;rw [ey6] at w;cases w with
  | cons a b =>
   cases a;exact .cons _ _ (ih _ b)
theorem za19 {l : OpenLaw} {n : Nat} (hn : l.most = some n) {P : Params} {h : Heap} {args : List WData} {vals : List Value}
  (hpre : l.row.toRowW.claim.pre args = true) (hwl : WellAll P h vals args) :
  ∃ a vs ns,vals = [dy2 a] /\ args = [WData.list (ns.map WData.int)] /\ h.get? a = some { cls:=.type "list",data:=.seq vs.toArray } /\ IntsAre vs ns /\ ns.length <= n:=by
 have hsh : WShape.hasAll [] args [.list .int] = true:=(pre_splitW hpre).1;have hc : l.pre.holds [] { args:=args } = true:=(pre_splitW hpre).2;refine za0 fun gG=>?_;obtain ⟨d,r,rfl,h1,h2⟩:=hasAllW_cons hsh;refine gG ?_;clear gG;obtain rfl:=hasAllW_nil h2;refine za0 fun gG=>?_;obtain ⟨xs,rfl,h3⟩:=hasW_list h1;obtain ⟨ns,rfl⟩:=items_int h3;refine gG ?_;clear gG
 have hlen : ns.length <= n:=by
  unfold OpenLaw.pre at hc
  have h4 : (WTm.not (.lt (.lit (.int (n : Int))) (.len (.arg 0)))).holds [] { args:=[.list (ns.map .int)] } = true:=by
   have h4:=(holds_andW hc).1;rw [hn] at h4;exact h4
  have h5:=condW_of h4 (w_not (w_lt w_lit (w_len_list (w_arg rfl))));rw [ay5] at h5;refine Nat.le_of_not_lt fun q=>?_;have q' : (n : Int) < ((ns.length : Nat) : Int):=by omega
  first
   | (rw [decide_eq_true q'] at h5; exact absurd h5 (by decide))
   | (simp at h5; omega)
 cases hwl with
 | cons w1 w2 =>
  cases w2;cases w1 with
  | list ho hall=>exact ⟨_,_,ns,rfl,rfl,ho,zv1 ns _ hall,hlen⟩
theorem za20 (l : OpenLaw) (args : List WData) : l.row.toRowW.claim.post args (.bool true) args = true :=
 postW_of (r:=l.row.toRowW) (X:=(true == true))
  (show WShape.has [] (.bool true) .bool = true by first | rfl | decide | simp [WShape.has,WShape.arms,WShape.armsAll])
  (show (WTm.eq .res (.lit (.bool true))).value [] { args:=args,res:=some (.bool true),after:=args } = some (.bool (true == true)) from w_eq_bool (w_res rfl) w_lit) rfl
section
variable {prog : cy6} {w : World} {A : Around} {E : Value->Shared->Prop} {s : Shared} {K : Frag}
end
end Att
namespace L2
open PySem PySem.Spec PyProof.Rows
theorem za21 {vs : List Value} {ns : List Int} (h : IntsAre vs ns) : Vals (ns.map V.int) vs:=by
 induction h with
 | nil=>exact .nil
 | cons n t h ih=>exact .cons ⟨t,rfl⟩ ih
def Only (H : Hp) : Prop:=∀ b,H b = none \/ ∃ o xs,H b = some (.frz o (.lst xs))
theorem zb39 {P : cy6} {w : World} {K : ay4} {mg mb : Str->Option Value} {CX : CXT} {k : Nat} {fa a : Addr} {fd : ey4} {x : Str} {sp : Sp} {s₁ : Shared} {vs : List Value} {ns : List Int}
  (KX : K.In s₁.heap) (hns : s₁.heap.Ns cy2 mg) (hb : s₁.heap.Ns builtinsNs mb) (hbb : ∀ x : Str,x ≠ "__name__" -> mb x = ey9 x) (hlim : s₁.heap.NoLimit) (hg : s₁.gens = #[])
  (ha : s₁.heap.get? a = some { cls:=.type "list",data:=.seq vs.toArray }) (hi : IntsAre vs ns) (hl : ns.length <= by0) (hr : zz0 k callerA)
  (F : ∀ base : Heap,K.In base->base.Ns cy2 mg->zj9 P w K mg base CX k fa fd [x] sp) (hbind : ∀ (s : Shared) (u : Value),BindsTo s fd ⟨[u],[]⟩ [(x,u)])
  (hsp : ∀ H : Hp,Only H->SqL K H a (ns.map V.int)->sp [.ref a] H (fun v _=>v = .bl true) fun _ _ _=>False)
  (hCX : ∀ H e s',CX [] H s₁ (fun _ _ _=>False) e s'->False) :
  my2 (model P w) callerA (.call (.ref fa) ⟨[.ref a],[]⟩) (fun r s'=>r = .ok (.ret (.bool true)) /\ OldK s₁.heap s'.heap /\ s'.os = s₁.os /\ AllBare s'.gens) s₁:=by
 have rv:=za21 hi;have lenV:=hi.length
 have core : ∀ H : Hp,Only H->SqL K H a (ns.map V.int)->HOk P w H s₁.heap->(∀ b,H b ≠ none->b = a)->(H a ≠ none->K.lookup a = none) ->
   my2 (model P w) callerA (.call (.ref fa) ⟨[.ref a],[]⟩) (fun r s'=>r = .ok (.ret (.bool true)) /\ OldK s₁.heap s'.heap /\ s'.os = s₁.os /\ AllBare s'.gens) s₁:=by
  intro H hO hS hok hA hK;have base_of : ∀ {b : Addr} {o : Obj},s₁.heap.get? b = some o->H b = none->(hidT s₁.heap H).get? b = some o:=fun e n=>zb27 e n
  have noA : ∀ {b : Addr} {o : Obj} {es : Array my9} {ep : Nat},s₁.heap.get? b = some o->o.data = .dict es ep->H b = none:=fun {b o es ep} e d=>by
   cases q : H b with
   | none=>rfl
   | some u =>
    have e' : b = a:=hA b (by rw [q]; simp);subst e';rw [ha] at e; cases e;have d' : Data.seq vs.toArray _ = Data.dict es ep:=d;cases d'
  have nsK : ∀ {b : Addr} {m : Str->Option Value},s₁.heap.Ns b m->(hidT s₁.heap H).Ns b m:=fun {b m} ⟨o,es,ep,e,d,r⟩=>⟨o,es,ep,base_of e (noA e d),d,r⟩
  have hKb : K.In (hidT s₁.heap H):=fun b o e=>base_of (KX b o e) (by
   cases q : H b with
   | none=>rfl
   | some u =>
    have e' : b = a:=hA b (by rw [q]; simp);subst e'
    rw [hK (by rw [q]; simp)] at e; cases e)
  have hM : Mod K mg (hidT s₁.heap H):=⟨hKb,nsK hns,⟨mb,nsK hb,hbb⟩,let ⟨mc,h1,h2⟩:=hlim; ⟨mc,nsK h1,h2⟩⟩
  have e0 : Env0 P w K mg (hidT s₁.heap H) callerA [] s₁ H:=⟨rfl,hM,fun b o e=>zc57 e,Nat.le_of_eq (zZ5 _ _),trivial,fun b hb=>absurd (show b∈([] : List Addr) from hb) (by simp),hok,.of_eq hg⟩
  refine codeAny_mono ((F _ hKb (nsK hns)).run callerA [] s₁ H ⟨[.ref a],[]⟩ [.ref a] [.ref a] _ _ hr e0 (hbind s₁ (.ref a)) (.cons rfl .nil) (hsp H hO hS)) fun r s' h=>?_;cases r with
  | error e=>exact (hCX H e s' h).elim
  | ok fl =>
   cases fl with
   | next=>exact uy6 h
   | brk=>exact uy6 h
   | cont=>exact uy6 h
   | ret u =>
    refine za0 fun gG=>?_;obtain ⟨v,H',os,bare,un,hok',r',q⟩:=h;refine gG ?_;clear gG;have q' : v = .bl true:=q;subst q';obtain rfl : u = Value.bool true:=r';refine ⟨rfl,OldK.of_keep fun b o e=>?_,os,bare⟩;cases q : H b with
    | none=>exact un.keep b o e q (by intro z; exact absurd (show b∈([] : List Addr) from z) (by simp)) (by simp)
    | some u =>
     rcases hO b with z | ⟨ob,xs,z⟩
     ·rw [q] at z; cases z
     ·have z2:=un.frzs b ob _ z;refine za0 fun gG=>?_;obtain ⟨e1,_⟩:=hok b _ z;obtain ⟨e2,_⟩:=hok' b _ z2;refine gG ?_;clear gG;rw [e] at e1; cases e1;exact e2
 cases hk : K.lookup a with
 | some o =>
  have e:=KX a o hk;rw [ha] at e;cases e;refine core (fun _=>none) (fun _=>.inl rfl) (.inr ⟨_,vs.toArray,_,hk,rfl,rfl,rfl,by rw [by7,lenV]; exact hl,by simpa using rv⟩) (fun b u z=>by have z' : (none : Option HO) = some u:=z; cases z') (fun b z=>absurd rfl z) fun z=>absurd rfl z
 | none =>
  refine core (fun b=>if b = a then some (.frz { cls:=.type "list",data:=.seq vs.toArray } (.lst (ns.map V.int))) else none) (fun b=>?_) (.inl (.inr ⟨{ cls:=.type "list",data:=.seq vs.toArray },if_pos rfl⟩)) (fun b u z=>?_) (fun b z=>?_) fun _=>hk
  ·by_cases hb : b = a
   ·exact .inr ⟨_,_,if_pos hb⟩
   ·exact .inl (if_neg hb)
  ·by_cases hb : b = a
   ·have z':=(if_pos hb).symm.trans z;cases z';subst hb;exact ⟨ha,by rw [ay5]; exact hl,vs,_,rv,ha⟩
   ·have z':=(if_neg hb).symm.trans z;cases z'
  ·by_cases hb : b = a
   ·exact hb
   ·exact absurd (if_neg hb) z
def zb4 (s : Stmt) : Arguments:=match s with
 | .FunctionDef _ a _ _ _ _ _ _ _ _=>a
 | _=>{ posonlyargs:=[],args:=[],vararg:=none,kwonlyargs:=[],kw_defaults:=[],kwarg:=none,defaults:=[] }
def za9 (s : Stmt) : List Stmt:=match s with
 | .FunctionDef _ _ b _ _ _ _ _ _ _=>b
 | _=>[]
def za3 (s : Stmt) : Scope:=match s with
 | .FunctionDef _ _ _ _ _ _ sc _ _ _=>sc
 | _=>{ kind:=.function,names:=[],isGenerator:=false,isCoroutine:=false }
abbrev CX0 : CXT:=fun _ _ _ _ _ _=>False
abbrev E0 : XK:=fun _ _ _=>False
theorem zf20 {X : Cx} : Passes CX0 X E0:=fun _ _ _ _ _ _ _ h=>h.elim
structure Fun (K : ay4) (x qual : Str) (st : Stmt) (f : Addr) (fd : ey4) : Prop where
 ex : ∃ (oc : Value) (od : Option Addr) (kV doc pm : Value) (an : Option Addr) (cdv ct : Value) (osl : Array (Option Value)),
  fd = dy4 x qual (zb4 st) (za9 st) (za3 st) .none kV doc pm an cdv ct /\ K.lookup f = some ⟨oc,od,.func fd,osl⟩ /\ dy1 K cdv qual = true
 kp : cy9 K (.ref f) = true
section
variable {P : cy6} {w : World} {K : ay4} {mg : Str->Option Value} {base : Heap}
theorem Fun.ok {x qual : Str} {st : Stmt} {f : Addr} {fd : ey4} {N ps : List Str} {k : Nat} {sp : Sp} (F : Fun K x qual st f fd) (S : zb5 N ps (za3 st)) (len : ∀ vs H Q E,sp vs H Q E->vs.length = ps.length)
  (hbody : ∀ (cdv : Value) (A : Around) (outer : List Env) (s : Shared) (H : Hp) (vs : List V) (Q : VK) (E : XK),zz0 k (A.deeper (envOfC qual (za3 st) s.heap.objs.size f cdv))->sp vs H Q E ->
   ∃ t,PSs (cxOf CX0 P w K mg base N qual (za3 st) f cdv A outer s H E).nox (za9 st) t /\ t { nx:=fun _ H'=>Q .non H',rt:=Q } (start N vs) H) : zj9 P w K mg base CX0 (k + 1) f fd ps sp:=by
 refine za0 fun gG=>?_;obtain ⟨oc,od,kV,doc,pm,an,cdv,ct,osl,rfl,lk,hcd⟩:=F.ex;refine gG ?_;clear gG;refine zf13 lk hcd S len fun A outer s H vs Q E hr hsp=>?_;refine za0 fun gG=>?_;obtain ⟨t,h,q⟩:=hbody cdv A outer s H vs Q E hr hsp;refine gG ?_;clear gG;exact ⟨t,h.nox,q⟩
theorem Fun.binds {x qual : Str} {st : Stmt} {f : Addr} {fd : ey4} {ps : List Str} (F : Fun K x qual st f fd)
  (h : ∀ (kV doc pm : Value) (an : Option Addr) (cdv ct : Value) (us : List Value),us.length = ps.length->bindArgs (dy4 x qual (zb4 st) (za9 st) (za3 st) .none kV doc pm an cdv ct) ⟨us,[]⟩ = pure (ps.zip us)) : Binds K fd ps []:=by
 refine za0 fun gG=>?_;obtain ⟨oc,od,kV,doc,pm,an,cdv,ct,osl,rfl,lk,hcd⟩:=F.ex;refine gG ?_;clear gG;exact .all (h kV doc pm an cdv ct)
theorem zc8 {x qual : Str} {st : Stmt} {f : Addr} {oc : Value} {od an : Option Addr} {osl : Array (Option Value)} {kV doc pm cdv ct : Value} (l : K.lookup f = some ⟨oc,od,.func (dy4 x qual (zb4 st) (za9 st) (za3 st) .none kV doc pm an cdv ct),osl⟩)
  (c : dy1 K cdv qual = true) (k : cy9 K (.ref f) = true) : Fun K x qual st f (dy4 x qual (zb4 st) (za9 st) (za3 st) .none kV doc pm an cdv ct):=⟨⟨oc,od,kV,doc,pm,an,cdv,ct,osl,rfl,l,c⟩,k⟩
end
section
variable {X : Cx}
end
theorem zk6 {A B : Prop} (h : B) : if false = true then A else B:=by
 rw [if_neg by9];exact h
theorem zy3 {A B : Prop} (h : A) : if true = true then A else B:=by
 rw [if_pos rfl];exact h
def zm1 (H H' : Hp) : Prop:=∀ b o,H b = some o->H' b = some o
theorem zm1.refl (H : Hp) : zm1 H H:=fun _ _ h=>h
theorem zm1.trans {H H1 H2 : Hp} (a : zm1 H H1) (b : zm1 H1 H2) : zm1 H H2:=fun c o h=>b c o (a c o h)
theorem zm1.free {H H' : Hp} (e : zm1 H H') {l : Addr} (h : H' l = Option.none) : H l = Option.none:=by
 cases q : H l with
 | none=>rfl
 | some o =>
  rw [e l o q] at h;cases h
theorem zm1.seq {K : ay4} {H H' : Hp} {a : Addr} {xs : List V} (e : zm1 H H') (h : SqL K H a xs) : SqL K H' a xs:=by
 rcases h with (h | ⟨o,h⟩) | h
 ·exact .inl (.inl (e _ _ h))
 ·exact .inl (.inr ⟨o,e _ _ h⟩)
 ·exact .inr h
section
variable {prog : cy6} {w : World} {A : Around} {R : Result->Shared->Prop} {s : Shared}
theorem zG8 {elt target iter : Expr} {ifs : List Expr} {scope : Scope} {pos : Pos} {it acc : Value} {env : Env} (J : Nat->Shared->Prop)
  (turn : ∀ n s,J n s->wpAny (model prog w) A (pyNext it) (fun r s1=>match r with
   | none=>R (.ok .next) s1
   | some v=>wpAny (model prog w) A (oy4 target it v) (fun _ s1'=>wpAny (model prog w) A (assign target env v) (fun _ s2 =>
     wpAny (model prog w) A (forIn ifs true fun c r=>if r = true then do let ok <- isTrue c env (eval c env); pure (uy0 ok) else pure (uy0 r)) (fun ok s3 =>
      if ok = true then wpAny (model prog w) A (eval elt env) (fun x s4 =>
       wpAny (model prog w) A (call (.builtin "list.append") [acc,x]) (fun _ s5=>∃ m,m < n /\ J m s5) (fun _ _=>False) s4) (fun _ _=>False) s3
      else ∃ m,m < n /\ J m s3) (fun _ _=>False) s2) (fun _ _=>False) s1') (fun _ _=>False) s1) (fun _ _=>False) s)
  (n : Nat) (h : J n s) : my2 (model prog w) A (.compLoop (.ListComp elt [⟨target,iter,ifs,0⟩] scope pos) 0 it acc env) R s:=by
 refine codeAny_loop rfl J (fun n s hI=>?_) n h;show wpAny _ A ((compTurn (.ListComp elt [⟨target,iter,ifs,0⟩] scope pos) 0 it acc env).onRaise (fun x=>do noteFrame x env; theTreesLotGoes x)) _ _ s;refine wpAny_noted ?_;rw [compTurn_list];refine ay0 (ly4 (ay0 (fy2 (turn n s hI) (fun r s1 h1=>?_) fun _ _ h'=>h'.elim)));cases r with
 | none=>exact ay1 h1
 | some v =>
  refine ay0 (fy2 h1 (fun _ s1' h1'=>?_) fun _ _ h'=>h'.elim);refine ay0 (fy2 h1' (fun _ s2 h2=>ay0 (fy2 h2 (fun ok s3 h3=>?_) fun _ _ h'=>h'.elim)) fun _ _ h'=>h'.elim);cases ok with
  | false=>exact ay1 ⟨rfl,h3⟩
  | true =>
   exact ay0 (ay0 (fy2 h3 (fun x s4 h4=>ay0 (fy2 h4 (fun _ s5 h5=>ay1 (ay1 ⟨rfl,h5⟩)) fun _ _ h'=>h'.elim)) fun _ _ h'=>h'.elim))
end
def zt7 (cells : List (Str × Addr)) : List (Str × wy6)->List (Str × Addr)->List (Str × Addr)
 | [],acc=>acc
 | (n,k) :: r,acc=>if k == .free then zt7 cells r ((n,(cells.lookup n).getD 0) :: acc) else zt7 cells r acc
theorem zq2 {scope : Scope} {env : Env} (h : ∀ y∈scope.names,y.2 = .free->∃ c,env.cells.lookup y.1 = some c) : closureFor scope env = pure (zt7 env.cells scope.names []):=by
 have all : ∀ (l : List (Str × wy6)) (acc : List (Str × Addr)),(∀ y∈l,y.2 = .free->∃ c,env.cells.lookup y.1 = some c) ->
   (forIn l acc (fun (x : Str × wy6) (r : List (Str × Addr))=>match x with | (name,kind)=>(if (kind == .free) = true then (do let c <- cellOf env name; pure (uy0 ((name,c) :: r))) else pure (uy0 r) : Sem _))) = (pure (zt7 env.cells l acc) : Sem _):=by
  intro l
  induction l with
  | nil=>intro acc _; rfl
  | cons y l ih =>
   intro acc hl;obtain ⟨n,k⟩:=y;rw [List.forIn_cons];unfold zt7
   by_cases hk : (k == oy2) = true
   ·obtain ⟨c,hc⟩:=hl (n,k) by2 (by simpa using hk);have hc' : cellOf env n = pure c:=by unfold cellOf; rw [show env.cells.lookup n = some c from hc]
    have hc2 : env.cells.lookup n = some c:=hc;simp only [hk,if_true,hc',hc2,pure_bind,Option.getD_some];exact ih _ fun y hy=>hl y (by1 _ hy)
   ·simp only [hk,if_false,pure_bind];exact ih _ fun y hy=>hl y (by1 _ hy)
 unfold closureFor;have:=all scope.names [] h
 first
  | (rw [this]; rfl)
  | (simp only [bind_pure]; exact this)
theorem zB2 {cells : List (Str × Addr)} : ∀ {l : List (Str × wy6)} {acc : List (Str × Addr)},(∀ y∈l,y.2 = .free->∃ c,cells.lookup y.1 = some c)->(∀ x c,acc.lookup x = some c->cells.lookup x = some c)->∀ x c,(zt7 cells l acc).lookup x = some c->cells.lookup x = some c
 | [],_,_,ha,x,c,e=>ha x c e
 | (n,k) :: r,acc,hl,ha,x,c,e=>by
  unfold zt7 at e
  split at e
  ·refine zB2 (fun y hy=>hl y (by1 _ hy)) (fun z d q=>?_) x c e;rw [ny7] at q
   split at q
   ·rename_i hk _ hz
    obtain ⟨d',hd⟩:=hl (n,k) by2 (by simpa using hk);have hd : cells.lookup n = some d':=hd;rw [hd] at q;have hz' : z = n:=by simpa using hz
    rw [hz',hd];exact q
   ·exact ha z d q
  ·exact zB2 (fun y hy=>hl y (by1 _ hy)) ha x c e
theorem zt8 {cells : List (Str × Addr)} : ∀ {l : List (Str × wy6)} {acc : List (Str × Addr)} {x : Str},((∃ c,acc.lookup x = some c) \/ (x,oy2)∈l)->∃ c,(zt7 cells l acc).lookup x = some c
 | [],_,_,h=>by
  rcases h with h | h
  ·exact h
  ·simp at h
 | (n,k) :: r,acc,x,h=>by
  unfold zt7
  split
  ·rename_i hk
   refine zt8 ?_;rcases h with ⟨c,h⟩ | h
   ·refine .inl ?_;rw [ny7]
    split
    ·exact ⟨_,rfl⟩
    ·exact ⟨c,h⟩
   ·rcases by8.mp h with e | h
    ·refine .inl ?_;cases e;rw [ny7];simp
    ·exact .inr h
  ·rename_i hk
   refine zt8 ?_;rcases h with h | h
   ·exact .inl h
   ·rcases by8.mp h with e | h
    ·cases e;exact absurd (by rfl) hk
    ·exact .inr h
theorem zm2 {scope : Scope} {env : Env} {x : Str} : ∀ {l : List (Str × wy6)} {k : wy6},(l.map fun (n,k)=>if (k == oy2 && env.scope.kind == .function && env.kindOf n == some .cell) then (n,NameKind.cell) else (n,k)).lookup x = some k ->
  l.lookup x = some k \/ (k = .cell /\ l.lookup x = some .free)
 | [],_,h=>by simp at h
 | (n,j) :: r,k,h=>by
  simp only [ey6] at h
  by_cases hx : x = n
  ·subst hx
   by_cases hc : (j == oy2 && env.scope.kind == .function && env.kindOf x == some .cell) = true
   ·rw [if_pos hc] at h;simp at h
    have hj : j = .free:=by
     simp only [my0] at hc;simpa using hc.1.1
    exact .inr ⟨h.symm,by simp [hj]⟩
   ·rw [if_neg hc] at h;simp at h;exact .inl (by simp [h])
  ·have hb : (x == n) = false:=by simpa using hx
   by_cases hc : (j == oy2 && env.scope.kind == .function && env.kindOf n == some .cell) = true
   ·rw [if_pos hc] at h;simp only [ny7,hb] at h ⊢;exact zm2 (scope:=scope) h
   ·rw [if_neg hc] at h;simp only [ny7,hb] at h ⊢;exact zm2 (scope:=scope) h
theorem zs0 {env : Env} {x : Str} : ∀ {l : List (Str × wy6)},l.lookup x = some .free ->
  (l.map fun (n,k)=>if (k == oy2 && env.scope.kind == .function && env.kindOf n == some .cell) then (n,NameKind.cell) else (n,k)).lookup x = some .cell \/
  (l.map fun (n,k)=>if (k == oy2 && env.scope.kind == .function && env.kindOf n == some .cell) then (n,NameKind.cell) else (n,k)).lookup x = some .free
 | [],h=>by simp at h
 | (n,j) :: r,h=>by
  simp only [ey6]
  by_cases hx : x = n
  ·subst hx;simp at h;subst h
   by_cases hc : (oy2 == oy2 && env.scope.kind == .function && env.kindOf x == some .cell) = true
   ·rw [if_pos hc]; simp
   ·rw [if_neg hc]; simp
  ·have hb : (x == n) = false:=by simpa using hx
   simp only [ny7,hb] at h;have ih:=zs0 (env:=env) h
   by_cases hc : (j == oy2 && env.scope.kind == .function && env.kindOf n == some .cell) = true
   ·rw [if_pos hc]; simp only [ny7,hb]; exact ih
   ·rw [if_neg hc]; simp only [ny7,hb]; exact ih
structure zb7 (N : List Str) (sc : Scope) (O F : List Str) (cap : List Nat) (scope : Scope) : Prop where
 kind : scope.kind = .function
 nocell : ∀ y∈scope.names,y.2 ≠ .cell
 names : ∀ y∈scope.names,y.2 = .local->scope.names.lookup y.1 = some .local
 frees : ∀ y∈scope.names,y.2 = .free->sc.names.lookup y.1 = some .cell \/ sc.names.lookup y.1 = some .free
 caps : F.map some = cap.map (fun j=>N[j]?)
 capf : ∀ x∈F,scope.names.lookup x = some .free
def zb8 (X : Cx) (N : List Str) (scope : Scope) (cl : List (Str × Addr)) (C : Addr) (ex : List Addr) (s : Shared) (H : Hp) : Cx :=
 { X with N:=N,s₀:=s,H₀:=H,env:=compEnvC scope cl C X.env,outer:=X.stack,ex:=ex,fn:=fun _=>false,pn:=[],xe:=fun _ _=>False }
def zc0 (O : List Str) (cap : List Nat) (σ : St) : St:=O.map (fun _=>none)++cap.map (fun j=>(σ[j]?).getD none)
def PTs (X : Cx) (ifs : List Expr) (t : TT) : Prop :=
 ∀ (pins : List (Addr × Obj)) (s : Shared) (σ : St) (H : Hp) (Q : Bool->Hp->Prop),Inv X pins σ H s->t σ H Q ->
  wpAny (model X.prog X.w) X.A (forIn ifs true fun c r=>if r = true then do let ok <- isTrue c X.env (eval c X.env); pure (uy0 ok) else pure (uy0 r)) (TP X pins σ Q) X.xe s
def zf21 : TT:=fun _ H Q=>Q true H
theorem zc77 {X : Cx} : PTs X [] zf21:=fun _ _ _ H _ I h=>wpAny_tests_nil ⟨H,I,h⟩
theorem zc78 {X : Cx} {c : Expr} {t : TT} (h : PT X c t) : PTs X [c] t:=fun pins s σ H Q I q=>wpAny_tests_one (h pins s σ H Q I q)
def za22 (wi : TI) (O : List Str) (cap : List Nat) (g : TG) (tt : TT) (te : TE) : TE:=fun σ H Q=>wi σ H fun J H1=>∃ W : Nat->Nat->List V->Hp->Prop,(∃ m,W 0 m [] H1) /\ ∀ i m ys H,W i m ys H->ys.length <= by0 /\
  ((J.stop i H /\ ∀ l,H l = none->Q (.ref l) (upd H l (.lst ys))) \/
   (J.go i H /\ ∃ N : List V->Hp->Prop,(∀ ys' H',N ys' H'->∃ m',m' < m /\ W (i + 1) m' ys' H') /\ ∀ x H',J.yld i H x H'->g x (zc0 O cap σ) H' fun σ2 H2=>tt σ2 H2 fun b H3=>if b = true then te σ2 H3 fun y H4=>N (ys++[y]) H4 else N ys H3))
section
variable {X : Cx} {tg iter elt : Expr} {ifs : List Expr} {scope : Scope} {pos : Pos} {wi : TI} {g : TG} {tt : TT} {te : TE} {O F : List Str} {cap : List Nat}
theorem Inv.comp {pins : List (Addr × Obj)} {σ : St} {H : Hp} {s : Shared} {fp : List Addr} {h1 : Heap} {tk : Nat} (S : zb7 X.N X.env.scope O F cap scope) (I : Inv X pins σ H s)
  (hf : ∀ b∈fp,zr8 X pins H b) (ho : ∀ b∈fp,∃ o,s.heap.get? b = some o /\ ∀ v,o.data ≠ .cell v) (hs : s.heap.objs.size <= C) (D : Addr) (hD : s.heap.objs.size <= D) (hDC : D < C) {h0 : Heap} (h0s : h0.objs.size = C)
  (k0 : ∀ b o,s.heap.get? b = some o->h0.get? b = some o) (k1 : ∀ b o,h0.get? b = some o->h1.get? b = some o) (hn : h1.Ns C fun _=>none) :
  Inv (zb8 X (O++F) scope (zt7 X.env.cells scope.names []) C (D :: fp) { s with heap:=h0 } H) [] (zc0 O cap σ) H { s with heap:=h1,toks:=tk }:=by
 have hfr : ∀ y∈scope.names,y.2 = .free->∃ c,X.env.cells.lookup y.1 = some c:=fun y hy e=>I.ok.has y.1 (S.frees y hy e);have sub : ∀ x c,(zt7 X.env.cells scope.names []).lookup x = some c->X.env.cells.lookup x = some c:=zB2 hfr (fun x c e=>by simp at e)
 have clt : ∀ x c,X.env.cells.lookup x = some c->c < s.heap.objs.size:=fun x c e=>by
  obtain ⟨v,q⟩:=I.cell x c e;exact q.lt
 have flt : ∀ b∈fp,b < s.heap.objs.size:=fun b hb=>by
  refine za0 fun gG=>?_;obtain ⟨o,e,_⟩:=ho b hb;refine gG ?_;clear gG;exact by6 e
 have bsz : X.base.objs.size <= s.heap.objs.size:=ey0 I.ok.bsz I.sz;have blt : ∀ b o,X.base.get? b = some o->b < X.s₀.heap.objs.size:=fun b o e=>by6 (I.ok.bs b o e).1;have k : ∀ b o,s.heap.get? b = some o->h1.get? b = some o:=fun b o e=>k1 b o (k0 b o e)
 refine ⟨⟨I.ok.mod,S.kind,I.ok.glob,I.ok.blt,?_,fun x y c e1 e2=>I.ok.inj x y c (sub x c e1) (sub y c e2),fun x hx=>?_,fun x c e _=>?_,I.ok.hd,I.ok.frames,.inl rfl,fun b hb=>?_,fun b o e=>?_,?_,fun b o e hb=>?_,fun b hb=>?_,?_,I.zZ7⟩,
  rfl,I.bare,Un.kept k1,⟨_,hn,fun i x v e1 e2 e3=>?_⟩,fun x c e=>?_,I.hok.fresh hs,fun x c e=>I.freeC x c (sub x c e),fun p hp=>?_,I.hok.kept k,?_⟩
 ·show h0.objs.size <= C;exact Nat.le_of_eq h0s
 ·have hx : (relabel scope X.env).names.lookup x = some .cell \/ (relabel scope X.env).names.lookup x = some .free:=hx
  have hx' : scope.names.lookup x = some .free:=by
   rcases hx with hx | hx
   ·rcases zm2 (scope:=scope) hx with e | ⟨_,e⟩
    ·exact absurd rfl (S.nocell _ (jy2 e))
    ·exact e
   ·rcases zm2 (scope:=scope) hx with e | ⟨e,_⟩
    ·exact e
    ·cases e
  exact zt8 (.inr (jy2 hx'))
 ·exact absurd (show false = true from e) by9
 ·rcases by8.mp hb with e | hb
  ·subst e;exact ⟨cy1 hDC,fun x c e=>cy1 (by3 (clt x c (sub x c e)) hD)⟩
  ·exact ⟨cy1 (by3 (flt b hb) hs),fun x c e=>(hf b hb).2.2.2.2.1 x c (sub x c e)⟩
 ·exact ⟨k0 b o (I.bs b o e).1,(I.bs b o e).2⟩
 ·show X.base.objs.size <= h0.objs.size;rw [h0s];exact ey0 bsz hs
 ·rcases by8.mp hb with q | hb
  ·subst q;exact absurd (by3 (by6 (I.bk b o e)) hD) (my5 _)
  ·rcases (hf b hb).2.2.2.1 with q | q
   ·exact I.ok.noex b o e q
   ·exact absurd (by3 (blt b o e) q) (my5 _)
 ·intro hb2;have hb3 : b∈X.env.locals :: X.fs:=I.zZ6 b hb2;rcases by8.mp hb with q | hb
  ·subst q;rcases by8.mp hb3 with q | q
   ·exact absurd I.lt (by rw [<- q]; exact Nat.not_lt.mpr hD)
   ·exact I.nofs hD q
  ·rcases by8.mp hb3 with q | q
   ·exact (hf b hb).2.1 q
   ·exact (hf b hb).2.2.1 q
 ·exact I.stack.of_keeps fun b o e _=>⟨o,k0 b o e,rfl⟩
 ·-- the captured names
  have e1 : (O++F)[i]? = some x:=e1;have e2 : (zc0 O cap σ)[i]? = some (some v):=e2;unfold zc0 at e2
  have hi : ¬ i < O.length:=fun hi=>by
   rw [ay8 (by simpa using hi)] at e2;rw [ay9] at e2;cases q : O[i]? with
   | none=>rw [q] at e2; cases e2
   | some z=>rw [q] at e2; cases e2
  have hi' : O.length <= i:=Nat.not_lt.mp hi;rw [cy7 hi'] at e1;rw [cy7 (by simpa using hi'),ay5,ay9] at e2;have hc:=congrArg (fun l=>l[i - O.length]?) S.caps;simp only [ay9,e1,wy7] at hc;cases q : cap[i - O.length]? with
  | none=>rw [q] at e2; cases e2
  | some j =>
   rw [q] at e2 hc;simp only [wy7,Option.some.injEq] at e2 hc;have hj : X.N[j]? = some x:=hc.symm
   have hv : σ[j]? = some (some v):=by
    cases z : σ[j]? with
    | none=>rw [z] at e2; cases e2
    | some y=>rw [z] at e2; simp at e2; rw [e2]
   have hxf : scope.names.lookup x = some .free:=S.capf x (cy3 e1);have hxs:=S.frees _ (jy2 hxf) rfl;refine za0 fun gG=>?_;obtain ⟨m,hm,hl⟩:=I.loc;obtain ⟨u,ru,l⟩:=hl j x v hj hv (hxs.elim (fun z=>.inr (.inl z)) fun z=>.inr (.inr z));refine gG ?_;clear gG;refine ⟨u,ru,.inr ⟨zs0 hxf,?_⟩⟩;rcases l with ⟨l,_⟩ | ⟨_,c,ec,z⟩
   ·have l : X.env.scope.names.lookup x = some .local:=l;rcases hxs with q | q
    ·rw [q] at l; cases l
    ·rw [q] at l; cases l
   ·obtain ⟨c',hc'⟩:=zt8 (cells:=X.env.cells) (l:=scope.names) (acc:=[]) (.inr (jy2 hxf));have e':=sub x c' hc';rw [ec] at e';cases e';refine za0 fun gG=>?_;obtain ⟨o,ho,hd⟩:=z;refine gG ?_;clear gG;exact ⟨c,hc',o,k c o ho,hd⟩
 ·refine za0 fun gG=>?_;obtain ⟨v,o,ho,hd⟩:=I.cell x c (sub x c e);refine gG ?_;clear gG;exact ⟨v,o,k c o ho,hd⟩
 ·exact absurd (show p∈([] : List (Addr × Obj)) from hp) (by simp)
 ·show (zc0 O cap σ).length = (O++F).length;have:=congrArg vy9 S.caps;simp only [ay5] at this;unfold zc0;simp [this]
theorem Inv.ze01 {pins : List (Addr × Obj)} {σ σ' : St} {H H' : Hp} {s s4 : Shared} {N : List Str} {cl : List (Str × Addr)} {fp : List Addr} {C D : Addr} {h0 h' : Heap} {ys : List V} {us : List Value} {n : Nat} (I : Inv X pins σ H s)
  (hf : ∀ b∈fp,zr8 X pins H b) (hs : s.heap.objs.size <= C) (hD : s.heap.objs.size <= D) (hDC : D < C)
  (k0 : ∀ b o,s.heap.get? b = some o->h0.get? b = some o)
  (I4 : Inv (zb8 X N scope cl C (D :: fp) { s with heap:=h0 } H) [] σ' H' s4) (fD : H' D = none) (oD : s4.heap.get? D = some { cls:=.type "list",data:=.seq us.toArray n }) (rv : Vals ys us) (hz : ys.length <= by0)
  (sb : fy0 C s4.heap h') : Inv X pins σ (upd H' D (.lst ys)) { s4 with heap:=h' }:=by
 have kC : ∀ b o,b ≠ C->s4.heap.get? b = some o->h'.get? b = some o:=fun b o hb e=>(sb.2 b hb).trans e;have lt : ∀ b o,s.heap.get? b = some o->b < s.heap.objs.size:=fun b o e=>by6 e;have neD : ∀ b o,s.heap.get? b = some o->b ≠ D:=fun b o e=>cy1 (by3 (lt b o e) hD);have neC : ∀ b o,s.heap.get? b = some o->b ≠ C:=fun b o e=>cy1 (by3 (lt b o e) hs);have nin : ∀ b o,s.heap.get? b = some o->b ∉ fp->b ∉ D :: fp:=fun b o e h hb=>(by8.mp hb).elim (neD b o e) h;have HD : H D = none:=I.hok.fresh hD;have neDH : ∀ b u,H b = some u->b ≠ D:=fun b u e=>za6 e HD;have fC : H' C = none:=I4.free;have un : Un (frs X.stack) (D :: fp) H H' h0 s4.heap:=I4.base;refine I.zb28 (ch:=fp) (s':={ s4 with heap:=h' }) (H':=upd H' D (.lst ys)) I4.os ⟨fun b o e n hb hx=>?_,fun b o e n hb hx=>?_,fun b o e n hx=>?_,fun b o e hx=>?_,fun b xs e=>?_,fun b o u e=>?_,fun b ps e=>?_⟩ (fun b u e=>?_) I4.bare (fun b hb=>?_)
 ·exact kC b o (neC b o e) (un.keep b o (k0 b o e) n hb (nin b o e hx))
 ·obtain ⟨sl,q⟩:=un.slot b o (k0 b o e) n hb (nin b o e hx);exact ⟨sl,kC b _ (neC b o e) q⟩
 ·rw [za8 (neD b o e)];exact un.free b o (k0 b o e) n (nin b o e hx)
 ·obtain ⟨o',q⟩:=un.there b o (k0 b o e) (nin b o e hx);exact ⟨o',kC b _ (neC b o e) q⟩
 ·rw [za8 (neDH b _ e)];exact un.tups b xs e
 ·rw [za8 (neDH b _ e)];exact un.frzs b o u e
 ·rw [za8 (neDH b _ e)];exact un.tbls b ps e
 ·by_cases hb : b = D
  ·subst hb;rw [zb3] at e;cases e;exact ⟨hz,us,n,rv,kC b _ (cy1 hDC) oD⟩
  ·rw [za8 hb] at e;refine (I4.hok b u e).zU0 (fun c v hc q=>kC c v ?_ q) (fun c q=>by rw [za8 (za6 q fD)]; exact q) fun c xs q=>by rw [za8 (za6 q fD)]; exact q
   rcases hc with q | q
   ·rw [q]; exact za6 e fC
   ·exact za6 q fC
 ·refine za0 fun gG=>?_;obtain ⟨_,h1,_,h2,h3,h4⟩:=hf b hb;refine gG ?_;clear gG;exact ⟨h2,h1,h3,h4⟩
def Own (n : Nat) (g : TG) : Prop:=∀ x σ H Q,g x σ H Q->g x σ H fun σ2 H2=>(σ2.length = σ.length /\ ∀ j,n <= j->σ2[j]? = σ[j]?) /\ Q σ2 H2
def OwnS (n : Nat) (g : TGs) : Prop:=∀ x σ H Q,g x σ H Q->g x σ H fun σ2 H2=>(σ2.length = σ.length /\ ∀ j,n <= j->σ2[j]? = σ[j]?) /\ Q σ2 H2
theorem zb40 {n i : Nat} (h : i < n) : Own n (zm8 i):=fun x σ H Q q=>⟨⟨by simp,fun j hj=>by rw [cy8 (by omega)]⟩,q⟩
theorem zc79 {n : Nat} : OwnS n gNil:=fun x σ H Q zR=>by obtain ⟨e,q⟩:=zR; exact ⟨e,⟨rfl,fun _ _=>rfl⟩,q⟩
theorem zb41 {n i : Nat} {u : TGs} (h : i < n) (hu : OwnS n u) (mu : ∀ x σ H (Q Q' : St->Hp->Prop),(∀ σ H,Q σ H->Q' σ H)->u x σ H Q->u x σ H Q') : OwnS n (zU2 (zm8 i) u):=fun x σ H Q ⟨v,r,e,q⟩=>⟨v,r,e,by
 have q : u r (σ.set i (some v)) H Q:=q;show u r (σ.set i (some v)) H _;refine mu _ _ _ _ _ (fun σ2 H2 z=>?_) (hu _ _ _ _ q);refine za0 fun gG=>?_;obtain ⟨⟨h1,h2⟩,h3⟩:=z;refine gG ?_;clear gG
 exact ⟨⟨by rw [h1]; simp,fun j hj=>by rw [h2 j hj,cy8 (by omega)]⟩,h3⟩⟩
theorem zb42 : ∀ x σ H (Q Q' : St->Hp->Prop),(∀ σ H,Q σ H->Q' σ H)->gNil x σ H Q->gNil x σ H Q':=fun x σ H Q Q' h zR=>by obtain ⟨e,q⟩:=zR; exact ⟨e,h _ _ q⟩
theorem za23 {i : Nat} {u : TGs} (mu : ∀ x σ H (Q Q' : St->Hp->Prop),(∀ σ H,Q σ H->Q' σ H)->u x σ H Q->u x σ H Q') : ∀ x σ H (Q Q' : St->Hp->Prop),(∀ σ H,Q σ H->Q' σ H)->zU2 (zm8 i) u x σ H Q->zU2 (zm8 i) u x σ H Q' :=
 fun x σ H Q Q' h zR=>by obtain ⟨v,r,e,q⟩:=zR; exact ⟨v,r,e,mu _ _ _ _ _ h q⟩
theorem zc80 {n k : Nat} {K : ay4} {u : TGs} (hu : OwnS n u) : Own n (gTup K k u):=fun x σ H Q zR=>by obtain ⟨a,xs,e,h1,h2,q⟩:=zR; exact ⟨a,xs,e,h1,h2,hu _ _ _ _ q⟩
end
def Its (x : Str) : It:=⟨fun i _=>i < x.cps.size,fun i H v H'=>H' = H /\ ∃ c,x.cps[i]? = some c /\ v = .str ⟨#[c]⟩,fun i _=>x.cps.size <= i⟩
theorem zb43 {P : cy6} {w : World} {K : ay4} {tg : Expr} (it : Addr) (x : Str) (t : Tok) (cl : String) (hc : cl = "str_ascii_iterator" \/ cl = "str_iterator") : Turn P w K tg (Its x) [it] it (fun i h=>h.IsStrIter it cl x t i) where
 mem:=by simp
 obj:=fun i h st b hb=>by
  have e : b = it:=by simpa using hb
  subst e;refine za0 fun gG=>?_;obtain ⟨o,e,c,d⟩:=st;refine gG ?_;clear gG;exact ⟨o,e,fun v z=>by rw [d] at z; cases z⟩
 keep:=fun i h h' st k=>by
  refine za0 fun gG=>?_;obtain ⟨o,e,r⟩:=st;refine gG ?_;clear gG;exact ⟨o,k it (by simp) o e,r⟩
 item:=by
  intro X hP hw hK hcm i pins s σ H E I hf st hg;subst hP hw hK;refine za0 fun gG=>?_;obtain ⟨f0,f1,f2,f3,f4,f5⟩:=hf it (by simp);refine gG ?_;clear gG;have hi : i < x.cps.size:=hg
  have nm : ["enumerate", "zip", "dict_itemiterator", "dict_reverseitemiterator", "odict_iterator", "itertools.zip_longest", "itertools.pairwise"].contains cl = false:=by
   rcases hc with rfl | rfl <;> decide
  have go : ∀ (h' : Heap) (st' : h'.IsStrIter it cl x t (i + 1)) (sb : ∀ b o,b ≠ it->s.heap.get? b = some o->h'.get? b = some o) (tk : Nat) (u : Tok),∃ v,some (Value.str ⟨#[x.cps[i]]⟩ u) = some v /\
    wpAny (model X.prog X.w) X.A (oy4 tg (.ref it) v) (fun _ s2=>∃ y H',Inv X pins σ H' s2 /\ RelV y v /\ (Its x).yld i H y H' /\ s2.heap.IsStrIter it cl x t (i + 1) /\ ∀ b∈[it],H' b = none) E { s with heap:=h',toks:=tk }:=fun h' st' sb tk u=>by
   have I1 : Inv X pins σ H { s with heap:=h',toks:=tk }:=I.turned (fun b o hb e=>sb b o hb e) f0 f1 f3 f4 f5;refine za0 fun gG=>?_;obtain ⟨o,e,c,d⟩:=id st';refine gG ?_;clear gG;exact ⟨_,rfl,zU3 (s:={ s with heap:=h',toks:=tk }) e c d nm ⟨.str ⟨#[x.cps[i]]⟩,H,I1,⟨_,rfl⟩,⟨rfl,x.cps[i],by simp [hi],rfl⟩,st',fun b hb=>(hf b hb).1⟩⟩
  rcases hc with rfl | rfl
  ·exact wpAny_pyNext_ascii_item st (c:=x.cps[i]) (by simp [hi]) fun h' st' sb=>go h' st' (fun b o hb e=>sb.extBut b o hb e) _ _
  ·exact wpAny_pyNext_wide_item st (c:=x.cps[i]) (by simp [hi]) fun h' st' sb=>go h' st' (fun b o hb e=>sb.extBut b o hb e) _ _
 done:=by
  intro X hP hw hK hcm i pins s σ H E I hf st hg;subst hP hw hK;refine za0 fun gG=>?_;obtain ⟨f0,f1,f2,f3,f4,f5⟩:=hf it (by simp);refine gG ?_;clear gG;have hi : x.cps.size <= i:=hg;rcases hc with rfl | rfl
  ·exact wpAny_pyNext_ascii_end (I.ok.hd hcm) st (by simp [hi]) fun h' eb=>⟨rfl,I.turned (t':=s.toks) (fun b o hb e=>eb b o hb e) f0 f1 f3 f4 f5⟩
  ·exact wpAny_pyNext_wide_end (I.ok.hd hcm) st (by simp [hi]) fun h' eb=>⟨rfl,I.turned (t':=s.toks) (fun b o hb e=>eb b o hb e) f0 f1 f3 f4 f5⟩
 self:=fun _ _ _ _ _ st h=>by
  rcases hc with rfl | rfl
  ·exact wpAny_pyIter_striter_ascii st h
  ·exact wpAny_pyIter_striter_wide st h
section
variable {X : Cx} {tg : Expr}
def iStr (tl : TE) : TI:=fun σ H R=>tl σ H fun v H1=>∃ x,v = .str x /\ R (Its x) H1
theorem ze03 {l : Expr} {tl : TE} (hl : PE X l tl) : PI X tg l (iStr tl):=by
 intro pins s σ H R I h;refine thn (hl pins s σ H _ I h) fun v s1 zR=>?_;refine za0 fun gG=>?_;obtain ⟨y,H1,I1,r1,q1⟩:=zR;obtain ⟨x,e,q⟩:=q1;subst e;obtain ⟨t,rfl⟩:=r1;refine gG ?_;clear gG
 have fin : ∀ (o : Obj) (cl : String),(cl = "str_ascii_iterator" \/ cl = "str_iterator")->(s1.heap.push o).IsStrIter s1.heap.objs.size cl x t 0->PIE X pins σ tg R (.ref s1.heap.objs.size) { s1 with heap:=s1.heap.push o }:=fun o cl hc st=>by
  refine ⟨s1.heap.objs.size,[s1.heap.objs.size],_,_,H1,rfl,I1.kept (t':=s1.toks) fun b o e=>ay2 _ e,zb43 _ x t cl hc,st,fun b hb=>?_,q⟩;have e : b = s1.heap.objs.size:=by simpa using hb
  subst e;exact I1.fpOk (ay6 _) (I1.hok.fresh (ay6 _))
 cases ha : x.cps.all (· < 128)
 ·exact wpAny_pyIter_wide ha (fin _ _ (.inr rfl) ⟨_,ay7 _ rfl,rfl,rfl⟩)
 ·exact wpAny_pyIter_ascii ha (fin _ _ (.inl rfl) ⟨_,ay7 _ rfl,rfl,rfl⟩)
end
theorem zL3 : ∀ {bs : List Bool} {us : List Value},Vals (bs.map V.bl) us->LSm.BoolsAre us bs:=by
 intro bs
 induction bs with
 | nil=>intro us r; rw [List.map_nil] at r; cases r; exact .nil
 | cons b bs ih =>
  intro us r;rw [ey6] at r;cases r with
  | cons r1 r2 =>
   cases r1;exact .cons b (ih r2)
section
variable {X : Cx}
theorem zb44 (hc : X.calm = true) : zj8 X (.builtin "all") (fun xs H Q=>∃ (p : Addr) (bs : List Bool),xs = [.ref p] /\ SqL X.K H p (bs.map V.bl) /\ Q (.bl (bs.all id)) H):=by
 intro pins s σ H xs us Q I r h;refine za0 fun gG=>?_;obtain ⟨p,bs,rfl,hq,q⟩:=h;refine gG ?_;clear gG;cases r with
 | cons r rr =>
  cases rr;cases r;refine za0 fun gG=>?_;obtain ⟨its,rv,pl,hz⟩:=I.list hq;obtain ⟨m,F⟩:=I.fr;refine gG ?_;clear gG;have hb:=zL3 rv;have hlt : p < s.heap.objs.size:=by obtain ⟨_,e,_⟩:=pl.isList; exact by6 e
  refine call_all_walk (wpAny_pyIter_list pl.isList ?_)
  refine ⟨s.heap.objs.size,[s.heap.objs.size,p],[s.heap.objs.size],its.toArray.size,_,_,fun i=>(bs[i]?).getD true,rfl,Walks.list (A:=X.A.in1) (I.ok.hd hc) _ p (cy1 hlt) its.toArray,
   ⟨⟨_,ay7 _ rfl,rfl,rfl⟩,pl.isList.push _⟩,fun i v s' Q' E' hP hQ=>?_,fun h' tk hk=>?_⟩
  ·refine za0 fun gG=>?_;obtain ⟨b,e,rfl⟩:=hb.get i v (by simpa using hP);refine gG ?_;clear gG;simp only [e,Option.getD_some] at hQ;exact ky8 hQ
  ·have e : ((iy3 its.toArray.size).all fun i=>(bs[i]?).getD true) = bs.all id:=by
    rw [by7,hb.length]; exact LSm.range_all bs
   rw [e];exact ⟨.bl (bs.all id),H,I.kept (LSm.kept_iter hk),rfl,q⟩
theorem Inv.big {pins : List (Addr × Obj)} {σ : St} {H : Hp} {s : Shared} (I : Inv X pins σ H s) : ly6 < s.heap.objs.size:=by
 have h : cy2 < s.heap.objs.size:=(I.mod.glob.keeps I.bk).lt;exact Nat.lt_trans (by decide) h
end
section
variable {X : Cx}
end
end L2
namespace HT
open PySem PySem.Spec PyProof.Rows
section
variable {prog : cy6} {w : World} {A : Around} {E : Value->Shared->Prop} {s : Shared}
theorem zq3 {t sl : Addr} {items : Array Value} {vl vu : Value} {lo hi : Option Int} {Q : Value->Shared->Prop} (ht : IsTup s.heap t items) (hs : s.heap.IsSliceOf sl vl vu .none) (pl : IsPart vl lo) (pu : IsPart vu hi)
  (hw : sIx items.size 0 lo = 0 /\ sIx items.size items.size hi = items.size)
  (h : Q (.ref t) s) : wpAny (model prog w) A (getItem (.ref t) (.ref sl)) Q E s:=by
 refine za0 fun gG=>?_;obtain ⟨os,hos,hcs,hds⟩:=id hs;refine gG ?_;clear gG;have hTs : s.TypeIs (.ref sl) "slice" := ⟨os,hos,hcs⟩
 unfold getItem
 try with_reducible refine fy3 ?_
 first | refine ay0 (ay1 ?_) | skip
 refine ay0 (wpAny_sequenceKey ht.typeIs (by decide) ?_)
 refine ay0 (ey5 (name:=ly9 "__getitem__") ht.typeIs hy9
  (dy6 hy9 ht.typeIs entry_tuple_getitem ?_ (args_tuple_getitem _ _)))
 show wpAny _ _ (Builtin.Tuple.tupleItemsOf (.ref t) >>= _) _ _ s;refine ay0 (tupleItemsOf_ ht ?_);refine ay0 (ty9 hTs ?_);rw [if_pos (by decide)];refine ay0 (zl3 hs pl pu ?_)
 have hno : ((((sIx items.size 0 lo : Nat) : Int) == 0 && (1 : Int) == 1 && (sIx items.size items.size hi - sIx items.size 0 lo) == items.size) = true):=by
  rw [hw.1,hw.2];simp
 show wpAny _ _ (if (((sIx items.size 0 lo : Nat) : Int) == 0 && (1 : Int) == 1 && (sIx items.size items.size hi - sIx items.size 0 lo) == items.size) = true then _ else _) _ _ s;rw [if_pos hno];refine ay0 ?_;unfold Builtin.Tuple.tupleIsExact;refine ay0 (ty9 ht.typeIs (ay1 ?_));rw [if_pos (by decide)];refine ay0 (ny4 ?_);exact ay1 ⟨_,rfl,ay1 h⟩
theorem zb45 {t b : Addr} {vs ws : List Value} {Q : Value->Shared->Prop} (ht : IsTup s.heap t vs.toArray) (hb : IsTup s.heap b ws.toArray) (hv : vs = [])
  (h1 : Q (.ref b) s) : wpAny (model prog w) A (my6 .Add (.ref t) (.ref b)) Q E s:=by
 refine za0 fun gG=>?_;obtain ⟨⟨cls,dd,data,sl⟩,ho,hc,n,hd⟩:=id ht;obtain ⟨⟨cls2,dd2,data2,sl2⟩,ho2,hc2,n2,hd2⟩:=id hb;refine gG ?_;clear gG;simp only at hc hd hc2 hd2;subst hc hd hc2 hd2
 exact concat_meets ⟨_,ho,rfl⟩ ⟨_,ho2,rfl⟩ noFill_tuple_add seq_tuple_add PySem.F.slot_tuple_add PySem.F.entry_tuple_add (PySem.F.args_tuple_add_2 _ _)
   (tuple_addW0 t b vs.toArray ws.toArray n n2 dd dd2 sl sl2 (by simp [hv])) ⟨ho,ho2,h1⟩
end
end HT
namespace L2
open PySem PySem.Spec PyProof.Rows
theorem zb46 {xs : List V} {lo hi : Option Int} (h : HT.sIx xs.length 0 lo = 0 /\ HT.sIx xs.length xs.length hi = xs.length) : zL0 xs lo hi = xs:=by
 unfold zL0;rw [h.1,h.2];simp
section
variable {X : Cx}
end
section
variable {X : Cx} {tg iter elt : Expr} {ifs : List Expr} {scope : Scope} {pos : Pos} {wi : TI} {g : TG} {tt : TT} {te : TE} {O F : List Str} {cap : List Nat}
theorem zG9 {use : Option (Value->Sem Unit)} {R : Value->Shared->Prop} {pins : List (Addr × Obj)} {s : Shared} {σ : St} {H : Hp} {Q : VK} {ps0 : Pos} (hc : X.calm = true) (S : zb7 X.N X.env.scope O F cap scope) (hi : PI X tg iter wi)
  (hg : ∀ cl C ex s H,PG (zb8 X (O++F) scope cl C ex s H) tg g) (ht : ∀ cl C ex s H,PTs (zb8 X (O++F) scope cl C ex s H) ifs tt) (he : ∀ cl C ex s H,PE (zb8 X (O++F) scope cl C ex s H) elt te)
  (ho : Own O.length g) (hs : ∀ x,ey2 iter X.env x = pure x) (I : Inv X pins σ H s) (h : za22 wi O cap g tt te σ H Q)
  (post : ∀ (s4 : Shared) (D C : Addr) (H4 : Hp) (ys : List V),(∃ m,s4.heap.Ns C m)->D ≠ C->(∀ h',fy0 C s4.heap h'->Inv X pins σ (upd H4 D (.lst ys)) { s4 with heap:=h' })->zr8 X pins (upd H4 D (.lst ys)) C->Q (.ref D) (upd H4 D (.lst ys)) ->
   compPost (model X.prog X.w) X.A X.xe use R (.ref D) C (.ok .next) s4) :
  wpAny (model X.prog X.w) X.A (comprehension (.ListComp elt [⟨tg,iter,ifs,0⟩] scope pos) scope X.env ps0 (newList []) false (eval iter X.env) use) R X.xe s:=by
 have hfr : ∀ y∈scope.names,y.2 = .free->∃ c,X.env.cells.lookup y.1 = some c:=fun y hy e=>I.ok.has y.1 (S.frees y hy e);refine wpAny_comprehension_free (use:=use) rfl hs (zq2 hfr) S.kind S.names (thn (hi pins s σ H _ I h) fun v s1 h1=>thn h1 fun itv s2 h2=>?_);refine zF8 h2 fun it fp tn J H2 e I2 T st2 f2 qR=>?_;refine za0 fun gG=>?_;obtain ⟨W,⟨m0,w0⟩,turn⟩:=qR;subst e;refine gG ?_;clear gG;refine ey3 (wpAny_newFunctionEnv S.nocell (by intro y hy; simp at hy) (fun h1 hns1 hsb1=>?_) S.kind);dsimp only at hns1 hsb1 ⊢;generalize hH0 : s2.heap.push { cls:=.type "list",dict:=none,data:=.seq ([] : List Value).toArray } = h0 at hns1 hsb1 ⊢;have h0s : h0.objs.size = s2.heap.objs.size + 1:=by rw [<- hH0,sy4]
 have k0 : ∀ b o,s2.heap.get? b = some o->h0.get? b = some o:=fun b o e=>hH0 ▸ ay2 _ e;have k1 : ∀ b o,h0.get? b = some o->h1.get? b = some o:=fun b o e=>hsb1.extBut b o (cy1 (by6 e)) (ay2 _ e);have oD0 : h0.get? s2.heap.objs.size = some { cls:=.type "list",data:=.seq ([] : List Value).toArray }:=hH0 ▸ ay7 _ rfl;have hDC : s2.heap.objs.size < h0.objs.size:=by rw [h0s]; exact ny8 _
 have hsC : s2.heap.objs.size <= h0.objs.size:=ly8 hDC
 have flt : ∀ b∈fp,b < s2.heap.objs.size:=fun b hb=>by
  refine za0 fun gG=>?_;obtain ⟨o,e,_⟩:=T.obj _ _ st2 b hb;refine gG ?_;clear gG;exact by6 e
 have Dfp : s2.heap.objs.size ∉ fp:=fun z=>my5 _ (flt _ z)
 have I3 : Inv (zb8 X (O++F) scope (zt7 X.env.cells scope.names []) h0.objs.size (s2.heap.objs.size :: fp) { s2 with heap:=h0 } H2) [] (zc0 O cap σ) H2 { s2 with heap:=h1,toks:=s2.toks + ([] : List (Str × Value)).length } :=
  I2.comp S f2 (T.obj _ _ st2) hsC s2.heap.objs.size (ay6 _) hDC rfl k0 k1 hns1
 generalize hX' : zb8 X (O++F) scope (zt7 X.env.cells scope.names []) h0.objs.size (s2.heap.objs.size :: fp) { s2 with heap:=h0 } H2 = X' at I3;have hg' : PG X' tg g:=hX' ▸ hg _ _ _ _ _;have ht' : PTs X' ifs tt:=hX' ▸ ht _ _ _ _ _;have he' : PE X' elt te:=hX' ▸ he _ _ _ _ _
 have fpok : ∀ {H' : Hp},(∀ b∈s2.heap.objs.size :: fp,H' b = none)->∀ b∈s2.heap.objs.size :: fp,zr8 X' [] H' b:=fun {H'} hn b hb=>by
  have hex : b∈X'.ex:=by rw [<- hX']; exact hb
  refine ⟨hn b hb,(I3.ok.exf b hex).1,I3.ok.exfs b hex,.inl hex,(I3.ok.exf b hex).2,fun p hp=>?_⟩;rw [<- hX'] at hp;exact absurd (show p∈([] : List (Addr × Obj)) from hp) (by simp)
 have eP : X'.prog = X.prog:=by rw [<- hX']; rfl
 have eW : X'.w = X.w:=by rw [<- hX']; rfl
 have eK : X'.K = X.K:=by rw [<- hX']; rfl
 have eA : X'.A = X.A:=by rw [<- hX']; rfl
 have eC : X'.calm = true:=by rw [<- hX']; exact hc
 have eE : X'.env = compEnvC scope (zt7 X.env.cells scope.names []) h0.objs.size X.env:=by rw [<- hX']; rfl
 have eX : X'.xe = fun _ _=>False:=by rw [<- hX']; rfl
 have loop : ∀ s3 : Shared,s3 = { s2 with heap:=h1,toks:=s2.toks + ([] : List (Str × Value)).length } ->
   my2 (model X.prog X.w) X.A (.compLoop (.ListComp elt [⟨tg,iter,ifs,0⟩] scope pos) 0 (.ref it) (.ref s2.heap.objs.size) (compEnvC scope (zt7 X.env.cells scope.names []) h0.objs.size X.env))
    (compPost (model X.prog X.w) X.A X.xe use R (.ref s2.heap.objs.size) h0.objs.size) s3:=by
  rintro s3 rfl
  refine zG8 (fun n s'=>∃ i ys us k H',Inv X' [] (zc0 O cap σ) H' s' /\ tn i s'.heap /\ (∀ b∈s2.heap.objs.size :: fp,H' b = none) /\ s'.heap.get? s2.heap.objs.size = some { cls:=.type "list",data:=.seq us.toArray k } /\ Vals ys us /\ W i n ys H') ?_ m0
   ⟨0,[],[],_,H2,I3,T.keep _ _ _ st2 (fun b _ o e=>k1 b o (k0 b o e)),fun b hb=>?_,k1 _ _ oD0,.nil,w0⟩
  ·intro n s3 gX;refine za0 fun gG=>?_;obtain ⟨i,ys,us,k,H3,I3',st3,fr3,o3,rv3,w3⟩:=gX;obtain ⟨hz,step⟩:=turn i n ys H3 w3;refine gG ?_;clear gG;have fpI : ∀ b∈fp,zr8 X' [] H3 b:=fun b hb=>fpok fr3 b (by1 _ hb);rcases step with ⟨stop,q⟩ | ⟨go,NN,hNN,step⟩
   ·have:=T.done X' eP eW eK eC i [] s3 (zc0 O cap σ) H3 (fun _ _=>False) I3' fpI st3 stop;rw [eA] at this
    have hk : ∀ {s4 : Shared},Inv X' [] (zc0 O cap σ) H3 s4->s4.heap.get? s2.heap.objs.size = some { cls:=.type "list",data:=.seq us.toArray k }->compPost (model X.prog X.w) X.A X.xe use R (.ref s2.heap.objs.size) h0.objs.size (.ok .next) s4:=fun {s4} I4 o4=>by
     refine za0 fun gG=>?_;obtain ⟨m,hm,_⟩:=id I4.loc;refine gG ?_;clear gG;rw [eE] at hm
     have fC : H3 h0.objs.size = none:=by
      have:=I4.free;rw [eE] at this;exact this
     have nCD : h0.objs.size ≠ s2.heap.objs.size:=oy3 hDC;refine post s4 s2.heap.objs.size h0.objs.size H3 ys ⟨m,hm⟩ (fy4 nCD) (fun h' sb=>?_) (I2.fpOk hsC (by rw [za8 nCD]; exact fC)) (q _ (fr3 _ by2));rw [<- hX'] at I4;exact I2.ze01 f2 hsC (ay6 _) hDC k0 I4 (fr3 _ by2) o4 rv3 hz sb
    have J3 : Inv X' [(s2.heap.objs.size,{ cls:=.type "list",data:=.seq us.toArray k })] (zc0 O cap σ) H3 s3:=I3'.zl5 fun p hp=>by
     have : p = (s2.heap.objs.size,{ cls:=.type "list",data:=.seq us.toArray k }):=by simpa using hp
     subst this;refine za0 fun gG=>?_;obtain ⟨f0,f1,f2',_⟩:=fpok fr3 s2.heap.objs.size by2;refine gG ?_;clear gG;exact ⟨o3,f0,f1,f2',fun v z=>by cases z⟩
    have fpJ : ∀ b∈fp,zr8 X' [(s2.heap.objs.size,{ cls:=.type "list",data:=.seq us.toArray k })] H3 b:=fun b hb=>by
     refine za0 fun gG=>?_;obtain ⟨f0,f1,f3,f4,f5,f6⟩:=fpI b hb;refine gG ?_;clear gG;refine ⟨f0,f1,f3,f4,f5,fun p hp=>?_⟩;rcases dy9.mp hp with z | z
     ·exact f6 p (iy6 _ z)
     ·have : p = (s2.heap.objs.size,{ cls:=.type "list",data:=.seq us.toArray k }):=by simpa using z
      subst this;intro e;exact Dfp (by rw [show s2.heap.objs.size = b from e]; exact hb)
    have fin:=T.done X' eP eW eK eC i _ s3 (zc0 O cap σ) H3 (fun _ _=>False) J3 fpJ st3 stop;rw [eA] at fin;refine thn fin fun r s4 zR=>?_;refine za0 fun gG=>?_;obtain ⟨hr,J4⟩:=zR;subst hr;refine gG ?_;clear gG;exact hk (J4.zl5 fun p hp=>absurd hp (by simp)) (J4.pin (s2.heap.objs.size,{ cls:=.type "list",data:=.seq us.toArray k }) (dy0 _ (fy1.mpr rfl))).1
   ·have J3 : Inv X' (ze6 [s2.heap.objs.size] s3.heap) (zc0 O cap σ) H3 s3:=by
     have:=I3'.pinned (fp:=[s2.heap.objs.size]) (fun b hb=>fpok fr3 b (by simp at hb; simp [hb])) (fun b hb=>by
      have e : b = s2.heap.objs.size:=by simpa using hb
      subst e
      exact ⟨_,o3,fun v z=>by cases z⟩)
     simpa using this
    have fpJ : ∀ b∈fp,zr8 X' (ze6 [s2.heap.objs.size] s3.heap) H3 b:=fun b hb=>by
     refine za0 fun gG=>?_;obtain ⟨f0,f1,f3,f4,f5,f6⟩:=fpI b hb;refine gG ?_;clear gG;refine ⟨f0,f1,f3,f4,f5,fun p hp=>?_⟩;rcases dy9.mp hp with z | z
     ·exact f6 p (iy6 _ z)
     ·have:=(zg8 z).1;have e' : p.1 = s2.heap.objs.size:=by simpa using this
      intro e;exact Dfp (by rw [<- e',e]; exact hb)
    have it3:=T.item X' eP eW eK eC i _ s3 (zc0 O cap σ) H3 (fun _ _=>False) J3 fpJ st3 go;rw [eA] at it3;refine thn it3 fun r s4 zR=>?_;refine za0 fun gG=>?_;obtain ⟨u,hr,h4⟩:=zR;subst hr;refine gG ?_;clear gG;refine thn h4 fun _ s5 zR=>?_;refine za0 fun gG=>?_;obtain ⟨x,H5,I5,r5,y5,st5,fr5⟩:=zR;refine gG ?_;clear gG;have o5 : s5.heap.get? s2.heap.objs.size = some { cls:=.type "list",data:=.seq us.toArray k }:=(I5.pin (_,_) (dy0 _ (ze3 (by simp) o3))).1;have d5 : H5 s2.heap.objs.size = none:=(I5.pin (_,_) (dy0 _ (ze3 (by simp) o3))).2.1;have fr5' : ∀ b∈s2.heap.objs.size :: fp,H5 b = none:=fun b hb=>(by8.mp hb).elim (fun z=>by rw [z]; exact d5) (fr5 b)
    have I5' : Inv X' (ze6 (s2.heap.objs.size :: fp) s5.heap) (zc0 O cap σ) H5 s5:=by
     have:=(I5.zl5 (pins':=[]) fun p hp=>absurd hp (by simp)).pinned (fp:=s2.heap.objs.size :: fp) (fpok fr5') (fun b hb=>by
      rcases by8.mp hb with e | hb
      ·subst e;exact ⟨_,o5,fun v z=>by cases z⟩
      ·exact T.obj _ _ st5 b hb)
     simpa using this
    have a5:=hg' _ s5 (zc0 O cap σ) H5 x u _ I5' r5 (ho _ _ _ _ (step x H5 y5));rw [eP,eW,eA,eE,eX] at a5;refine thn a5 fun _ s6 zR=>?_;refine za0 fun gG=>?_;obtain ⟨σ6,H6,I6,⟨l6,w6⟩,q6⟩:=zR;refine gG ?_;clear gG;have t6:=ht' _ s6 σ6 H6 _ I6 q6;rw [eP,eW,eA,eE,eX] at t6;refine thn t6 fun ok s7 zR=>?_;refine za0 fun gG=>?_;obtain ⟨H7,I7,q7⟩:=zR;refine gG ?_;clear gG
    have back : ∀ {σ8 : St} {H8 : Hp} {s8 : Shared},σ8.length = (zc0 O cap σ).length->Inv X' (ze6 (s2.heap.objs.size :: fp) s5.heap) σ8 H8 s8->(∀ (j : Nat) v,(zc0 O cap σ)[j]? = some (some v)->σ8[j]? = some (some v)) ->
      Inv X' [] (zc0 O cap σ) H8 s8 /\ tn (i + 1) s8.heap /\ (∀ b∈s2.heap.objs.size :: fp,H8 b = none) /\ s8.heap.get? s2.heap.objs.size = some { cls:=.type "list",data:=.seq us.toArray k }:=fun {σ8 H8 s8} hl I8 hw=>by
     have pin8 : ∀ b∈s2.heap.objs.size :: fp,∀ o,s5.heap.get? b = some o->s8.heap.get? b = some o /\ H8 b = none:=fun b hb o e=>by
      have:=I8.pin (b,o) (dy0 _ (ze3 hb e));exact ⟨this.1,this.2.1⟩
     refine ⟨(I8.zl5 fun p hp=>absurd hp (by simp)).weak hl.symm hw,T.keep _ _ _ st5 fun b hb o e=>(pin8 b (by1 _ hb) o e).1,fun b hb=>?_,(pin8 _ by2 _ o5).1⟩;rcases by8.mp hb with e | hb'
     ·exact (pin8 b hb _ (by rw [e]; exact o5)).2
     ·refine za0 fun gG=>?_;obtain ⟨o,e,_⟩:=T.obj _ _ st5 b hb';refine gG ?_;clear gG;exact (pin8 b hb o e).2
    have w6' : ∀ (j : Nat) v,(zc0 O cap σ)[j]? = some (some v)->σ6[j]? = some (some v):=fun j v e=>by
     by_cases hj : O.length <= j
     ·rw [w6 j hj]; exact e
     ·exfalso;unfold zc0 at e;rw [ay8 (by simpa using Nat.not_le.mp hj),ay9] at e;cases q : O[j]? with
      | none=>rw [q] at e; cases e
      | some z=>rw [q] at e; cases e
    cases ok with
    | false =>
     rw [if_neg by9] at q7 ⊢;refine za0 fun gG=>?_;obtain ⟨m',hm,w7⟩:=hNN _ _ q7;obtain ⟨b1,b2,b3,b4⟩:=back l6 I7 w6';refine gG ?_;clear gG;exact ⟨m',hm,i + 1,ys,us,k,H7,b1,b2,b3,b4,rv3,w7⟩
    | true =>
     rw [if_pos rfl] at q7 ⊢;have e7:=he' _ s7 σ6 H7 _ I7 q7;rw [eP,eW,eA,eE,eX] at e7;refine thn e7 fun y s8 zR=>?_;refine za0 fun gG=>?_;obtain ⟨z,H8,I8,r8,q8⟩:=zR;obtain ⟨m',hm,w8⟩:=hNN _ _ q8;obtain ⟨b1,b2,b3,b4⟩:=back l6 I8 w6';refine gG ?_;clear gG;have hzs : us.toArray.size <= by0:=by rw [by7,<- rv3.length]; exact hz
     refine append_at (hsz:=hzs) b4 fun h9 hs9 hD9=>?_;refine za0 fun gG=>?_;obtain ⟨f0,f1,f2',f3,f4,f5⟩:=fpok b3 s2.heap.objs.size by2;refine gG ?_;clear gG;have I9 : Inv X' [] (zc0 O cap σ) H8 { s8 with heap:=h9 }:=b1.turned (t':=s8.toks) (fun b o hb e=>(hs9.2 b hb).trans e) f0 f1 f3 f4 f5;refine ⟨m',hm,i + 1,ys++[z],us++[y],k + 1,H8,I9,T.keep _ _ _ b2 fun b hb o e=>(hs9.2 b fun q=>Dfp (by rw [<- q]; exact hb)).trans e,b3,?_,rv3.snoc r8,w8⟩;rw [hD9,List.push_toArray]
  ·rcases by8.mp hb with e | hb
   ·rw [e]; exact I2.hok.fresh (ay6 _)
   ·exact (f2 b hb).1
 exact codeAny_compStart_list (loop _ rfl) (T.self _ 0 _ _ _ (T.keep _ _ _ st2 (fun b _ o e=>k1 b o (k0 b o e))) (loop _ rfl))
theorem za24 (hc : X.calm = true) (S : zb7 X.N X.env.scope O F cap scope) (hi : PI X tg iter wi)
  (hg : ∀ cl C ex s H,PG (zb8 X (O++F) scope cl C ex s H) tg g) (ht : ∀ cl C ex s H,PTs (zb8 X (O++F) scope cl C ex s H) ifs tt) (he : ∀ cl C ex s H,PE (zb8 X (O++F) scope cl C ex s H) elt te)
  (ho : Own O.length g) (hs : ∀ x,ey2 iter X.env x = pure x:=by intro _; rfl) : PE X (.ListComp elt [⟨tg,iter,ifs,0⟩] scope pos) (za22 wi O cap g tt te):=by
 intro pins s σ H Q I h;rw [eval_ListComp];exact zG9 (use:=none) (R:=EP X pins σ Q) hc S hi hg ht he ho hs I h fun s4 D C H4 ys hm hDC hI fp q=>hm.elim fun m hm=>⟨m,hm,fun h' sb=>⟨.ref D,_,hI h' sb,rfl,q⟩⟩
theorem zc81 {i : Nat} {x : Str} {pos' spos : Pos} (hN : X.N.Nodup) (hix : X.N[i]? = some x) (hx : Loc X.env.scope x) (hc : X.calm = true) (S : zb7 X.N X.env.scope O F cap scope) (hi : PI X tg iter wi)
  (hg : ∀ cl C ex s H,PG (zb8 X (O++F) scope cl C ex s H) tg g) (ht : ∀ cl C ex s H,PTs (zb8 X (O++F) scope cl C ex s H) ifs tt) (he : ∀ cl C ex s H,PE (zb8 X (O++F) scope cl C ex s H) elt te)
  (ho : Own O.length g) (hsw : swapsWith (.ListComp elt [⟨tg,iter,ifs,0⟩] scope pos) (some (.Name x pos')) spos.line X.env = pure true:=by rfl) (hs : ∀ x,ey2 iter X.env x = pure x:=by intro _; rfl)
  (hf : X.fn x = true \/ X.env.scope.names.lookup x = some .local:=by first | exact .inl rfl | exact .inr rfl | assumption) :
  PS X (.Assign [.Name x pos'] (.ListComp elt [⟨tg,iter,ifs,0⟩] scope pos) spos) (tAsg (za22 wi O cap g tt te) (zm8 i)):=by
 intro pins s σ H D I h;rw [exec_Assign_Name_used _ _ _ _ hsw];refine ay0 (ly4 (ay0 ?_));show wpAny _ X.A (do let _ <- comprehension (.ListComp elt [⟨tg,iter,ifs,0⟩] scope pos) scope X.env _ (newList []) false (eval iter X.env) (some (assign (.Name x pos') X.env))) _ _ s;refine ay0 (fy2 (zG9 (R:=fun _ s'=>SP X pins D .next s') hc S hi hg ht he ho hs I h ?_) (fun _ s' hq=>ay1 (ay1 hq)) fun _ _ e=>e);intro s4 D' C H4 ys ⟨m,hm⟩ hDC hI fp q;show wpAny (model X.prog X.w) X.A (assign (.Name x pos') X.env (.ref D')) (fun _ s''=>∃ m,s''.heap.Ns C m /\ ∀ h',fy0 C s''.heap h'->SP X pins D .next { s'' with heap:=h' }) X.xe s4;refine za0 fun gG=>?_;obtain ⟨f0,f1,f2,f3,f4,f5⟩:=fp;refine gG ?_;clear gG;refine wpAny_assign_Name (zu7 (v:=.ref D') (hI s4.heap ⟨rfl,fun _ _=>rfl⟩) hN hix hx rfl (fun s5 I5 z=>?_) hf);refine za0 fun gG=>?_;obtain ⟨a,sb,ha⟩:=z;refine gG ?_;clear gG
 have hCa : C ≠ a:=by
  rcases ha with e | e
  ·rw [e]; exact f1
  ·exact fy4 (f4 x a e)
 refine ⟨m,hm.sameBut sb hCa,fun h' sb'=>?_⟩;exact ⟨_,upd H4 D' (.lst ys),I5.turned (t':=s5.toks) (fun b o hb e=>(sb'.2 b hb).trans e) f0 f1 f3 f4 f5,q⟩
end
structure Dat (d : PyData) : Prop where
 lay : d.canLay0 = true
 dep : d.depth <= 64
section
variable {X : Cx}
theorem zV0 {M : Model} {A : Around} {E : Value->Shared->Prop} {s : Shared} {a b : Value} {Q : Value->Shared->Prop} (ha : s.TypeIs a "list") (hb : s.TypeIs b "list")
  (hc : wpAny M A (call (.builtin "list.__iadd__") [a,b]) Q E s) : wpAny M A (inplaceOp .Add a b) Q E s:=by
 unfold inplaceOp;refine fy3 ?_;have hl : typeLookup (.type "list") (dunderI "add") = pure (some (.builtin "list.__iadd__")):=F.slot_list_iadd.lookup
 have hfi : fillsInplaceSlot (.type "list") "add" (Operator.Add == .Add) = pure false:=by
  unfold fillsInplaceSlot;show (typeLookup (.type "list") (dunderI "add") >>= fun fi=>pure (fi.isSome && !isSeqSlot fi)) = pure false;rw [hl];show (pure (_ && !isSeqSlot (some (.builtin "list.__iadd__"))) : Sem Bool) = pure false;rw [show isSeqSlot (some (.builtin "list.__iadd__")) = true by decide +kernel];rfl
 have hsi : seqSlot? (.type "list") (dunderI "add") = pure (some (.builtin "list.__iadd__")):=PySem.seqSlot_of (name:=dunderI "add") hl (by decide +kernel);refine ay0 (ty9 ha (ay0 (wpAny_of_eq hfi ?_)));show wpAny M A (if false = true then _ else _) Q E s;rw [if_neg by9];refine ay0 (wpAny_binaryOp1_none (nm := "add") ha hb noFill_list_add ?_);refine ay0 (wpAny_of_eq hsi ?_);exact ay0 (ny4 hc)
end
section
variable {X : Cx} {tg : Expr}
end
section
variable {X : Cx} {a b c d : Expr} {ta tb tc td : TE} {pos : Pos}
theorem zc82 : OpR X (my6 .Mult) (rI (fun i j=>gy7 i <= 2 ^ 20 /\ gy7 j <= 2 ^ 20) fun i j=>.int (i * j)):=opI fun _ _ _ _ _ _ _ hc q=>mul_int q (IntMulOk.of_bits hc.1 hc.2)
end
end L2
namespace L2
open PySem PySem.Spec PyProof.Rows PySem.W
theorem zv2 : ∀ {ns : List Int} {n : Int},n∈ns->gy7 n <= WData.weightAll (ns.map WData.int)
 | m :: ns,n,h=>by
  simp only [ey6,WData.weightAll];rcases by8.mp h with rfl | h
  ·have : gy7 n = WData.weight (.int n):=by simp [WData.weight,gy7]
   omega
  ·have:=zv2 h;omega
theorem zb47 {l : PySem.W.OpenLaw} {n k : Nat} {q : cy6} {loose : List Str} {XP : (Str->Option Value)->Heap->Prop} {YP : World->Heap->Prop} {d : DefRec} {K : Params->ay4} {CX : World->CXT} {sp : World->Sp} {x : Str}
  (hn : l.most = some n) (hn2 : n <= by0) (hdf : d.params.defaults = []) (hr : zz0 k callerA)
  (hY : ∀ (w : World) (h : Heap),YP w h->(K w.params).In h)
  (F : ∀ (w : World) (mg : Str->Option Value) (fa : Addr) (h : Heap),(K w.params).In h->h.Ns cy2 mg->mg d.name = some (.ref fa) ->
   ∃ fd : ey4,(∀ (s : Shared) (u : Value),BindsTo s fd ⟨[u],[]⟩ [(x,u)]) /\
    ∀ base : Heap,(K w.params).In base->base.Ns cy2 mg->zj9 l.prog w (K w.params) mg base (CX w) k fa fd [x] (sp w))
  (hsp : ∀ (w : World) (H : Hp) (a : Addr) (ns : List Int),ns.length <= n->(∀ m∈ns,gy7 m <= 2 ^ 20)->Only H->SqL (K w.params) H a (ns.map V.int)->sp w [.ref a] H (fun v _=>v = .bl true) fun _ _ _=>False)
  (hCX : ∀ (w : World) (H : Hp) (s : Shared) (e : Value) (s' : Shared),CX w [] H s (fun _ _ _=>False) e s'->False) :
  PySem.W.WalkO q loose XP YP l.row.toRowW d [] (fun f vs=>PySem.call f vs):=by
 intro w s₀ s₁ mg mb G Y fa o pm cd doc dV kV ho hd hcd hD hmg hg args vals as hpre hlay hrd hwl hlo;obtain rfl : dV = .none:=Dflts.none hD hdf;obtain rfl : kV = .none:=Dflts.noKw hD;refine za0 fun gG=>?_;obtain ⟨a,vs,ns,rfl,rfl,hobj,hints,hlen⟩:=Att.za19 hn hpre hwl;have KX:=hY w _ Y;obtain ⟨fd,hb,hF⟩:=F w mg fa _ KX G.T.g hmg;refine gG ?_;clear gG
 have hbits : ∀ m∈ns,gy7 m <= 2 ^ 20:=fun m hm=>by
  have h1:=(layableW_iff.mp (layW_cons hlay).1).2.2;have h2:=zv2 hm;have e : WData.weight (.list (ns.map WData.int)) = WData.weightAll (ns.map WData.int):=by simp [WData.weight]
  rw [e] at h1;exact ey0 h2 h1
 refine PySem.W.enter_call (codeAny_mono (zb39 KX G.T.g G.T.b G.T.builtins G.T.nolimit hg hobj hints (ey0 hlen hn2) hr hF hb (fun H hO hS=>hsp w H a ns hlen hbits hO hS) fun H e s'=>hCX w H s₁ e s') fun r s' hq=>?_);refine za0 fun gG=>?_;obtain ⟨rfl,h2,h3,h4⟩:=hq;refine gG ?_;clear gG;exact ⟨.inl ⟨.bool true,.bool true,[],rfl,fun _=>rfl,.bool true,Att.za20 l _,fun _=>⟨List.Pairwise.nil,fun _ hm=>(nomatch hm)⟩⟩,h2,h3,h4⟩
end L2
namespace L2
open PySem PySem.Spec PyProof.Rows
section
variable {α β : Type} {F G : α->β->Prop}
theorem zg1 (h : ∀ a b,F a b->G a b) {l : List α} {m : List β} (p : Paired F l m) : Paired G l m:=by
 induction p with
 | nil=>exact .nil
 | cons a t ih=>exact .cons (h _ _ a) ih
theorem zi8 : ∀ {l : List α} {m : List β} {i : Nat} {a : α},Paired F l m->l[i]? = some a->∃ b,m[i]? = some b /\ F a b
 | _,_,_,_,.nil,e=>by simp at e
 | _,_,0,_,.cons h _,e=>by simp at e; subst e; exact ⟨_,rfl,h⟩
 | _,_,i + 1,a,.cons _ t,e=>by
  refine za0 fun gG=>?_;obtain ⟨b,h1,h2⟩:=zi8 (i:=i) (a:=a) t (by simpa using e);refine gG ?_;clear gG;exact ⟨b,by simpa using h1,h2⟩
theorem zf3 : ∀ {l : List α} {m : List β} {i : Nat} {b : β},Paired F l m->m[i]? = some b->∃ a,l[i]? = some a /\ F a b
 | _,_,_,_,.nil,e=>by simp at e
 | _,_,0,_,.cons h _,e=>by simp at e; subst e; exact ⟨_,rfl,h⟩
 | _,_,i + 1,b,.cons _ t,e=>by
  refine za0 fun gG=>?_;obtain ⟨a,h1,h2⟩:=zf3 (i:=i) (b:=b) t (by simpa using e);refine gG ?_;clear gG;exact ⟨a,by simpa using h1,h2⟩
theorem zb2 : ∀ {l : List α} {m : List β},Paired F l m->l.length = m.length
 | _,_,.nil=>rfl
 | _,_,.cons _ t=>by simp [zb2 t]
theorem zo0 {l l' : List α} {m m' : List β} (h : Paired F l m) (s : Paired F l' m') : Paired F (l++l') (m++m'):=by
 induction h with
 | nil=>exact s
 | cons h t ih=>exact .cons h ih
theorem zB3 : ∀ {l : List α} {m : List β} (n : Nat),Paired F l m->Paired F (l.take n) (m.take n)
 | _,_,0,_=>.nil
 | _,_,_ + 1,.nil=>.nil
 | _,_,n + 1,.cons r t=>.cons r (zB3 n t)
theorem zB4 : ∀ {l : List α} {m : List β} (n : Nat),Paired F l m->Paired F (l.drop n) (m.drop n)
 | _,_,0,r=>r
 | _,_,_ + 1,.nil=>.nil
 | _,_,n + 1,.cons _ t=>zB4 n t
theorem zc29 {a : α} {b : β} (r : F a b) : ∀ {l : List α} {m : List β} (i : Nat),Paired F l m->Paired F (l.set i a) (m.set i b)
 | _,_,_,.nil=>.nil
 | _,_,0,.cons _ t=>.cons r t
 | _,_,i + 1,.cons q t=>.cons q (zc29 r i t)
theorem zc30 {γ : Type} {f : γ->α} {l : List γ} {m : List β} (h : Paired (fun c b=>F (f c) b) l m) : Paired F (l.map f) m:=by
 induction h with
 | nil=>exact .nil
 | cons r _ ih=>exact .cons r ih
theorem zP6 {γ : Type} {f : γ->α} {l : List γ} : ∀ {m : List β},Paired F (l.map f) m->Paired (fun c b=>F (f c) b) l m:=by
 induction l with
 | nil=>intro m h; cases h; exact .nil
 | cons c l ih=>intro m h; cases h with
  | cons r t=>exact .cons r (ih t)
end
mutual
inductive Rq (K : ay4) (F : Hp) : V->PyData->Prop
 | non : Rq K F .non .none
 | bl (b : Bool) : Rq K F (.bl b) (.bool b)
 | int (i : Int) : Rq K F (.int i) (.int i)
 | str (x : Str) : Rq K F (.str x) (.str x)
 | lst {a : Addr} {vs : List V} {ds : List PyData} : Rd F a (.lst vs)->Rqs K F vs ds->Rq K F (.ref a) (.list ds)
 | tup {a : Addr} {vs : List V} {ds : List PyData} : SqT K F a vs->Rqs K F vs ds->Rq K F (.ref a) (.tuple ds)
 | dct {a : Addr} : F a = some (.dK [])->Rq K F (.ref a) (.dict [])
inductive Rqs (K : ay4) (F : Hp) : List V->List PyData->Prop
 | nil : Rqs K F [] []
 | cons {v : V} {d : PyData} {vs : List V} {ds : List PyData} : Rq K F v d->Rqs K F vs ds->Rqs K F (v :: vs) (d :: ds)
end
theorem zm1.rd {H H' : Hp} {a : Addr} {u : HO} (e : zm1 H H') (h : Rd H a u) : Rd H' a u:=by
 rcases h with h | ⟨o,h⟩
 ·exact .inl (e _ _ h)
 ·exact .inr ⟨o,e _ _ h⟩
theorem zm1.zt9 {K : ay4} {H H' : Hp} {a : Addr} {xs : List V} (e : zm1 H H') (h : SqT K H a xs) : SqT K H' a xs:=by
 rcases h with (h | ⟨o,h⟩) | h
 ·exact .inl (.inl (e _ _ h))
 ·exact .inl (.inr ⟨o,e _ _ h⟩)
 ·exact .inr h
mutual
theorem Rq.same {K : ay4} {H H' : Hp} (s : zm1 H H') : ∀ (d : PyData) {v : V},Rq K H v d->Rq K H' v d
 | .none,_,h=>by cases h; exact .non
 | .bool _,_,h=>by cases h; exact .bl _
 | .int _,_,h=>by cases h; exact .int _
 | .str _,_,h=>by cases h; exact .str _
 | .list ds,_,h=>by cases h with | lst e r=>exact .lst (s.rd e) (Rqs.same s ds r)
 | .tuple ds,_,h=>by cases h with | tup e r=>exact .tup (s.zt9 e) (Rqs.same s ds r)
 | .dict _,_,h=>by cases h with | dct e=>exact .dct (s _ _ e)
theorem Rqs.same {K : ay4} {H H' : Hp} (s : zm1 H H') : ∀ (ds : List PyData) {vs : List V},Rqs K H vs ds->Rqs K H' vs ds
 | [],_,.nil=>.nil
 | d :: ds,_,.cons r t=>.cons (Rq.same s d r) (Rqs.same s ds t)
end
theorem Rqs.pd {K : ay4} {H : Hp} : ∀ {vs : List V} {ds : List PyData},Rqs K H vs ds->Paired (fun d v=>Rq K H v d) ds vs
 | _,_,.nil=>.nil
 | _,_,.cons r t=>.cons r (Rqs.pd t)
theorem Rqs.of {K : ay4} {H : Hp} : ∀ {ds : List PyData} {vs : List V},Paired (fun d v=>Rq K H v d) ds vs->Rqs K H vs ds
 | _,_,.nil=>.nil
 | _,_,.cons r t=>.cons r (Rqs.of t)
theorem Rq.zg9 {K : ay4} {H : Hp} {v : V} {x : Str} (r : Rq K H v (.str x)) : v = .str x:=by cases r; rfl
theorem Rq.zd1 {K : ay4} {H : Hp} {v : V} {x : Int} (r : Rq K H v (.int x)) : v = .int x:=by cases r; rfl
theorem Rq.zv3 {K : ay4} {H : Hp} {v : V} {x : Bool} (r : Rq K H v (.bool x)) : v = .bl x:=by cases r; rfl
theorem Rq.zc31 {K : ay4} {H : Hp} {v : V} (r : Rq K H v .none) : v = .non:=by cases r; rfl
theorem Rq.zh6 {K : ay4} {H : Hp} {v : V} {ds : List PyData} (r : Rq K H v (.tuple ds)) : ∃ a vs,v = .ref a /\ SqT K H a vs /\ Paired (fun d v=>Rq K H v d) ds vs:=by
 cases r with
 | tup h t=>exact ⟨_,_,rfl,h,t.pd⟩
theorem Rq.zz3 {K : ay4} {H : Hp} {v : V} {ds : List PyData} (r : Rq K H v (.list ds)) : ∃ a vs,v = .ref a /\ Rd H a (.lst vs) /\ Paired (fun d v=>Rq K H v d) ds vs:=by
 cases r with
 | lst h t=>exact ⟨_,_,rfl,h,t.pd⟩
mutual
theorem Rq.reads {X : Cx} {pins : List (Addr × Obj)} {σ : St} {H : Hp} {s : Shared} (I : Inv X pins σ H s) : ∀ (d : PyData) {v : V} {u : Value},d.canLay0 = true->Rq X.K H v d->RelV v u->∃ as,Reads s.heap u d as
 | .none,_,_,_,h,r=>by cases h; cases r; exact ⟨_,.none⟩
 | .bool b,_,_,_,h,r=>by cases h; cases r; exact ⟨_,.bool b⟩
 | .int i,_,_,_,h,r=>by cases h; obtain ⟨t,rfl⟩:=r; exact ⟨_,.int i t⟩
 | .str x,_,_,_,h,r=>by cases h; obtain ⟨t,rfl⟩:=r; exact ⟨_,.str x t⟩
 | .list ds,_,_,c,h,r=>by
  cases h
  rename_i e q
  cases r;refine za0 fun gG=>?_;obtain ⟨its,rv,⟨o,n,ho,hc,_,hd⟩,_⟩:=I.list (.inl e);obtain ⟨as,h⟩:=Rqs.reads I ds (by simpa [sy5] using c) q rv;refine gG ?_;clear gG;exact ⟨_,.list ho hc hd (by simpa using h)⟩
 | .tuple ds,_,_,c,h,r=>by
  cases h
  rename_i e q
  cases r;refine za0 fun gG=>?_;obtain ⟨its,rv,⟨o,ho,hc,n,hd⟩,_⟩:=I.tuple e;obtain ⟨as,h⟩:=Rqs.reads I ds (by simpa [sy5] using c) q rv;refine gG ?_;clear gG;exact ⟨_,.tuple ho hc hd (by simpa using h)⟩
 | .dict _,_,_,c,_,r=>by simp [sy5] at c
theorem Rqs.reads {X : Cx} {pins : List (Addr × Obj)} {σ : St} {H : Hp} {s : Shared} (I : Inv X pins σ H s) : ∀ (ds : List PyData) {vs : List V} {us : List Value},ky9 ds = true->Rqs X.K H vs ds->Vals vs us->∃ as,ReadsAll s.heap us ds as
 | [],_,_,_,.nil,r=>by cases r; exact ⟨_,.nil⟩
 | d :: ds,_,_,c,.cons q t,r=>by
  cases r with
  | cons r1 r2 =>
   simp [ky9] at c;refine za0 fun gG=>?_;obtain ⟨as,h⟩:=Rq.reads I d c.1 q r1;obtain ⟨bs,h'⟩:=Rqs.reads I ds c.2 t r2;refine gG ?_;clear gG;exact ⟨_,.cons h h'⟩
end
inductive El where
 | d (x : PyData)
 | o (k : Nat)
 | s (ns : List Int)
 | x (C : Addr)
 | p (ks : List Key)
 | t (xs : List (Sum PyData Nat))
inductive OD where
 | lst (xs : List El)
 | dK (kvs : List (Key × El))
 | dT (kvs : List (List Key × El))
 | fT (o : Obj) (kvs : List (List Key × El))
 | fK (o : Obj) (kvs : List (Key × El))
abbrev Wl:=List OD
abbrev Sl:=List (Option El)
def excO (a C : Addr) : HO:=.ext fun h=>∃ o,h.get? a = some o /\ o.cls = .ref C
def TiR (K : ay4) (F : Hp) (A : List Addr) : Sum PyData Nat->V->Prop
 | .inl d,v=>Rq K F v d
 | .inr k,v=>∃ a,A[k]? = some a /\ v = .ref a
def ElR (K : ay4) (F : Hp) (A : List Addr) : El->V->Prop
 | .d x,v=>Rq K F v x
 | .o k,v=>∃ a,A[k]? = some a /\ v = .ref a
 | .s ns,v=>∃ a,v = .ref a /\ SqL K F a (ns.map V.int)
 | .x C,v=>∃ a,v = .ref a /\ F a = some (excO a C)
 | .p ks,v=>∃ a,v = .ref a /\ F a = some (.tup (ks.map kV))
 | .t xs,v=>∃ a vs,v = .ref a /\ F a = some (.tup vs) /\ Paired (TiR K F A) xs vs
theorem ElR.dd {K : ay4} {F : Hp} {A : List Addr} {x : PyData} {v : V} (h : Rq K F v x) : ElR K F A (.d x) v:=h
theorem ElR.oo {K : ay4} {F : Hp} {A : List Addr} {k : Nat} {a : Addr} (h : A[k]? = some a) : ElR K F A (.o k) (.ref a):=⟨a,h,rfl⟩
def KeysIn (F : Hp) (o : Obj) (ks : List (List Key)) : Prop:=∃ es ep,o.ExactDict /\ o.data = .dict es ep /\ es.size = ks.length /\ ∀ (i : Nat) k,ks[i]? = some k->∃ en b,es[i]? = some en /\ en.key = .ref b /\ F b = some (.tup (k.map kV))
theorem KeysIn.same {F F' : Hp} {o : Obj} {ks : List (List Key)} (h : KeysIn F o ks) (s : zm1 F F') : KeysIn F' o ks:=by
 refine za0 fun gG=>?_;obtain ⟨es,ep,h1,h2,h3,h4⟩:=h;refine gG ?_;clear gG;refine ⟨es,ep,h1,h2,h3,fun i k hk=>?_⟩;refine za0 fun gG=>?_;obtain ⟨en,b,e1,e2,e3⟩:=h4 i k hk;refine gG ?_;clear gG;exact ⟨en,b,e1,e2,s _ _ e3⟩
def OdR (K : ay4) (F : Hp) (A : List Addr) : OD->HO->Prop
 | .lst es,h=>∃ vs,h = .lst vs /\ Paired (ElR K F A) es vs
 | .dK kvs,h=>∃ vs,h = .dK vs /\ Paired (fun p q=>p.1 = q.1 /\ ElR K F A p.2 q.2) kvs vs
 | .dT kvs,h=>∃ vs,h = .dT vs /\ Paired (fun p q=>p.1 = q.1 /\ ElR K F A p.2 q.2) kvs vs
 | .fT o kvs,h=>∃ vs,(h = .frz o (.dT vs) /\ KeysIn F o (kvs.map (·.1))) /\ Paired (fun p q=>p.1 = q.1 /\ ElR K F A p.2 q.2) kvs vs
 | .fK o kvs,h=>∃ vs,h = .frz o (.dK vs) /\ Paired (fun p q=>p.1 = q.1 /\ ElR K F A p.2 q.2) kvs vs
structure RW (K : ay4) (F : Hp) (A : List Addr) (W : Wl) (H : Hp) : Prop where
 sub : zm1 F H
 len : A.length = W.length
 nd : A.Nodup
 out : ∀ a∈A,F a = none
 obj : ∀ (k : Nat) a o,A[k]? = some a->W[k]? = some o->∃ h,H a = some h /\ OdR K F A o h
structure SR (K : ay4) (F : Hp) (A : List Addr) (S : Sl) (σ : St) : Prop where
 len : S.length = σ.length
 get : ∀ (i : Nat) e,S[i]? = some (some e)->∃ v,σ[i]? = some (some v) /\ ElR K F A e v
structure Ext (F : Hp) (A : List Addr) (F' : Hp) (A' : List Addr) : Prop where
 same : zm1 F F'
 pre : A <+: A'
section
variable {K : ay4} {F F' F1 F2 : Hp} {A A' A1 A2 : List Addr} {W W' : Wl} {H H' : Hp}
theorem Ext.refl : Ext F A F A:=⟨.refl _,ry7 _⟩
theorem Ext.trans (a : Ext F A F1 A1) (b : Ext F1 A1 F2 A2) : Ext F A F2 A2:=⟨a.same.trans b.same,a.pre.trans b.pre⟩
theorem zv4 {A A' : List Addr} (h : A <+: A') {k : Nat} {a : Addr} (e : A[k]? = some a) : A'[k]? = some a:=by
 refine za0 fun gG=>?_;obtain ⟨r,rfl⟩:=h;refine gG ?_;clear gG;rw [ay8 (by obtain ⟨q,_⟩:=ay3.mp e; exact q)];exact e
theorem TiR.ext (x : Ext F A F' A') : ∀ {e : Sum PyData Nat} {v : V},TiR K F A e v->TiR K F' A' e v
 | .inl _,_,h=>Rq.same x.same _ h
 | .inr _,_,⟨a,h,r⟩=>⟨a,zv4 x.pre h,r⟩
theorem ElR.ext (x : Ext F A F' A') : ∀ {e : El} {v : V},ElR K F A e v->ElR K F' A' e v
 | .d _,_,h=>Rq.same x.same _ h
 | .o _,_,⟨a,h,r⟩=>⟨a,zv4 x.pre h,r⟩
 | .s _,_,⟨a,h,r⟩=>⟨a,h,x.same.seq r⟩
 | .x _,_,⟨a,h,r⟩=>⟨a,h,x.same _ _ r⟩
 | .p _,_,⟨a,h,r⟩=>⟨a,h,x.same _ _ r⟩
 | .t _,_,⟨a,vs,h,r,p⟩=>⟨a,vs,h,x.same _ _ r,zg1 (fun _ _ z=>z.ext x) p⟩
theorem OdR.ext (x : Ext F A F' A') : ∀ {o : OD} {h : HO},OdR K F A o h->OdR K F' A' o h
 | .lst _,_,⟨vs,e,p⟩=>⟨vs,e,zg1 (fun _ _ r=>r.ext x) p⟩
 | .dK _,_,⟨vs,e,p⟩=>⟨vs,e,zg1 (fun _ _ r=>⟨r.1,r.2.ext x⟩) p⟩
 | .dT _,_,⟨vs,e,p⟩=>⟨vs,e,zg1 (fun _ _ r=>⟨r.1,r.2.ext x⟩) p⟩
 | .fT _ _,_,⟨vs,⟨e,ki⟩,p⟩=>⟨vs,⟨e,ki.same x.same⟩,zg1 (fun _ _ r=>⟨r.1,r.2.ext x⟩) p⟩
 | .fK _ _,_,⟨vs,e,p⟩=>⟨vs,e,zg1 (fun _ _ r=>⟨r.1,r.2.ext x⟩) p⟩
theorem SR.ext {S : Sl} {σ : St} (r : SR K F A S σ) (x : Ext F A F' A') : SR K F' A' S σ:=⟨r.len,fun i e h=>by
 refine za0 fun gG=>?_;obtain ⟨v,h1,h2⟩:=r.get i e h;refine gG ?_;clear gG
 exact ⟨v,h1,h2.ext x⟩⟩
theorem SR.set {S : Sl} {σ : St} (r : SR K F A S σ) {e : El} {v : V} (h : ElR K F A e v) (i : Nat) : SR K F A (S.set i (some e)) (σ.set i (some v)):=⟨by simp [r.len],fun j e' q=>by
 by_cases hj : i = j
 ·subst hj
  have hi : i < S.length:=by
   have:=(ay3.mp q).1;simpa using this
  rw [fy9 hi] at q;cases q;exact ⟨v,by rw [fy9 (by rw [<- r.len]; exact hi)],h⟩
 ·rw [cy8 hj] at q;refine za0 fun gG=>?_;obtain ⟨v',h1,h2⟩:=r.get j e' q;refine gG ?_;clear gG
  exact ⟨v',by rw [cy8 hj]; exact h1,h2⟩⟩
theorem RW.ze04 (r : RW K F A W H) {p : Addr} (h : H p = none) : p ∉ A:=fun z=>by
 obtain ⟨k,hk⟩:=gy5.mp z;have hl : k < W.length:=by rw [<- r.len]; exact (ay3.mp hk).1
 refine za0 fun gG=>?_;obtain ⟨o,e,_⟩:=r.obj k p W[k] hk (by simp [hl]);refine gG ?_;clear gG;rw [h] at e;cases e
theorem zk0 {F : Hp} {p : Addr} {o : HO} (h : F p = none) : zm1 F (upd F p o):=fun b o' e=>by rw [za8 (za6 e h)]; exact e
theorem zb48 {F H : Hp} (s : zm1 F H) {p : Addr} {o : HO} : zm1 (upd F p o) (upd H p o):=fun b o' e=>by
 by_cases hb : b = p
 ·subst hb; rw [zb3] at e ⊢; exact e
 ·rw [za8 hb] at e ⊢; exact s _ _ e
theorem RW.newF (r : RW K F A W H) {p : Addr} (h : H p = none) (o : HO) : RW K (upd F p o) A W (upd H p o) /\ Ext F A (upd F p o) A:=by
 have hp:=r.ze04 h;have x : Ext F A (upd F p o) A:=⟨zk0 (r.sub.free h),ry7 _⟩
 refine ⟨⟨zb48 r.sub,r.len,r.nd,fun a ha=>?_,fun k a o' hk hw=>?_⟩,x⟩
 ·rw [za8 (fun z=>hp (by rw [<- z]; exact ha))];exact r.out a ha
 ·refine za0 fun gG=>?_;obtain ⟨u,e,q⟩:=r.obj k a o' hk hw;refine gG ?_;clear gG;exact ⟨u,by rw [za8 (za6 e h)]; exact e,q.ext x⟩
theorem RW.newO (r : RW K F A W H) {p : Addr} (h : H p = none) {o : OD} {u : HO} (q : OdR K F A o u) : RW K F (A++[p]) (W++[o]) (upd H p u) /\ Ext F A F (A++[p]):=by
 have hp:=r.ze04 h;have x : Ext F A F (A++[p]):=⟨.refl _,List.prefix_append _ _⟩
 refine ⟨⟨fun b o' e=>by rw [za8 (za6 (r.sub _ _ e) h)]; exact r.sub _ _ e,by simp [r.len],?_,fun a ha=>?_,fun k a o' hk hw=>?_⟩,x⟩
 ·rw [List.nodup_append];exact ⟨r.nd,by simp,fun a ha b hb=>by simp at hb; subst hb; exact fun z=>hp (z ▸ ha)⟩
 ·rcases dy9.mp ha with ha | ha
  ·exact r.out a ha
  ·simp at ha; subst ha; exact r.sub.free h
 ·by_cases hl : k < A.length
  ·rw [ay8 hl] at hk;rw [ay8 (by rw [<- r.len]; exact hl)] at hw;refine za0 fun gG=>?_;obtain ⟨u',e,q'⟩:=r.obj k a o' hk hw;refine gG ?_;clear gG;exact ⟨u',by rw [za8 (za6 e h)]; exact e,q'.ext x⟩
  ·have hk' : k = A.length:=by
    have:=(ay3.mp hk).1;simp at this;omega
   subst hk';rw [cy7 (ay6 _)] at hk;rw [cy7 (by rw [r.len]; exact ay6 _)] at hw;simp at hk;simp [r.len] at hw;subst hk hw;exact ⟨u,zb3,q.ext x⟩
theorem RW.put (r : RW K F A W H) {k : Nat} {a : Addr} (hk : A[k]? = some a) {o : OD} {u : HO} (q : OdR K F A o u) : RW K F A (W.set k o) (upd H a u):=by
 have ha : a∈A:=cy3 hk;refine ⟨fun b o' e=>?_,by simp [r.len],r.nd,r.out,fun j b o' hj hw=>?_⟩
 ·have : b ≠ a:=fun z=>by subst z; rw [r.out _ ha] at e; cases e
  rw [za8 this]; exact r.sub _ _ e
 ·by_cases hjk : k = j
  ·subst hjk;rw [hk] at hj;cases hj;have hl : k < W.length:=by rw [<- r.len]; exact (ay3.mp hk).1
   rw [fy9 hl] at hw;cases hw;exact ⟨u,zb3,q⟩
  ·rw [cy8 hjk] at hw;refine za0 fun gG=>?_;obtain ⟨u',e,q'⟩:=r.obj j b o' hj hw;refine gG ?_;clear gG
   have : b ≠ a:=fun z=>by
    subst z;have h1:=(ay3.mp hj)
    have h2:=(ay3.mp hk)
    refine za0 fun gG=>?_;obtain ⟨l1,e1⟩:=h1;obtain ⟨l2,e2⟩:=h2;refine gG ?_;clear gG;exact hjk ((jy8 r.nd).mp (e2.trans e1.symm))
   exact ⟨u',by rw [za8 this]; exact e,q'⟩
theorem RW.grew (r : RW K F A W H) (s : zm1 H H') {p : Addr} {vs : List V} (h : H' p = some (.tup vs)) : ∃ F',zm1 F F' /\ F' p = some (.tup vs) /\ RW K F' A W H':=by
 have hp : p ∉ A:=fun z=>by
  obtain ⟨k,hk⟩:=gy5.mp z;have hl : k < W.length:=by rw [<- r.len]; exact (ay3.mp hk).1
  refine za0 fun gG=>?_;obtain ⟨o,e,q⟩:=r.obj k p W[k] hk (by simp [hl]);refine gG ?_;clear gG;rw [s _ _ e] at h;cases h;generalize W[k] = oo at q;cases oo with
  | lst es=>obtain ⟨vs,e,_⟩:=q; cases e
  | dK es=>obtain ⟨vs,e,_⟩:=q; cases e
  | dT es=>obtain ⟨vs,e,_⟩:=q; cases e
  | fT o es=>obtain ⟨vs,⟨e,_⟩,_⟩:=q; cases e
  | fK o es=>obtain ⟨vs,e,_⟩:=q; cases e
 have sF : zm1 F (upd F p (.tup vs)):=fun b o e=>by
  by_cases hb : b = p
  ·subst hb;have:=s _ _ (r.sub _ _ e);rw [h] at this;rw [zb3];exact this
  ·rw [za8 hb]; exact e
 have x : Ext F A (upd F p (.tup vs)) A:=⟨sF,ry7 _⟩
 refine ⟨upd F p (.tup vs),sF,zb3,⟨fun b o e=>?_,r.len,r.nd,fun a ha=>?_,fun k a o hk hw=>?_⟩⟩
 ·by_cases hb : b = p
  ·subst hb; rw [zb3] at e; cases e; exact h
  ·rw [za8 hb] at e; exact s _ _ (r.sub _ _ e)
 ·rw [za8 (fun z=>hp (by rw [<- z]; exact ha))]; exact r.out a ha
 ·refine za0 fun gG=>?_;obtain ⟨u,e,q⟩:=r.obj k a o hk hw;refine gG ?_;clear gG;exact ⟨u,s _ _ e,q.ext x⟩
end
abbrev KB:=El->Wl->Prop
def zq4 (K : ay4) (F : Hp) (A : List Addr) (k : KB) (Q : VK) : Prop:=∀ F' A' W' H' e v,Ext F A F' A'->RW K F' A' W' H'->ElR K F' A' e v->k e W'->Q v H'
section
variable {K : ay4} {F F1 : Hp} {A A1 : List Addr} {W : Wl} {H H' : Hp} {k : KB} {Q : VK}
theorem zq4.ext (q : zq4 K F A k Q) (x : Ext F A F1 A1) : zq4 K F1 A1 k Q:=fun F' A' W' H' e v y r z h=>q F' A' W' H' e v (x.trans y) r z h
theorem zq4.same (q : zq4 K F A k Q) (r : RW K F A W H) {e : El} {v : V} (z : ElR K F A e v) (h : k e W) : Q v H:=q F A W H e v .refl r z h
theorem zq4.newT (q : zq4 K F A k Q) (r : RW K F A W H) {p : Addr} (hp : H p = none) {vs : List V} {ds : List PyData} (z : Paired (fun d v=>Rq K F v d) ds vs) (h : k (.d (.tuple ds)) W) : Q (.ref p) (upd H p (.tup vs)):=by
 obtain ⟨r',x⟩:=r.newF hp (.tup vs);exact q _ _ _ _ _ _ x r' (.dd (Rq.tup (SqT.of zb3) (Rqs.of (zg1 (fun _ _ t=>Rq.same x.same _ t) z)))) h
theorem zq4.newL (q : zq4 K F A k Q) (r : RW K F A W H) {p : Addr} (hp : H p = none) {vs : List V} {ds : List PyData} (z : Paired (fun d v=>Rq K F v d) ds vs) (h : k (.d (.list ds)) W) : Q (.ref p) (upd H p (.lst vs)):=by
 obtain ⟨r',x⟩:=r.newF hp (.lst vs);exact q _ _ _ _ _ _ x r' (.dd (Rq.lst (.inl zb3) (Rqs.of (zg1 (fun _ _ t=>Rq.same x.same _ t) z)))) h
theorem zq4.newO (q : zq4 K F A k Q) (r : RW K F A W H) {p : Addr} (hp : H p = none) {o : OD} {u : HO} (z : OdR K F A o u) (h : k (.o W.length) (W++[o])) : Q (.ref p) (upd H p u):=by
 obtain ⟨r',x⟩:=r.newO hp z;exact q _ _ _ _ _ _ x r' (ElR.oo (k:=W.length) (by rw [<- r.len]; simp)) h
theorem zq4.put (q : zq4 K F A k Q) (r : RW K F A W H) {j : Nat} {a : Addr} (hj : A[j]? = some a) {o : OD} {u : HO} (z : OdR K F A o u) {e : El} {v : V} (zv : ElR K F A e v) (h : k e (W.set j o)) : Q v (upd H a u) :=
 q _ _ _ _ _ _ .refl (r.put hj z) zv h
end
structure Bc extends Cx where
 F0 : Hp
 A0 : List Addr
 xk : Addr->Sl->Wl->Prop
instance : Coe Bc Cx:=⟨Bc.toCx⟩
abbrev Bc.Am (X : Bc) (F : Hp) (A : List Addr) : Prop:=Ext X.F0 X.A0 F A
def tD (X : Bc) (S : Sl) (W : Wl) (k : KB) : TE:=fun σ H Q=>∃ F A,X.Am F A /\ RW X.K F A W H /\ SR X.K F A S σ /\ zq4 X.K F A k Q
def BE (X : Bc) (S : Sl) (W : Wl) (e : Expr) (k : KB) : Prop:=PE X e (tD X S W k)
def tU (X : Bc) (e : Expr) : TE:=fun σ H Q=>∃ t,PE X e t /\ t σ H Q
theorem zi7 {X : Bc} {e : Expr} : PE X e (tU X e):=fun pins s σ H Q I zR=>by obtain ⟨t,h,q⟩:=zR; exact h pins s σ H Q I q
theorem BE.use {X : Bc} {S : Sl} {W : Wl} {e : Expr} {k : KB} (h : BE X S W e k) {F : Hp} {A : List Addr} {σ : St} {H : Hp} {Q : VK} (x0 : X.Am F A) (r : RW X.K F A W H) (s : SR X.K F A S σ)
  (q : ∀ F' A' W' H' e v,Ext F A F' A'->RW X.K F' A' W' H'->ElR X.K F' A' e v->k e W'->Q v H') : tU X e σ H Q:=⟨_,h,F,A,x0,r,s,q⟩
theorem BE.of {X : Bc} {S : Sl} {W : Wl} {e : Expr} {k : KB} {t : TE} (h : PE X e t) (i : ∀ F A σ H Q,X.Am F A->RW X.K F A W H->SR X.K F A S σ->zq4 X.K F A k Q->t σ H Q) : BE X S W e k :=
 fun pins s σ H Q I zR=>by obtain ⟨F,A,x0,r,sr,q⟩:=zR; exact h pins s σ H Q I (i F A σ H Q x0 r sr q)
theorem BE.mono {X : Bc} {S : Sl} {W : Wl} {e : Expr} {k k' : KB} (h : BE X S W e k) (hk : ∀ x W,k x W->k' x W) : BE X S W e k' :=
 .of h fun F A σ H Q x0 r sr q=>⟨F,A,x0,r,sr,fun F' A' W' H' e v x r z hh=>q F' A' W' H' e v x r z (hk _ _ hh)⟩
section
variable {X : Bc} {S : Sl} {W : Wl} {k : KB}
theorem ze06 {i : Nat} {x : Str} {pos : Pos} {e : El} (hN : X.N[i]? = some x) (hv : Vis X.env.scope x) (hs : S[i]? = some (some e)) (h : k e W) (hd : (x == ("__debug__" : Str)) = false:=by decide) (hcd : (x == ("__classdict__" : Str)) = false:=by decide) : BE X S W (.Name x pos) k :=
 .of (zd66 hN hv hd hcd) fun F A σ H Q x0 r sr q=>by
  refine za0 fun gG=>?_;obtain ⟨v,h1,h2⟩:=sr.get i e hs;refine gG ?_;clear gG;exact ⟨v,h1,q.same r h2 h⟩
theorem zb0 {i j pos} (h : k (.d (.int i)) W) : BE X S W (.Constant (.int i) j pos) k:=.of zd67 fun F A σ H Q x0 r sr q=>q.same r (.dd (Rq.int i)) h
theorem za25 {b j pos} (h : k (.d (.bool b)) W) : BE X S W (.Constant (.bool b) j pos) k:=.of ze93 fun F A σ H Q x0 r sr q=>q.same r (.dd (Rq.bl b)) h
theorem zs1 {j pos} (h : k (.d .none) W) : BE X S W (.Constant .none j pos) k:=.of zd68 fun F A σ H Q x0 r sr q=>q.same r (.dd Rq.non) h
theorem zc3 {x j pos} (h : k (.d (.str x)) W) : BE X S W (.Constant (.str x) j pos) k:=.of zd69 fun F A σ H Q x0 r sr q=>q.same r (.dd (Rq.str x)) h
theorem zL4 {x : Str} {d : PyData} {v : V} {u : Value} {pos : Pos} (hg : Gl X x) (hm : X.mg x = some u) (rv : RelV v u) (rq : ∀ F,Rq X.K F v d) (h : k (.d d) W) (hd : (x == ("__debug__" : Str)) = false:=by decide) : BE X S W (.Name x pos) k :=
 .of (zc58 hg hm rv hd) fun F A σ H Q x0 r sr q=>q.same r (.dd (rq F)) h
def rU2 (X : Bc) (f : Value->Value->Sem Value) : R2:=fun x y H Q=>∃ r,OpR X f r /\ r x y H Q
theorem op_U {f : Value->Value->Sem Value} : OpR X f (rU2 X f):=fun pins s σ H x y v u Q I rx ry zR=>by obtain ⟨r,h,q⟩:=zR; exact h pins s σ H x y v u Q I rx ry q
def OB (X : Bc) (f : Value->Value->Sem Value) (x y : El) (W : Wl) (k : KB) : Prop :=
 ∀ F A H Q vx vy,RW X.K F A W H->ElR X.K F A x vx->ElR X.K F A y vy->zq4 X.K F A k Q->rU2 X f vx vy H Q
theorem OB.of {f : Value->Value->Sem Value} {x y : El} {r2 : R2} (ho : OpR X f r2) (i : ∀ F A H Q vx vy,RW X.K F A W H->ElR X.K F A x vx->ElR X.K F A y vy->zq4 X.K F A k Q->r2 vx vy H Q) : OB X f x y W k :=
 fun F A H Q vx vy r zx zy q=>⟨r2,ho,i F A H Q vx vy r zx zy q⟩
theorem ze7 {a b : Expr} {op : Operator} {pos : Pos} (h : BE X S W a fun x W1=>BE X S W1 b fun y W2=>OB X (my6 op) x y W2 k) : BE X S W (.BinOp a op b pos) k :=
 .of (zf04 op_U zi7 zi7) fun F A σ H Q x0 r sr q =>
  h.use x0 r sr fun F1 A1 W1 H1 x vx e1 r1 z1 h1=>h1.use (x0.trans e1) r1 (sr.ext e1) fun F2 A2 W2 H2 y vy e2 r2 z2 h2=>h2 F2 A2 H2 Q vx vy r2 (z1.ext e2) z2 (q.ext (e1.trans e2))
theorem zs2 {a b : Expr} {op : CmpOp} {pos : Pos} (hm : behindInMarks op b = false) (h : BE X S W a fun x W1=>BE X S W1 b fun y W2=>OB X (fy7 op) x y W2 k) : BE X S W (.Compare a [op] [b] pos) k :=
 .of (zc66 op_U zi7 zi7 hm) fun F A σ H Q x0 r sr q =>
  h.use x0 r sr fun F1 A1 W1 H1 x vx e1 r1 z1 h1=>h1.use (x0.trans e1) r1 (sr.ext e1) fun F2 A2 W2 H2 y vy e2 r2 z2 h2=>h2 F2 A2 H2 Q vx vy r2 (z1.ext e2) z2 (q.ext (e1.trans e2))
abbrev TB:=Bool->Wl->Prop
def tDT (X : Bc) (S : Sl) (W : Wl) (k : TB) : TT:=fun σ H Q=>∃ F A,X.Am F A /\ RW X.K F A W H /\ SR X.K F A S σ /\ ∀ F' A' W' H' b,Ext F A F' A'->RW X.K F' A' W' H'->k b W'->Q b H'
def BT (X : Bc) (S : Sl) (W : Wl) (e : Expr) (k : TB) : Prop:=PT X e (tDT X S W k)
def tUT (X : Bc) (e : Expr) : TT:=fun σ H Q=>∃ t,PT X e t /\ t σ H Q
theorem pt_U {e : Expr} : PT X e (tUT X e):=fun pins s σ H Q I zR=>by obtain ⟨t,h,q⟩:=zR; exact h pins s σ H Q I q
theorem BT.use {e : Expr} {k : TB} (h : BT X S W e k) {F : Hp} {A : List Addr} {σ : St} {H : Hp} {Q : Bool->Hp->Prop} (x0 : X.Am F A) (r : RW X.K F A W H) (s : SR X.K F A S σ)
  (q : ∀ F' A' W' H' b,Ext F A F' A'->RW X.K F' A' W' H'->k b W'->Q b H') : tUT X e σ H Q:=⟨_,h,F,A,x0,r,s,q⟩
theorem BT.of {e : Expr} {k : TB} {t : TT} (h : PT X e t) (i : ∀ F A σ H (Q : Bool->Hp->Prop),X.Am F A->RW X.K F A W H->SR X.K F A S σ->(∀ F' A' W' H' b,Ext F A F' A'->RW X.K F' A' W' H'->k b W'->Q b H')->t σ H Q) : BT X S W e k :=
 fun pins s σ H Q I zR=>by obtain ⟨F,A,x0,r,sr,q⟩:=zR; exact h pins s σ H Q I (i F A σ H Q x0 r sr q)
theorem BT.mono {e : Expr} {k k' : TB} (h : BT X S W e k) (hk : ∀ b W,k b W->k' b W) : BT X S W e k' :=
 .of h fun F A σ H Q x0 r sr q=>⟨F,A,x0,r,sr,fun F' A' W' H' b x r z=>q F' A' W' H' b x r (hk _ _ z)⟩
def BW (X : Bc) (S : Sl) (W : Wl) (e : Expr) (k : TB) : Prop:=PW X e (tDT X S W k)
def tUW (X : Bc) (e : Expr) : TT:=fun σ H Q=>∃ t,PW X e t /\ t σ H Q
theorem pw_U {e : Expr} : PW X e (tUW X e):=fun wh pins s σ H Q I zR=>by obtain ⟨t,h,q⟩:=zR; exact h wh pins s σ H Q I q
theorem BW.use {e : Expr} {k : TB} (h : BW X S W e k) {F : Hp} {A : List Addr} {σ : St} {H : Hp} {Q : Bool->Hp->Prop} (x0 : X.Am F A) (r : RW X.K F A W H) (s : SR X.K F A S σ)
  (q : ∀ F' A' W' H' b,Ext F A F' A'->RW X.K F' A' W' H'->k b W'->Q b H') : tUW X e σ H Q:=⟨_,h,F,A,x0,r,s,q⟩
theorem BW.of {e : Expr} {k : TB} {t : TT} (h : PW X e t) (i : ∀ F A σ H (Q : Bool->Hp->Prop),X.Am F A->RW X.K F A W H->SR X.K F A S σ->(∀ F' A' W' H' b,Ext F A F' A'->RW X.K F' A' W' H'->k b W'->Q b H')->t σ H Q) : BW X S W e k :=
 fun wh pins s σ H Q I zR=>by obtain ⟨F,A,x0,r,sr,q⟩:=zR; exact h wh pins s σ H Q I (i F A σ H Q x0 r sr q)
theorem BW.bt {e : Expr} {k : TB} (h : BW X S W e k) : BT X S W e k:=h.pt
theorem zg2 {e : Expr} {k : TB} (h : BE X S W e fun x W1=>∃ b,x = .d (.bool b) /\ k b W1) (he : ∀ whole,isTrue e X.env whole = (do let v <- whole; standAt e.pos; holding [v] (truthy v)):=by intro _; rfl) : BT X S W e k :=
 .of (zd70 zi7 he) fun F A σ H Q x0 r sr q=>h.use x0 r sr fun F1 A1 W1 H1 x vx e1 r1 z1 zR=>by
  refine za0 fun gG=>?_;obtain ⟨b,hb,h1⟩:=zR;subst hb;refine gG ?_;clear gG;obtain rfl:=Rq.zv3 z1;exact ⟨b,rfl,q F1 A1 W1 H1 b e1 r1 h1⟩
theorem zd5 {a b : Expr} {op : CmpOp} {pos : Pos} {k : TB} (hm : behindInMarks op b = false) (h : BE X S W a fun x W1=>BE X S W1 b fun y W2=>OB X (fy7 op) x y W2 fun z W3=>∃ c,z = .d (.bool c) /\ k c W3) : BT X S W (.Compare a [op] [b] pos) k :=
 .of (zc67 op_U zi7 zi7 hm) fun F A σ H Q x0 r sr q =>
  h.use x0 r sr fun F1 A1 W1 H1 x vx e1 r1 z1 h1=>h1.use (x0.trans e1) r1 (sr.ext e1) fun F2 A2 W2 H2 y vy e2 r2 z2 h2=>h2 F2 A2 H2 _ vx vy r2 (z1.ext e2) z2 fun F3 A3 W3 H3 z vz e3 r3 z3 zR=>by
   refine za0 fun gG=>?_;obtain ⟨c,hc,h3⟩:=zR;subst hc;refine gG ?_;clear gG;obtain rfl:=Rq.zv3 z3;exact ⟨c,rfl,q F3 A3 W3 H3 c ((e1.trans e2).trans e3) r3 h3⟩
theorem zi1 {a : Expr} {pos : Pos} {k : TB} (h : BT X S W a fun b W1=>k (!b) W1) : BT X S W (.UnaryOp .Not a pos) k :=
 .of (zd73 pt_U) fun F A σ H Q x0 r sr q=>h.use x0 r sr fun F1 A1 W1 H1 b e1 r1 h1=>q F1 A1 W1 H1 _ e1 r1 h1
theorem zB5 {a : Expr} {pos : Pos} {k : TB} (h : BT X S W a k) : BW X S W (.BoolOp .And [a] pos) k:=.of (zc60 pt_U) fun F A σ H Q x0 r sr q=>h.use x0 r sr q
theorem zl6 {a : Expr} {pos : Pos} {k : TB} (h : BT X S W a k) : BW X S W (.BoolOp .Or [a] pos) k:=.of (zd71 pt_U) fun F A σ H Q x0 r sr q=>h.use x0 r sr q
theorem zH0 {a b : Expr} {rest : List Expr} {pos : Pos} {k : TB} (h : BT X S W a fun c W1=>if c = true then BW X S W1 (.BoolOp .And (b :: rest) pos) k else k false W1) : BW X S W (.BoolOp .And (a :: b :: rest) pos) k :=
 .of (zd72 pt_U pw_U) fun F A σ H Q x0 r sr q=>h.use x0 r sr fun F1 A1 W1 H1 c e1 r1 h1=>by
  cases c with
  | true =>
   rw [if_pos rfl] at h1 ⊢;exact h1.use (x0.trans e1) r1 (sr.ext e1) fun F2 A2 W2 H2 b e2 r2 h2=>q F2 A2 W2 H2 b (e1.trans e2) r2 h2
  | false =>
   rw [if_neg (by decide)] at h1 ⊢;exact q F1 A1 W1 H1 _ e1 r1 h1
theorem zq5 {a b : Expr} {rest : List Expr} {pos : Pos} {k : TB} (h : BT X S W a fun c W1=>if c = true then k true W1 else BW X S W1 (.BoolOp .Or (b :: rest) pos) k) : BW X S W (.BoolOp .Or (a :: b :: rest) pos) k :=
 .of (ze94 pt_U pw_U) fun F A σ H Q x0 r sr q=>h.use x0 r sr fun F1 A1 W1 H1 c e1 r1 h1=>by
  cases c with
  | true =>
   rw [if_pos rfl] at h1 ⊢;exact q F1 A1 W1 H1 _ e1 r1 h1
  | false =>
   rw [if_neg (by decide)] at h1 ⊢;exact h1.use (x0.trans e1) r1 (sr.ext e1) fun F2 A2 W2 H2 b e2 r2 h2=>q F2 A2 W2 H2 b (e1.trans e2) r2 h2
theorem zP7 {op} {a : Expr} {pos : Pos} (h : BE X S W a k) : BE X S W (.BoolOp op [a] pos) k:=zd74 h
theorem zz4 {a b : Expr} {rest : List Expr} {pos : Pos} (h : BE X S W a fun x W1=>∃ c,x = .d (.bool c) /\ if c = true then BE X S W1 (.BoolOp .And (b :: rest) pos) k else k (.d (.bool false)) W1) : BE X S W (.BoolOp .And (a :: b :: rest) pos) k :=
 .of (zd75 zi7 zi7) fun F A σ H Q x0 r sr q=>h.use x0 r sr fun F1 A1 W1 H1 x vx e1 r1 z1 zR=>by
  refine za0 fun gG=>?_;obtain ⟨c,hc,h1⟩:=zR;subst hc;refine gG ?_;clear gG;obtain rfl:=Rq.zv3 z1;refine ⟨c,rfl,?_⟩;cases c with
  | true =>
   rw [if_pos rfl] at h1 ⊢;exact h1.use (x0.trans e1) r1 (sr.ext e1) fun F2 A2 W2 H2 y vy e2 r2 z2 h2=>q F2 A2 W2 H2 y vy (e1.trans e2) r2 z2 h2
  | false =>
   rw [if_neg (by decide)] at h1 ⊢;exact q F1 A1 W1 H1 _ _ e1 r1 (.dd (Rq.bl false)) h1
theorem zf22 {a b : Expr} {rest : List Expr} {pos : Pos} (h : BE X S W a fun x W1=>∃ c,x = .d (.bool c) /\ if c = true then k (.d (.bool true)) W1 else BE X S W1 (.BoolOp .Or (b :: rest) pos) k) : BE X S W (.BoolOp .Or (a :: b :: rest) pos) k :=
 .of (ze96 zi7 zi7) fun F A σ H Q x0 r sr q=>h.use x0 r sr fun F1 A1 W1 H1 x vx e1 r1 z1 zR=>by
  refine za0 fun gG=>?_;obtain ⟨c,hc,h1⟩:=zR;subst hc;refine gG ?_;clear gG;obtain rfl:=Rq.zv3 z1;refine ⟨c,rfl,?_⟩;cases c with
  | true =>
   rw [if_pos rfl] at h1 ⊢;exact q F1 A1 W1 H1 _ _ e1 r1 (.dd (Rq.bl true)) h1
  | false =>
   rw [if_neg (by decide)] at h1 ⊢;exact h1.use (x0.trans e1) r1 (sr.ext e1) fun F2 A2 W2 H2 y vy e2 r2 z2 h2=>q F2 A2 W2 H2 y vy (e1.trans e2) r2 z2 h2
theorem zf23 {c a b : Expr} {pos : Pos} (h : BT X S W c fun t W1=>if t = true then BE X S W1 a k else BE X S W1 b k) : BE X S W (.IfExp c a b pos) k :=
 .of (zb29 pt_U zi7 zi7) fun F A σ H Q x0 r sr q=>h.use x0 r sr fun F1 A1 W1 H1 c e1 r1 h1=>by
  cases c with
  | true =>
   rw [if_pos rfl] at h1 ⊢;exact h1.use (x0.trans e1) r1 (sr.ext e1) fun F2 A2 W2 H2 y vy e2 r2 z2 h2=>q F2 A2 W2 H2 y vy (e1.trans e2) r2 z2 h2
  | false =>
   rw [if_neg (by decide)] at h1 ⊢;exact h1.use (x0.trans e1) r1 (sr.ext e1) fun F2 A2 W2 H2 y vy e2 r2 z2 h2=>q F2 A2 W2 H2 y vy (e1.trans e2) r2 z2 h2
end
section
variable {X : Bc} {S : Sl} {W : Wl} {k : KB}
abbrev KA:=List El->Wl->Prop
def tDA (X : Bc) (S : Sl) (W : Wl) (k : KA) : TA:=fun σ H Q=>∃ F A,X.Am F A /\ RW X.K F A W H /\ SR X.K F A S σ /\ ∀ F' A' W' H' es vs,Ext F A F' A'->RW X.K F' A' W' H'->Paired (ElR X.K F' A') es vs->k es W'->Q vs H'
def BA (X : Bc) (S : Sl) (W : Wl) (es : List Expr) (k : KA) : Prop:=PA X es (tDA X S W k)
def tUA (X : Bc) (es : List Expr) : TA:=fun σ H Q=>∃ t,PA X es t /\ t σ H Q
theorem pa_U {es : List Expr} : PA X es (tUA X es):=fun pos pins s σ H Q I zR=>by obtain ⟨t,h,q⟩:=zR; exact h pos pins s σ H Q I q
theorem BA.use {es : List Expr} {k : KA} (h : BA X S W es k) {F : Hp} {A : List Addr} {σ : St} {H : Hp} {Q : List V->Hp->Prop} (x0 : X.Am F A) (r : RW X.K F A W H) (s : SR X.K F A S σ)
  (q : ∀ F' A' W' H' es vs,Ext F A F' A'->RW X.K F' A' W' H'->Paired (ElR X.K F' A') es vs->k es W'->Q vs H') : tUA X es σ H Q:=⟨_,h,F,A,x0,r,s,q⟩
theorem BA.of {es : List Expr} {k : KA} {t : TA} (h : PA X es t) (i : ∀ F A σ H (Q : List V->Hp->Prop),X.Am F A->RW X.K F A W H->SR X.K F A S σ->(∀ F' A' W' H' es vs,Ext F A F' A'->RW X.K F' A' W' H'->Paired (ElR X.K F' A') es vs->k es W'->Q vs H')->t σ H Q) : BA X S W es k :=
 fun pos pins s σ H Q I zR=>by obtain ⟨F,A,x0,r,sr,q⟩:=zR; exact h pos pins s σ H Q I (i F A σ H Q x0 r sr q)
theorem zi9 {k : KA} (h : k [] W) : BA X S W [] k:=.of zz1 fun F A σ H Q x0 r sr q=>q F A W H [] [] .refl r .nil h
theorem za2 {e : Expr} {es : List Expr} {k : KA} (h : BE X S W e fun x W1=>BA X S W1 es fun xs W2=>k (x :: xs) W2) (hs : ey8 (e :: es) X.env = (false,eval e X.env) :: ey8 es X.env:=by rfl) : BA X S W (e :: es) k :=
 .of (zm9 zi7 pa_U hs) fun F A σ H Q x0 r sr q=>h.use x0 r sr fun F1 A1 W1 H1 x vx e1 r1 z1 h1=>h1.use (x0.trans e1) r1 (sr.ext e1) fun F2 A2 W2 H2 xs vs e2 r2 z2 h2=>q F2 A2 W2 H2 _ _ (e1.trans e2) r2 (.cons (z1.ext e2) z2) h2
theorem za1 {e : Expr} {k : KA} (h : BE X S W e fun x W1=>k [x] W1) (hs : ey8 [e] X.env = [(false,eval e X.env)]:=by rfl) : BA X S W [e] k :=
 za2 (h.mono fun _ _ q=>zi9 q) hs
def zb6 : List PyData->List El:=List.map .d
theorem zj0 {K : ay4} {F : Hp} {A : List Addr} {ds : List PyData} {vs : List V} (h : Paired (ElR K F A) (zb6 ds) vs) : Paired (fun d v=>Rq K F v d) ds vs:=zP6 h
theorem zi2 {K : ay4} {F : Hp} {A : List Addr} {ds : List PyData} {vs : List V} (h : Paired (fun d v=>Rq K F v d) ds vs) : Paired (ElR K F A) (zb6 ds) vs:=zc30 h
theorem zk1 {es : List Expr} {x1} {pos : Pos} (h : BA X S W es fun as W1=>∃ ds,as = zb6 ds /\ ds.length <= by0 /\ k (.d (.tuple ds)) W1) : BE X S W (.Tuple es x1 pos) k :=
 .of (zc25 pa_U) fun F A σ H Q x0 r sr q=>h.use x0 r sr fun F1 A1 W1 H1 as vs e1 r1 z1 zR=>by
  refine za0 fun gG=>?_;obtain ⟨ds,hd,hl,h1⟩:=zR;subst hd;refine gG ?_;clear gG;have z:=zj0 z1;exact ⟨by rw [<- zb2 z]; exact hl,fun p hp=>(q.ext e1).newT r1 hp z h1⟩
theorem zg3 {es : List Expr} {pos : Pos} (h : BA X S W es fun as W1=>∃ ds,as = zb6 ds /\ ds.length <= by0 /\ k (.d (.list ds)) W1) : BE X S W (.List es pos) k :=
 .of (zc26 pa_U) fun F A σ H Q x0 r sr q=>h.use x0 r sr fun F1 A1 W1 H1 as vs e1 r1 z1 zR=>by
  refine za0 fun gG=>?_;obtain ⟨ds,hd,hl,h1⟩:=zR;subst hd;refine gG ?_;clear gG;have z:=zj0 z1;exact ⟨by rw [<- zb2 z]; exact hl,fun p hp=>(q.ext e1).newL r1 hp z h1⟩
theorem zq6 {es : List Expr} {pos : Pos} (h : BA X S W es fun as W1=>as.length <= by0 /\ k (.o W1.length) (W1++[.lst as])) : BE X S W (.List es pos) k :=
 .of (zc26 pa_U) fun F A σ H Q x0 r sr q=>h.use x0 r sr fun F1 A1 W1 H1 as vs e1 r1 z1 ⟨hl,h1⟩ =>
  ⟨by rw [<- zb2 z1]; exact hl,fun p hp=>(q.ext e1).newO r1 hp (o:=.lst as) ⟨vs,rfl,z1⟩ h1⟩
def rUC (X : Bc) (f : Value) : List V->Hp->VK->Prop:=fun xs H Q=>∃ r,zj8 X f r /\ r xs H Q
theorem zc34 {f : Value} : zj8 X f (rUC X f):=fun pins s σ H xs us Q I rx zR=>by obtain ⟨r,h,q⟩:=zR; exact h pins s σ H xs us Q I rx q
def CB (X : Bc) (f : Value) (xs : List El) (W : Wl) (k : KB) : Prop:=∀ F A H Q vs,RW X.K F A W H->Paired (ElR X.K F A) xs vs->zq4 X.K F A k Q->rUC X f vs H Q
theorem CB.of {f : Value} {xs : List El} {r1 : List V->Hp->VK->Prop} (hc : zj8 X f r1) (i : ∀ F A H Q vs,RW X.K F A W H->Paired (ElR X.K F A) xs vs->zq4 X.K F A k Q->r1 vs H Q) : CB X f xs W k :=
 fun F A H Q vs r z q=>⟨r1,hc,i F A H Q vs r z q⟩
theorem zd0 {e : Expr} {es : List Expr} {x : Str} {id : String} {p pos : Pos} (hg : Gl X x) (hm : X.mg x = none) (hv : ey9 x = some (.builtin id)) (h : BA X S W (e :: es) fun as W1=>CB X (.builtin id) as W1 k) (hn : x ≠ "__name__" := by decide) (hdb : (x == ("__debug__" : Str)) = false:=by decide)
  (he : ey8 (e :: es) X.env = (false,eval e X.env) :: ey8 es X.env:=by rfl) (hpl : (backTo pos (ey8 es X.env)).any (·.1) = false:=by rfl) : BE X S W (.Call (.Name x p) (e :: es) [] pos) k :=
 .of (zt6 zc34 hg hm hv pa_U hn hdb he hpl) fun F A σ H Q x0 r sr q=>h.use x0 r sr fun F1 A1 W1 H1 as vs e1 r1 z1 h1=>h1 F1 A1 H1 Q vs r1 z1 (q.ext e1)
theorem zj1 {e : Expr} {es : List Expr} {x : Str} {T : String} {p pos : Pos} (hg : Gl X x) (hm : X.mg x = none) (hv : ey9 x = some (.type T)) (h : BA X S W (e :: es) fun as W1=>CB X (.type T) as W1 k) (hn : x ≠ "__name__" := by decide) (hdb : (x == ("__debug__" : Str)) = false:=by decide)
  (he : ey8 (e :: es) X.env = (false,eval e X.env) :: ey8 es X.env:=by rfl) (hpl : (backTo pos (ey8 es X.env)).any (·.1) = false:=by rfl) : BE X S W (.Call (.Name x p) (e :: es) [] pos) k :=
 .of (zu9 zc34 hg hm hv pa_U hn hdb he hpl) fun F A σ H Q x0 r sr q=>h.use x0 r sr fun F1 A1 W1 H1 as vs e1 r1 z1 h1=>h1 F1 A1 H1 Q vs r1 z1 (q.ext e1)
abbrev RB:=List El->Wl->KB->Prop
def spB (K : ay4) (R : RB) : Sp:=fun vs H Q _=>∃ F A W es k,RW K F A W H /\ Paired (ElR K F A) es vs /\ R es W k /\ zq4 K F A k Q
theorem za4 {R : RB} {j : Nat} {f : Addr} {fd : ey4} {ps : List Str} {x : Str} {p pos : Pos} {e : Expr} {es : List Expr} (F : zj9 X.prog X.w X.K X.mg X.base CX0 j f fd ps (spB X.K R)) (hr : zz0 j X.A) (hg : Gl X x) (hm : X.mg x = some (.ref f))
  (hk : cy9 X.K (.ref f) = true) (hb : Binds X.K fd ps []) (h : BA X S W (e :: es) fun as W1=>R as W1 k) (hdb : (x == ("__debug__" : Str)) = false:=by decide)
  (he : ey8 (e :: es) X.env = (false,eval e X.env) :: ey8 es X.env:=by rfl) (hpl : (backTo pos (ey8 es X.env)).any (·.1) = false:=by rfl) : BE X S W (.Call (.Name x p) (e :: es) [] pos) k :=
 .of (zc69 F hr hg hm hk hb .nil zf20 pa_U hdb he hpl) fun F A σ H Q x0 r sr q=>h.use x0 r sr fun F1 A1 W1 H1 as vs e1 r1 z1 h1=>by
  rw [wy5];exact ⟨F1,A1,W1,as,k,r1,z1,h1,q.ext e1⟩
def rUI (X : Bc) : R2:=fun x y H Q=>∃ r,IxR X r /\ r x y H Q
theorem ix_U : IxR X (rUI X):=fun v s pins sh σ H x y v' u Q I rx ry ⟨r,h,q⟩ hs=>h v s pins sh σ H x y v' u Q I rx ry q hs
def IB (X : Bc) (x y : El) (W : Wl) (k : KB) : Prop:=∀ F A H Q vx vy,RW X.K F A W H->ElR X.K F A x vx->ElR X.K F A y vy->zq4 X.K F A k Q->rUI X vx vy H Q
theorem IB.of {x y : El} {r2 : R2} (ho : IxR X r2) (i : ∀ F A H Q vx vy,RW X.K F A W H->ElR X.K F A x vx->ElR X.K F A y vy->zq4 X.K F A k Q->r2 vx vy H Q) : IB X x y W k :=
 fun F A H Q vx vy r zx zy q=>⟨r2,ho,i F A H Q vx vy r zx zy q⟩
theorem zf0 {a b : Expr} {pos : Pos} (hs : za16 b) (h : BE X S W a fun x W1=>BE X S W1 b fun y W2=>IB X x y W2 k) : BE X S W (.Subscript a b pos) k :=
 .of (zf16 ix_U zi7 zi7 hs) fun F A σ H Q x0 r sr q =>
  h.use x0 r sr fun F1 A1 W1 H1 x vx e1 r1 z1 h1=>h1.use (x0.trans e1) r1 (sr.ext e1) fun F2 A2 W2 H2 y vy e2 r2 z2 h2=>h2 F2 A2 H2 Q vx vy r2 (z1.ext e2) z2 (q.ext (e1.trans e2))
theorem za27 {α β : Type} {F : α->β->Prop} {l : List α} {m : List β} (p : Paired F l m) {i : Int} {a : α} (h : atI l i = some a) : ∃ b,atI m i = some b /\ F a b:=by
 unfold atI at h ⊢;rw [<- zb2 p];cases e : ixN l.length i with
 | none=>rw [e] at h; cases h
 | some j =>
  rw [e] at h;simp only [Option.bind] at h ⊢;exact zi8 p h
theorem zv5 {ds : List PyData} {i : Int} {d : PyData} (he : atI ds i = some d) (h : k (.d d) W) : IB X (.d (.list ds)) (.d (.int i)) W k:=.of za17 fun F A H Q vx vy r zx zy q=>by
 refine za0 fun gG=>?_;obtain ⟨a,vs,rfl,hs,z⟩:=Rq.zz3 zx;refine gG ?_;clear gG;obtain rfl:=Rq.zd1 zy;refine za0 fun gG=>?_;obtain ⟨v,h1,h2⟩:=za27 z he;refine gG ?_;clear gG;exact ⟨a,vs,i,v,rfl,rfl,(.inl (r.sub.rd hs)),h1,q.same r (.dd h2) h⟩
theorem zj2 {ds : List PyData} {i : Int} {d : PyData} (he : atI ds i = some d) (h : k (.d d) W) : IB X (.d (.tuple ds)) (.d (.int i)) W k:=.of zd95 fun F A H Q vx vy r zx zy q=>by
 refine za0 fun gG=>?_;obtain ⟨a,vs,rfl,hs,z⟩:=Rq.zh6 zx;refine gG ?_;clear gG;obtain rfl:=Rq.zd1 zy;refine za0 fun gG=>?_;obtain ⟨v,h1,h2⟩:=za27 z he;refine gG ?_;clear gG;exact ⟨a,vs,i,v,rfl,rfl,r.sub.zt9 hs,h1,q.same r (.dd h2) h⟩
theorem RW.at (r : RW X.K F A W H) {j : Nat} {v : V} (z : ElR X.K F A (.o j) v) {es : List El} (hj : W[j]? = some (.lst es)) : ∃ a vs,v = .ref a /\ A[j]? = some a /\ H a = some (.lst vs) /\ Paired (ElR X.K F A) es vs:=by
 refine za0 fun gG=>?_;obtain ⟨a,ha,rfl⟩:=z;obtain ⟨h,e,vs,rfl,p⟩:=r.obj j a _ ha hj;refine gG ?_;clear gG;exact ⟨a,vs,rfl,ha,e,p⟩
theorem zz5 {j : Nat} {es : List El} {i : Int} {e : El} (hj : W[j]? = some (.lst es)) (he : atI es i = some e) (h : k e W) : IB X (.o j) (.d (.int i)) W k:=.of za17 fun F A H Q vx vy r zx zy q=>by
 refine za0 fun gG=>?_;obtain ⟨a,vs,rfl,ha,hH,z⟩:=r.at zx hj;refine gG ?_;clear gG;obtain rfl:=Rq.zd1 zy;refine za0 fun gG=>?_;obtain ⟨v,h1,h2⟩:=za27 z he;refine gG ?_;clear gG;exact ⟨a,vs,i,v,rfl,rfl,SqL.of hH,h1,q.same r h2 h⟩
abbrev KO:=Option Int->Wl->Prop
def tDO (X : Bc) (S : Sl) (W : Wl) (k : KO) : TO:=fun σ H Q=>∃ F A,X.Am F A /\ RW X.K F A W H /\ SR X.K F A S σ /\ ∀ F' A' W' H' o,Ext F A F' A'->RW X.K F' A' W' H'->k o W'->Q o H'
def BO (X : Bc) (S : Sl) (W : Wl) (e : Option Expr) (k : KO) : Prop:=PO X e (tDO X S W k)
def tUO (X : Bc) (e : Option Expr) : TO:=fun σ H Q=>∃ t,PO X e t /\ t σ H Q
theorem po_U {e : Option Expr} : PO X e (tUO X e):=fun pins s σ H Q I zR=>by obtain ⟨t,h,q⟩:=zR; exact h pins s σ H Q I q
theorem BO.use {e : Option Expr} {k : KO} (h : BO X S W e k) {F : Hp} {A : List Addr} {σ : St} {H : Hp} {Q : Option Int->Hp->Prop} (x0 : X.Am F A) (r : RW X.K F A W H) (s : SR X.K F A S σ)
  (q : ∀ F' A' W' H' o,Ext F A F' A'->RW X.K F' A' W' H'->k o W'->Q o H') : tUO X e σ H Q:=⟨_,h,F,A,x0,r,s,q⟩
theorem zh3 {k : KO} (h : k none W) : BO X S W none k:=fun pins s σ H Q I zR=>by obtain ⟨F,A,x0,r,sr,q⟩:=zR; exact zc73 pins s σ H Q I (q F A W H none .refl r h)
theorem zd9 {e : Expr} {k : KO} (h : BE X S W e fun x W1=>∃ i,x = .d (.int i) /\ k (some i) W1) : BO X S W (some e) k:=fun pins s σ H Q I ⟨F,A,x0,r,sr,q⟩ =>
 zc74 zi7 pins s σ H Q I (h.use x0 r sr fun F1 A1 W1 H1 x vx e1 r1 z1 zR=>by
  refine za0 fun gG=>?_;obtain ⟨i,hi,h1⟩:=zR;subst hi;refine gG ?_;clear gG;obtain rfl:=Rq.zd1 z1
  exact ⟨i,rfl,q F1 A1 W1 H1 _ e1 r1 h1⟩)
def rUS (X : Bc) : V->Option Int->Option Int->Hp->VK->Prop:=fun x lo hi H Q=>∃ r,SlR X r /\ r x lo hi H Q
theorem sl_U : SlR X (rUS X):=fun pins s σ H x v vl vu lo hi sl Q I rx hs pl pu zR=>by obtain ⟨r,h,q⟩:=zR; exact h pins s σ H x v vl vu lo hi sl Q I rx hs pl pu q
def LB (X : Bc) (x : El) (lo hi : Option Int) (W : Wl) (k : KB) : Prop:=∀ F A H Q vx,RW X.K F A W H->ElR X.K F A x vx->zq4 X.K F A k Q->rUS X vx lo hi H Q
theorem LB.of {x : El} {lo hi : Option Int} {r1 : V->Option Int->Option Int->Hp->VK->Prop} (hc : SlR X r1) (i : ∀ F A H Q vx,RW X.K F A W H->ElR X.K F A x vx->zq4 X.K F A k Q->r1 vx lo hi H Q) : LB X x lo hi W k :=
 fun F A H Q vs r z q=>⟨r1,hc,i F A H Q vs r z q⟩
theorem ze0 {e : Expr} {lo hi : Option Expr} {p2 pos : Pos} (h : BE X S W e fun x W1=>BO X S W1 lo fun l W2=>BO X S W2 hi fun u W3=>LB X x l u W3 k) : BE X S W (.Subscript e (.Slice lo hi none p2) pos) k :=
 .of (zb37 sl_U zi7 po_U po_U) fun F A σ H Q x0 r sr q =>
  h.use x0 r sr fun F1 A1 W1 H1 x vx e1 r1 z1 h1=>h1.use (x0.trans e1) r1 (sr.ext e1) fun F2 A2 W2 H2 l e2 r2 h2=>h2.use (x0.trans (e1.trans e2)) r2 (sr.ext (e1.trans e2)) fun F3 A3 W3 H3 u e3 r3 h3 =>
   h3 F3 A3 H3 Q vx r3 (z1.ext (e2.trans e3)) (q.ext ((e1.trans e2).trans e3))
def zn0 {α : Type} (xs : List α) (lo hi : Option Int) : List α:=(xs.drop (HT.sIx xs.length 0 lo)).take (HT.sIx xs.length xs.length hi - HT.sIx xs.length 0 lo)
theorem zH1 {α : Type} {F : α->V->Prop} {l : List α} {m : List V} (p : Paired F l m) (lo hi : Option Int) : Paired F (zn0 l lo hi) (zL0 m lo hi):=by
 unfold zn0 zL0;rw [zb2 p];exact zB3 _ (zB4 _ p)
theorem zc83 : SlR X (fun x lo hi H Q=>∃ a xs,x = .ref a /\ SqT X.K H a xs /\ ((∀ p,H p = none->Q (.ref p) (upd H p (.tup (zL0 xs lo hi)))) /\ (zL0 xs lo hi = xs->Q (.ref a) H))):=by
 intro pins s σ H x v vl vu lo hi sl Q I rx hs pl pu h;refine za0 fun gG=>?_;obtain ⟨a,xs,rfl,hq,h1,h2⟩:=h;refine gG ?_;clear gG
 by_cases hw : HT.sIx xs.length 0 lo = 0 /\ HT.sIx xs.length xs.length hi = xs.length
 ·cases rx;refine za0 fun gG=>?_;obtain ⟨its,r,ht,hz⟩:=I.tuple hq;refine gG ?_;clear gG;have hlen : its.toArray.size = xs.length:=by rw [by7]; exact r.length.symm
  refine ⟨"tuple",_,hy9.lookup,ht.typeIs,?_⟩;refine HT.zq3 ht hs pl pu (by rw [hlen]; exact hw) ?_;exact ⟨.ref a,H,I,rfl,h2 (zb46 hw)⟩
 ·exact zc27 pins s σ H (.ref a) v vl vu lo hi sl Q I rx hs pl pu ⟨a,xs,rfl,hq,hw,h1⟩
theorem zv6 {ds : List PyData} {lo hi : Option Int} (h : k (.d (.tuple (zn0 ds lo hi))) W) : LB X (.d (.tuple ds)) lo hi W k:=.of zc83 fun F A H Q vx r zx q=>by
 refine za0 fun gG=>?_;obtain ⟨a,vs,rfl,hs,z⟩:=Rq.zh6 zx;refine gG ?_;clear gG;refine ⟨a,vs,rfl,r.sub.zt9 hs,fun p hp=>q.newT r hp (zH1 z lo hi) h,fun e=>q.same r (.dd (Rq.tup hs (Rqs.of ?_))) h⟩;have:=zH1 z lo hi;rw [e] at this;exact this
theorem zH2 {ds : List PyData} {lo hi : Option Int} (h : k (.d (.list (zn0 ds lo hi))) W) : LB X (.d (.list ds)) lo hi W k:=.of zL1 fun F A H Q vx r zx q=>by
 refine za0 fun gG=>?_;obtain ⟨a,vs,rfl,hs,z⟩:=Rq.zz3 zx;refine gG ?_;clear gG;exact ⟨a,vs,rfl,(.inl (r.sub.rd hs)),fun p hp=>q.newL r hp (zH1 z lo hi) h⟩
theorem ze08 {j : Nat} {ds : List PyData} {lo hi : Option Int} (hj : W[j]? = some (.lst (zb6 ds))) (h : k (.d (.list (zn0 ds lo hi))) W) : LB X (.o j) lo hi W k:=.of zL1 fun F A H Q vx r zx q=>by
 refine za0 fun gG=>?_;obtain ⟨a,vs,rfl,ha,hH,z⟩:=r.at zx hj;refine gG ?_;clear gG;exact ⟨a,vs,rfl,SqL.of hH,fun p hp=>q.newL r hp (zH1 (zj0 z) lo hi) h⟩
end
section
variable {X : Bc} {S : Sl} {W : Wl} {k : KB}
theorem zP8 {f : Value->Value->Sem Value} {C : Int->Int->Prop} {g : Int->Int->Int} (ho : OpR X f (rI C fun i j=>.int (g i j))) {i j : Int} (hc : C i j) (h : k (.d (.int (g i j))) W) : OB X f (.d (.int i)) (.d (.int j)) W k :=
 .of ho fun F A H Q vx vy r zx zy q=>by
  obtain rfl:=Rq.zd1 zx;obtain rfl:=Rq.zd1 zy;exact ⟨i,j,rfl,rfl,hc,q.same r (.dd (Rq.int _)) h⟩
theorem za28 {f : Value->Value->Sem Value} {g : Int->Int->Int} (ho : OpR X f (rI0 fun i j=>.int (g i j))) {i j : Int} (h : k (.d (.int (g i j))) W) : OB X f (.d (.int i)) (.d (.int j)) W k :=
 .of ho fun F A H Q vx vy r zx zy q=>by
  obtain rfl:=Rq.zd1 zx;obtain rfl:=Rq.zd1 zy;exact ⟨i,j,rfl,rfl,q.same r (.dd (Rq.int _)) h⟩
theorem zL5 {f : Value->Value->Sem Value} {g : Int->Int->Bool} (ho : OpR X f (rI0 fun i j=>.bl (g i j))) {i j : Int} (h : k (.d (.bool (g i j))) W) : OB X f (.d (.int i)) (.d (.int j)) W k :=
 .of ho fun F A H Q vx vy r zx zy q=>by
  obtain rfl:=Rq.zd1 zx;obtain rfl:=Rq.zd1 zy;exact ⟨i,j,rfl,rfl,q.same r (.dd (Rq.bl _)) h⟩
theorem zo1 {i j : Int} (h : k (.d (.int (i + j))) W) : OB X (my6 .Add) (.d (.int i)) (.d (.int j)) W k:=za28 zd82 h
theorem za29 {i j : Int} (h : k (.d (.int (i - j))) W) : OB X (my6 .Sub) (.d (.int i)) (.d (.int j)) W k:=za28 zd83 h
theorem zc35 {i j : Int} (hc : CMul i j) (h : k (.d (.int (i * j))) W) : OB X (my6 .Mult) (.d (.int i)) (.d (.int j)) W k:=zP8 zd84 hc h
theorem za30 {i j : Int} (hc : gy7 i <= 2 ^ 20 /\ gy7 j <= 2 ^ 20) (h : k (.d (.int (i * j))) W) : OB X (my6 .Mult) (.d (.int i)) (.d (.int j)) W k:=zP8 zc82 hc h
theorem ze09 {i j : Int} (hc : 0 < j) (h : k (.d (.int (i % j))) W) : OB X (my6 .Mod) (.d (.int i)) (.d (.int j)) W k:=zP8 zd85 hc h
theorem zc36 {i j : Int} (hc : CPow i j) (h : k (.d (.int (i ^ j.toNat))) W) : OB X (my6 .Pow) (.d (.int i)) (.d (.int j)) W k:=zP8 zd86 hc h
theorem zc84 {i j : Int} (h : k (.d (.bool (decide (i < j)))) W) : OB X (fy7 .Lt) (.d (.int i)) (.d (.int j)) W k:=zL5 zf07 h
theorem ze10 {i j : Int} (h : k (.d (.bool (decide (i <= j)))) W) : OB X (fy7 .LtE) (.d (.int i)) (.d (.int j)) W k:=zL5 zf08 h
theorem ze11 {i j : Int} (h : k (.d (.bool (decide (j < i)))) W) : OB X (fy7 .Gt) (.d (.int i)) (.d (.int j)) W k:=zL5 zf09 h
theorem zc85 : OpR X (my6 .Add) (fun x y H Q=>∃ a b xs ys,x = .ref a /\ y = .ref b /\ SqT X.K H a xs /\ SqT X.K H b ys /\ xs.length + ys.length <= by0 /\ (xs = []->Q (.ref b) H) /\ (ys = []->Q (.ref a) H) /\ ∀ p,H p = none->Q (.ref p) (upd H p (.tup (xs++ys)))):=by
 intro pins s σ H x y v u Q I rx ry h;refine za0 fun gG=>?_;obtain ⟨a,b,xs,ys,rfl,rfl,ha,hb,hz,q1,q2,q3⟩:=h;refine gG ?_;clear gG
 by_cases hx : xs = []
 ·cases rx;cases ry;refine za0 fun gG=>?_;obtain ⟨its,r1,p1,_⟩:=I.tuple ha;obtain ⟨its2,r2,p2,_⟩:=I.tuple hb;refine gG ?_;clear gG;exact HT.zb45 p1 p2 (r1.zA7.mpr hx) ⟨.ref b,H,I,rfl,q1 hx⟩
 ·exact zc75 pins s σ H (.ref a) (.ref b) v u Q I rx ry ⟨a,b,xs,ys,rfl,rfl,ha,hb,hx,hz,q2,fun _ p hp=>q3 p hp⟩
theorem zq7 {x y : List PyData} (hl : x.length + y.length <= by0) (h : k (.d (.tuple (x++y))) W) : OB X (my6 .Add) (.d (.tuple x)) (.d (.tuple y)) W k:=.of zc85 fun F A H Q vx vy r zx zy q=>by
 refine za0 fun gG=>?_;obtain ⟨a,xs,rfl,hs,z⟩:=Rq.zh6 zx;obtain ⟨b,ys,rfl,hs',z'⟩:=Rq.zh6 zy;refine gG ?_;clear gG;refine ⟨a,b,xs,ys,rfl,rfl,r.sub.zt9 hs,r.sub.zt9 hs',by rw [<- zb2 z,<- zb2 z']; exact hl,fun e=>?_,fun e=>?_,fun p hp=>q.newT r hp (zo0 z z') h⟩
 ·subst e;have : x = []:=List.length_eq_zero_iff.mp (zb2 z);subst this;exact q.same r zy h
 ·subst e;have : y = []:=List.length_eq_zero_iff.mp (zb2 z');subst this;rw [wy5] at h;exact q.same r zx h
theorem zc86 : OpR X (my6 .Add) (fun x y H Q=>∃ a b xs ys,x = .ref a /\ y = .ref b /\ Rd H a (.lst xs) /\ Rd H b (.lst ys) /\ xs.length + ys.length <= by0 /\ ∀ p,H p = none->Q (.ref p) (upd H p (.lst (xs++ys)))):=by
 intro pins s σ H x y v u Q I rx ry h;refine za0 fun gG=>?_;obtain ⟨l,b,xs,zs,rfl,rfl,hx,hz,hn,q⟩:=h;refine gG ?_;clear gG;cases rx;cases ry;refine za0 fun gG=>?_;obtain ⟨z,its,n,r,e⟩:=hx.ok I.hok;obtain ⟨z2,its2,n2,r2,e2⟩:=hz.ok I.hok;refine gG ?_;clear gG;refine PySem.P.add_list e e2 ?_ (by rw [by7,by7,<- r.length,<- r2.length]; omega);have ea : its.toArray++its2.toArray = (its++its2).toArray:=by simp
 rw [ea];exact ⟨.ref _,_,I.lnew (t':=s.toks) (r.append r2) (by rw [by5]; omega),rfl,q _ I.fresh⟩
def lstD (W : Wl) (x : El) (ds : List PyData) : Prop:=x = .d (.list ds) \/ ∃ j,x = .o j /\ W[j]? = some (.lst (zb6 ds))
theorem RW.lst {F : Hp} {A : List Addr} {H : Hp} (r : RW X.K F A W H) {x : El} {v : V} {ds : List PyData} (z : ElR X.K F A x v) (h : lstD W x ds) : ∃ a vs,v = .ref a /\ Rd H a (.lst vs) /\ Paired (fun d v=>Rq X.K F v d) ds vs:=by
 rcases h with rfl | ⟨j,rfl,hj⟩
 ·refine za0 fun gG=>?_;obtain ⟨a,vs,rfl,hs,z⟩:=Rq.zz3 z;refine gG ?_;clear gG;exact ⟨a,vs,rfl,r.sub.rd hs,z⟩
 ·refine za0 fun gG=>?_;obtain ⟨a,vs,rfl,ha,hH,z⟩:=r.at z hj;refine gG ?_;clear gG;exact ⟨a,vs,rfl,.inl hH,zj0 z⟩
theorem za31 {x y : El} {xs ys : List PyData} (hx : lstD W x xs) (hy : lstD W y ys) (hl : xs.length + ys.length <= by0) (h : k (.d (.list (xs++ys))) W) : OB X (my6 .Add) x y W k:=.of zc86 fun F A H Q vx vy r zx zy q=>by
 refine za0 fun gG=>?_;obtain ⟨a,vs,rfl,hs,z⟩:=r.lst zx hx;obtain ⟨b,ws,rfl,hs',z'⟩:=r.lst zy hy;refine gG ?_;clear gG;exact ⟨a,b,vs,ws,rfl,rfl,hs,hs',by rw [<- zb2 z,<- zb2 z']; exact hl,fun p hp=>q.newL r hp (zo0 z z') h⟩
theorem zc37 (neg : Bool) (hu : X.A.units + 64 < cLine) : OpR X (fy7 (if neg then .NotEq else .Eq)) (fun x y H Q=>∃ d e,Rq X.K H x d /\ Rq X.K H y e /\ Dat d /\ Dat e /\ Q (.bl (if neg then !ly0 d e else ly0 d e)) H):=by
 intro pins s σ H x y v u Q I rx ry h;refine za0 fun gG=>?_;obtain ⟨d,e,rd,re,hd,he,q⟩:=h;obtain ⟨as,h1⟩:=Rq.reads I d hd.lay rd rx;obtain ⟨bs,h2⟩:=Rq.reads I e he.lay re ry;refine gG ?_;clear gG;cases neg with
 | false=>exact SeqAt.compareEq_reads h1 h2 hd.lay he.lay (by have:=hd.dep; omega) ⟨.bl _,H,I,rfl,q⟩
 | true=>exact SeqAt.compareNe_reads h1 h2 hd.lay he.lay (by have:=hd.dep; omega) ⟨.bl _,H,I,rfl,q⟩
def dat (W : Wl) (x : El) (d : PyData) : Prop:=x = .d d \/ ∃ ds,d = .list ds /\ lstD W x ds
theorem RW.dat {F : Hp} {A : List Addr} {H : Hp} (r : RW X.K F A W H) {x : El} {v : V} {d : PyData} (z : ElR X.K F A x v) (h : dat W x d) : Rq X.K H v d:=by
 rcases h with rfl | ⟨ds,rfl,h⟩
 ·exact Rq.same r.sub _ z
 ·refine za0 fun gG=>?_;obtain ⟨a,vs,rfl,hs,z⟩:=r.lst z h;refine gG ?_;clear gG;exact .lst hs (Rqs.of (zg1 (fun _ _ t=>Rq.same r.sub _ t) z))
theorem zf24 {x y : El} {d e : PyData} (hu : X.A.units + 64 < cLine) (hx : dat W x d) (hy : dat W y e) (hd : Dat d) (he : Dat e) (h : k (.d (.bool (ly0 d e))) W) : OB X (fy7 .Eq) x y W k :=
 .of (zc37 false hu) fun F A H Q vx vy r zx zy q=>⟨d,e,r.dat zx hx,r.dat zy hy,hd,he,q.same r (.dd (Rq.bl _)) h⟩
theorem za32 {x y : El} {d e : PyData} (hu : X.A.units + 64 < cLine) (hx : dat W x d) (hy : dat W y e) (hd : Dat d) (he : Dat e) (h : k (.d (.bool (!ly0 d e))) W) : OB X (fy7 .NotEq) x y W k :=
 .of (zc37 true hu) fun F A H Q vx vy r zx zy q=>⟨d,e,r.dat zx hx,r.dat zy hy,hd,he,q.same r (.dd (Rq.bl _)) h⟩
theorem ze12 {i j : Int} (h : k (.d (.bool (decide (i = j)))) W) : OB X (fy7 .Eq) (.d (.int i)) (.d (.int j)) W k:=.of zc64 fun F A H Q vx vy r zx zy q=>by
 obtain rfl:=Rq.zd1 zx;obtain rfl:=Rq.zd1 zy;exact ⟨rfl,q.same r (.dd (by have : decide (V.int i = V.int j) = decide (i = j):=(by simp); rw [this]; exact Rq.bl _)) h⟩
theorem ze13 {i j : Int} (h : k (.d (.bool (!decide (i = j)))) W) : OB X (fy7 .NotEq) (.d (.int i)) (.d (.int j)) W k:=.of zd88 fun F A H Q vx vy r zx zy q=>by
 obtain rfl:=Rq.zd1 zx;obtain rfl:=Rq.zd1 zy;exact ⟨rfl,q.same r (.dd (by have : decide (V.int i = V.int j) = decide (i = j):=(by simp); rw [this]; exact Rq.bl _)) h⟩
theorem zo2 {i j : Str} (h : k (.d (.bool (decide (i = j)))) W) : OB X (fy7 .Eq) (.d (.str i)) (.d (.str j)) W k:=.of zc64 fun F A H Q vx vy r zx zy q=>by
 obtain rfl:=Rq.zg9 zx;obtain rfl:=Rq.zg9 zy;exact ⟨rfl,q.same r (.dd (by have : decide (V.str i = V.str j) = decide (i = j):=(by simp); rw [this]; exact Rq.bl _)) h⟩
theorem zP9 {i j : Str} (h : k (.d (.bool (!decide (i = j)))) W) : OB X (fy7 .NotEq) (.d (.str i)) (.d (.str j)) W k:=.of zd88 fun F A H Q vx vy r zx zy q=>by
 obtain rfl:=Rq.zg9 zx;obtain rfl:=Rq.zg9 zy;exact ⟨rfl,q.same r (.dd (by have : decide (V.str i = V.str j) = decide (i = j):=(by simp); rw [this]; exact Rq.bl _)) h⟩
theorem zc38 {i j : Bool} (h : k (.d (.bool (decide (i = j)))) W) : OB X (fy7 .Eq) (.d (.bool i)) (.d (.bool j)) W k:=.of zc64 fun F A H Q vx vy r zx zy q=>by
 obtain rfl:=Rq.zv3 zx;obtain rfl:=Rq.zv3 zy;exact ⟨rfl,q.same r (.dd (by have : decide (V.bl i = V.bl j) = decide (i = j):=(by simp); rw [this]; exact Rq.bl _)) h⟩
def isNone : PyData->Bool
 | .none=>true
 | _=>false
theorem za33 {x : PyData} (h : k (.d (.bool (isNone x))) W) : OB X (fy7 .Is) (.d x) (.d .none) W k:=.of zd89 fun F A H Q vx vy r zx zy q=>by
 obtain rfl:=Rq.zc31 zy;refine ⟨rfl,q.same r (.dd ?_) h⟩
 have : decide (vx = V.non) = isNone x:=by
  have zx : Rq X.K F vx x:=zx;cases zx <;> simp [isNone]
 rw [this];exact Rq.bl _
theorem zL6 {x : PyData} (h : k (.d (.bool (!isNone x))) W) : OB X (fy7 .IsNot) (.d x) (.d .none) W k:=.of zc65 fun F A H Q vx vy r zx zy q=>by
 obtain rfl:=Rq.zc31 zy;refine ⟨rfl,q.same r (.dd ?_) h⟩
 have : decide (vx = V.non) = isNone x:=by
  have zx : Rq X.K F vx x:=zx;cases zx <;> simp [isNone]
 rw [this];exact Rq.bl _
theorem ze14 {i j : Str} (h : k (.d (.bool (!(wy4 j i 0 j.length 1).isEmpty))) W) : OB X (fy7 .In) (.d (.str i)) (.d (.str j)) W k:=.of za08 fun F A H Q vx vy r zx zy q=>by
 obtain rfl:=Rq.zg9 zx;obtain rfl:=Rq.zg9 zy;exact ⟨i,j,rfl,rfl,q.same r (.dd (Rq.bl _)) h⟩
theorem za34 {xs : List Str} {x : Str} : inV (.str x) (xs.map V.str) = decide (x∈xs):=by
 unfold inV;rw [List.any_map]
 induction xs with
 | nil=>simp
 | cons a r ih =>
  rw [ry3,ih]
  have : (eqV (V.str a) (V.str x)) = decide (x = a):=by
   by_cases e : a = x
   ·subst e; simp [eqV]
   ·have e' : ¬ x = a:=fun z=>e z.symm;simp [eqV,e,e']
  simp [this]
theorem zB6 {K : ay4} {F : Hp} : ∀ {xs : List Str} {vs : List V},Paired (fun d v=>Rq K F v d) (xs.map iy4) vs->vs = xs.map V.str
 | [],_,.nil=>rfl
 | x :: xs,_,.cons r t=>by rw [zB6 t,Rq.zg9 r]; rfl
theorem za35 {K : ay4} {F : Hp} : ∀ {xs : List Int} {vs : List V},Paired (fun d v=>Rq K F v d) (xs.map wy8) vs->vs = xs.map V.int
 | [],_,.nil=>rfl
 | x :: xs,_,.cons r t=>by rw [za35 t,Rq.zd1 r]; rfl
theorem zc39 {K : ay4} {F : Hp} : ∀ {xs : List Bool} {vs : List V},Paired (fun d v=>Rq K F v d) (xs.map PyData.bool) vs->vs = xs.map V.bl
 | [],_,.nil=>rfl
 | x :: xs,_,.cons r t=>by rw [zc39 t,Rq.zv3 r]; rfl
theorem zH3 {xs : List Str} : (xs.map V.str).all zA9 = true:=by rw [List.all_map]; exact List.all_eq_true.mpr fun _ _=>rfl
theorem zc87 {x : Str} {y : El} {xs : List Str} (hy : lstD W y (xs.map .str) \/ y = .d (.tuple (xs.map .str))) (h : k (.d (.bool (!decide (x∈xs)))) W) : OB X (fy7 .NotIn) (.d (.str x)) y W k:=.of zG4 fun F A H Q vx vy r zx zy q=>by
 obtain rfl:=Rq.zg9 zx;rcases hy with hy | rfl
 ·refine za0 fun gG=>?_;obtain ⟨a,vs,rfl,hs,z⟩:=r.lst zy hy;refine gG ?_;clear gG;obtain rfl:=zB6 z;refine ⟨a,_,rfl,.inl (.inl hs),rfl,zH3,?_⟩;rw [if_pos rfl,za34];exact q.same r (.dd (Rq.bl _)) h
 ·refine za0 fun gG=>?_;obtain ⟨a,vs,rfl,hs,z⟩:=Rq.zh6 zy;refine gG ?_;clear gG;obtain rfl:=zB6 z;refine ⟨a,_,rfl,.inr (r.sub.zt9 hs),rfl,zH3,?_⟩;rw [if_pos rfl,za34];exact q.same r (.dd (Rq.bl _)) h
theorem zi3 {α β : Type} {F : α->β->Prop} {a : α} {m : List β} (h : Paired F [a] m) : ∃ b,m = [b] /\ F a b:=by
 cases h with
 | cons r t=>cases t; exact ⟨_,rfl,r⟩
theorem zs3 {α β : Type} {F : α->β->Prop} {a b : α} {m : List β} (h : Paired F [a,b] m) : ∃ c d,m = [c,d] /\ F a c /\ F b d:=by
 cases h with
 | cons r t=>obtain ⟨d,rfl,q⟩:=zi3 t; exact ⟨_,_,rfl,r,q⟩
theorem zc88 {x : Str} (hl : x.length <= by0) (h : k (.d (.int x.length)) W) : CB X (.builtin "len") [.d (.str x)] W k:=.of zG5 fun F A H Q vs r zs q=>by
 refine za0 fun gG=>?_;obtain ⟨v,rfl,z⟩:=zi3 zs;refine gG ?_;clear gG;obtain rfl:=Rq.zg9 z;exact ⟨x,rfl,hl,q.same r (.dd (Rq.int _)) h⟩
theorem zq8 {ds : List PyData} (h : k (.d (.int ds.length)) W) : CB X (.builtin "len") [.d (.tuple ds)] W k:=.of zr9 fun F A H Q vs r zs q=>by
 refine za0 fun gG=>?_;obtain ⟨v,rfl,z⟩:=zi3 zs;obtain ⟨a,vs,rfl,hs,z⟩:=Rq.zh6 z;refine gG ?_;clear gG;exact ⟨a,vs,rfl,.inr (r.sub.zt9 hs),by rw [<- zb2 z]; exact q.same r (.dd (Rq.int _)) h⟩
theorem zv7 {ds : List PyData} {x : El} (hx : lstD W x ds) (h : k (.d (.int ds.length)) W) : CB X (.builtin "len") [x] W k:=.of zr9 fun F A H Q vs r zs q=>by
 refine za0 fun gG=>?_;obtain ⟨v,rfl,z⟩:=zi3 zs;obtain ⟨a,vs,rfl,hs,z⟩:=r.lst z hx;refine gG ?_;clear gG;exact ⟨a,vs,rfl,.inl (.inl hs),by rw [<- zb2 z]; exact q.same r (.dd (Rq.int _)) h⟩
theorem za36 {i j : Int} (hc : CDiv i j) (h : k (.d (.tuple [.int (i / j),.int (i % j)])) W) : CB X (.builtin "divmod") [.d (.int i),.d (.int j)] W k:=.of zK9 fun F A H Q vs r zs q=>by
 refine za0 fun gG=>?_;obtain ⟨u,v,rfl,z1,z2⟩:=zs3 zs;refine gG ?_;clear gG;obtain rfl:=Rq.zd1 z1;obtain rfl:=Rq.zd1 z2;exact ⟨i,j,rfl,hc,fun p hp=>q.newT r hp (.cons (Rq.int _) (.cons (Rq.int _) .nil)) h⟩
theorem zc89 {b : Bool} (h : k (.d (.int (if b then 1 else 0))) W) : CB X (.type "int") [.d (.bool b)] W k:=.of za09 fun F A H Q vs r zs q=>by
 refine za0 fun gG=>?_;obtain ⟨v,rfl,z⟩:=zi3 zs;refine gG ?_;clear gG;obtain rfl:=Rq.zv3 z;exact .inr ⟨b,rfl,q.same r (.dd (Rq.int _)) h⟩
theorem zc40 {x : El} {bs : List Bool} (hc : X.calm = true) (hx : lstD W x (bs.map .bool)) (h : k (.d (.bool (bs.all id))) W) : CB X (.builtin "all") [x] W k:=.of (zb44 hc) fun F A H Q vs r zs q=>by
 refine za0 fun gG=>?_;obtain ⟨v,rfl,z⟩:=zi3 zs;obtain ⟨a,vs,rfl,hs,z⟩:=r.lst z hx;refine gG ?_;clear gG;obtain rfl:=zc39 z;exact ⟨a,bs,rfl,.inl hs,q.same r (.dd (Rq.bl _)) h⟩
theorem zv8 {x : El} {ds : List PyData} (hx : lstD W x ds) (h : k (.d (.tuple ds)) W) : CB X (.type "tuple") [x] W k:=.of zB1 fun F A H Q vs r zs q=>by
 refine za0 fun gG=>?_;obtain ⟨v,rfl,z⟩:=zi3 zs;obtain ⟨a,vs,rfl,hs,z⟩:=r.lst z hx;refine gG ?_;clear gG;exact ⟨a,vs,rfl,.inl ⟨.inl hs,fun l hl=>q.newT r hl z h⟩⟩
theorem za37 {ds : List PyData} (h : k (.o W.length) (W++[.lst (zb6 ds)])) : CB X (.type "list") [.d (.tuple ds)] W k:=.of zG6 fun F A H Q vs r zs q=>by
 refine za0 fun gG=>?_;obtain ⟨v,rfl,z⟩:=zi3 zs;obtain ⟨a,vs,rfl,hs,z⟩:=Rq.zh6 z;refine gG ?_;clear gG;exact ⟨a,vs,rfl,.inr (r.sub.zt9 hs),fun l hl=>q.newO r hl (o:=.lst (zb6 ds)) ⟨_,rfl,zi2 z⟩ h⟩
def tyD : PyData->String
 | .none => "NoneType" | .bool _ => "bool" | .int _ => "int" | .str _ => "str" | .list _ => "list" | .tuple _ => "tuple" | .dict _ => "dict"
theorem zb51 : zj8 X (.builtin "isinstance") (fun xs H Q=>∃ x d T b,xs = [x,.ty T] /\ Rq X.K H x d /\ PySem.W.kitOne X.K (.type (tyD d)) (.type T) = some b /\ Q (.bl b) H):=by
 intro pins s σ H xs us Q I r h;refine za0 fun gG=>?_;obtain ⟨x,d,T,b,rfl,rd,e,q⟩:=h;obtain ⟨u,v,rfl,ru,rv⟩:=r.two;refine gG ?_;clear gG;cases (show v = sy3 T from rv);have fin : ∀ tk,EP X pins σ Q (.bool b) { s with toks:=tk }:=fun tk=>⟨.bl b,H,I.tok tk,rfl,q⟩
 cases rd with
 | non=>exact zi0 I ru .non e fin
 | bl y=>exact zi0 I ru (.bl y) e fin
 | int i=>exact zi0 I ru (.int i) e fin
 | str y=>exact zi0 I ru (.str y) e fin
 | lst h _ =>
  rcases h with h | ⟨o,h⟩
  ·exact zi0 I ru (.lst h) e fin
  ·exact zi0 I ru (.frz h) e fin
 | @tup a vs ds h _ =>
  cases (show u = dy2 a from ru);refine za0 fun gG=>?_;obtain ⟨its,_,⟨o,h1,h2,_⟩,_⟩:=I.tuple h;refine gG ?_;clear gG;exact jy1 PySem.W.kitx_tuple I.kIn ⟨o,h1,h2⟩ e (fun z=>nomatch z) fin
 | dct h=>exact zi0 I ru (.dK h) e fin
theorem kitD (K : ay4) (d : PyData) (T : String) (h : T = "int" \/ T = "bool" \/ T = "str" \/ T = "tuple" \/ T = "list" \/ T = "dict") : PySem.W.kitOne K (.type (tyD d)) (.type T) = some (tyD d == T || (tyD d == "bool" && T == "int")):=by
 cases d <;> rcases h with rfl | rfl | rfl | rfl | rfl | rfl <;> rfl
def isD (d : PyData) (T : String) : Bool:=tyD d == T || (tyD d == "bool" && T == "int")
theorem zo3 {e : Expr} {T : Str} {Ts : String} {p p' pos : Pos} (hg : Gl X "isinstance") (hm : X.mg "isinstance" = none) (hv : ey9 "isinstance" = some (.builtin "isinstance")) (hgT : Gl X T) (hmT : X.mg T = none) (hvT : ey9 T = some (.type Ts))
  (hT : Ts = "int" \/ Ts = "bool" \/ Ts = "str" \/ Ts = "tuple" \/ Ts = "list" \/ Ts = "dict") (h : BE X S W e fun x W1=>∃ d,dat W1 x d /\ k (.d (.bool (isD d Ts))) W1)
  (hn : T ≠ "__name__" := by decide) (hd : (T == ("__debug__" : Str)) = false:=by decide)
  (hs : ey8 [e,.Name T p'] X.env = (false,eval e X.env) :: ey8 [.Name T p'] X.env:=by rfl) (hs2 : ey8 [.Name T p'] X.env = [(false,eval (.Name T p') X.env)]:=by rfl) (hpl : (backTo pos (ey8 [.Name T p'] X.env)).any (·.1) = false:=by rfl) :
  BE X S W (.Call (.Name "isinstance" p) [e,.Name T p'] [] pos) k :=
 .of (zt6 zb51 hg hm hv (zm9 zi7 (zm9 (zc59 (v:=.ty Ts) hgT hmT hvT rfl hn hd) zz1 hs2) hs) (by decide) (by decide) hs hpl) fun F A σ H Q x0 r sr q=>h.use x0 r sr fun F1 A1 W1 H1 x vx e1 r1 z1 zR=>by
  refine za0 fun gG=>?_;obtain ⟨d,hd,h1⟩:=zR;refine gG ?_;clear gG;exact ⟨vx,d,Ts,_,rfl,r1.dat z1 hd,kitD X.K d Ts hT,(q.ext e1).same r1 (.dd (Rq.bl _)) h1⟩
def rUM (X : Bc) (id : String) : V->List V->Hp->VK->Prop:=fun x xs H Q=>∃ r,MtR X id r /\ r x xs H Q
theorem mt_U {id : String} : MtR X id (rUM X id):=fun pins s σ H x xs v us Q I rx rs zR=>by obtain ⟨r,h,q⟩:=zR; exact h pins s σ H x xs v us Q I rx rs q
def MB (X : Bc) (T id : String) (x : El) (xs : List El) (W : Wl) (k : KB) : Prop:=∀ F A H Q v vs,RW X.K F A W H->ElR X.K F A x v->Paired (ElR X.K F A) xs vs->zq4 X.K F A k Q->rUM X id v vs H Q
theorem MB.of {T id : String} {x : El} {xs : List El} {r1 : V->List V->Hp->VK->Prop} (hc : MtR X id r1) (i : ∀ F A H Q v vs,RW X.K F A W H->ElR X.K F A x v->Paired (ElR X.K F A) xs vs->zq4 X.K F A k Q->r1 v vs H Q) : MB X T id x xs W k :=
 fun F A H Q v vs r zx z q=>⟨r1,hc,i F A H Q v vs r zx z q⟩
def isTy (W : Wl) : El->String->Prop
 | .d (.str _),T=>T = "str"
 | .d (.list _),T=>T = "list"
 | .o j,T=>(T = "list" /\ ∃ es,W[j]? = some (.lst es)) \/ (T = "dict" /\ ((∃ es,W[j]? = some (.dK es)) \/ ∃ es,W[j]? = some (.dT es)))
 | _,_=>False
theorem RW.ty {F : Hp} {A : List Addr} {H : Hp} (r : RW X.K F A W H) {x : El} {v : V} {T : String} (z : ElR X.K F A x v) (h : isTy W x T) : tyV X.K T v H:=by
 cases x with
 | o j =>
  refine za0 fun gG=>?_;obtain ⟨a,ha,rfl⟩:=z;refine gG ?_;clear gG;rcases h with ⟨rfl,es,hj⟩ | ⟨rfl,⟨es,hj⟩ | ⟨es,hj⟩⟩
  ·refine za0 fun gG=>?_;obtain ⟨h,e,vs,rfl,p⟩:=r.obj j a _ ha hj;refine gG ?_;clear gG;exact .inl ⟨rfl,vs,SqL.of e⟩
  ·refine za0 fun gG=>?_;obtain ⟨h,e,vs,rfl,p⟩:=r.obj j a _ ha hj;refine gG ?_;clear gG;exact .inr (.inr (.inl ⟨rfl,.inl ⟨vs,e⟩⟩))
  ·refine za0 fun gG=>?_;obtain ⟨h,e,vs,rfl,p⟩:=r.obj j a _ ha hj;refine gG ?_;clear gG;exact .inr (.inr (.inl ⟨rfl,.inr ⟨vs,e⟩⟩))
 | s ns=>exact h.elim
 | x C=>exact h.elim
 | p ks=>exact h.elim
 | t xs=>exact h.elim
 | d x =>
  cases x with
  | str y=>obtain rfl:=Rq.zg9 z; exact h
  | list ds =>
   refine za0 fun gG=>?_;obtain ⟨a,vs,rfl,hs,_⟩:=Rq.zz3 z;refine gG ?_;clear gG;exact .inl ⟨h,vs,.inl (r.sub.rd hs)⟩
  | _=>exact h.elim
theorem zm5 {o e : Expr} {es : List Expr} {name : Str} {T id : String} {apos cpos : Pos} (pa : PlainAttrs T) (slot : Slot T name id) (hty : typeOf (.builtin id) = pure (.type "method_descriptor"))
  (h : BE X S W o fun x W1=>isTy W1 x T /\ BA X S W1 (e :: es) fun xs W2=>MB X T id x xs W2 k)
  (hbase : oy1 o name X.env (eval o X.env) = eval o X.env:=by rfl)
  (hfew : ((backTo cpos (ey8 (e :: es) X.env)).all (fun x=>!x.1) && (backToKw cpos (keywordEach [] X.env)).all (fun x=>x.1.isSome)
   && decide ((e :: es).length + ([] : List Keyword).length + (if ([] : List Keyword).isEmpty then 0 else 1) < 30)) = true:=by rfl)
  (hline : (apos.endLine == cpos.line) = true:=by rfl) (hs : ey8 (e :: es) X.env = (false,eval e X.env) :: ey8 es X.env:=by rfl) (hplain : (backTo cpos (ey8 es X.env)).any (·.1) = false:=by rfl) :
  BE X S W (.Call (.Attribute o name apos) (e :: es) [] cpos) k :=
 .of (zf18 pa slot hty mt_U zi7 pa_U hbase hfew hline hs hplain) fun F A σ H Q x0 r sr q=>h.use x0 r sr fun F1 A1 W1 H1 x vx e1 r1 z1 ⟨ht,h1⟩ =>
  ⟨r1.ty z1 ht,h1.use (x0.trans e1) r1 (sr.ext e1) fun F2 A2 W2 H2 xs vs e2 r2 z2 h2=>h2 F2 A2 H2 Q vx vs r2 (z1.ext e2) z2 (q.ext (e1.trans e2))⟩
theorem zk2 {j : Nat} {es : List El} {y : El} (hj : W[j]? = some (.lst es)) (hl : es.length < by0) (h : k (.d .none) (W.set j (.lst (es++[y])))) : MB X "list" "list.append" (.o j) [y] W k:=.of za18 fun F A H Q v vs r zx z q=>by
 refine za0 fun gG=>?_;obtain ⟨a,ws,rfl,ha,hH,p⟩:=r.at zx hj;obtain ⟨u,rfl,zu⟩:=zi3 z;refine gG ?_;clear gG;exact ⟨a,ws,u,rfl,rfl,hH,by rw [<- zb2 p]; exact hl,q.put r ha (o:=.lst (es++[y])) ⟨_,rfl,zo0 p (.cons zu .nil)⟩ (.dd Rq.non) h⟩
theorem za38 {j : Nat} {es : List El} {y : El} (hj : W[j]? = some (.lst (y :: es))) (h : k y (W.set j (.lst es))) : MB X "list" "list.pop" (.o j) [.d (.int 0)] W k:=.of zP5 fun F A H Q v vs r zx z q=>by
 refine za0 fun gG=>?_;obtain ⟨a,ws,rfl,ha,hH,p⟩:=r.at zx hj;obtain ⟨u,rfl,zu⟩:=zi3 z;refine gG ?_;clear gG;obtain rfl:=Rq.zd1 zu;cases p with
 | @cons _ b _ m r1 t =>
  refine ⟨a,b :: m,0,0,b,rfl,rfl,hH,by decide,by decide,by simp [seqIndex?],rfl,?_⟩;exact q.put r ha (o:=.lst es) ⟨_,rfl,t⟩ r1 h
theorem zQ0 {K : ay4} {F : Hp} : ∀ {xs : List Str},Paired (fun d v=>Rq K F v d) (xs.map iy4) (xs.map V.str)
 | []=>.nil
 | x :: xs=>.cons (Rq.str x) zQ0
end
structure DB where
 nx : Sl->Wl->Prop
 rt : KB
 bk : Sl->Wl->Prop:=fun _ _=>False
 ct : Sl->Wl->Prop:=fun _ _=>False
structure Ex1 (n : Nat) (F : Hp) (A : List Addr) (F' : Hp) (A' : List Addr) : Prop where
 same : zm1 F F'
 pre : A.take n <+: A'
 len : n <= A'.length
theorem Ex1.refl {n : Nat} {F : Hp} {A : List Addr} (h : n <= A.length) : Ex1 n F A F A:=⟨.refl _,ry8 _ _,h⟩
theorem zo4 {n : Nat} {A A' : List Addr} (h : A.take n <+: A') (hn : n <= A.length) : A'.take n = A.take n:=by
 refine za0 fun gG=>?_;obtain ⟨r,rfl⟩:=h;refine gG ?_;clear gG;rw [List.take_append_of_le_length (by rw [dy3]; omega),List.take_take,Nat.min_self]
theorem Ex1.trans {n : Nat} {F F1 F2 : Hp} {A A1 A2 : List Addr} (hn : n <= A.length) (a : Ex1 n F A F1 A1) (b : Ex1 n F1 A1 F2 A2) : Ex1 n F A F2 A2 :=
 ⟨a.same.trans b.same,by rw [<- zo4 a.pre hn]; exact b.pre,b.len⟩
theorem Ext.ex1 {n : Nat} {F F1 : Hp} {A A1 : List Addr} (hn : n <= A.length) (a : Ext F A F1 A1) : Ex1 n F A F1 A1:=⟨a.same,(ry8 _ _).trans a.pre,ey0 hn a.pre.length_le⟩
structure zH4 (K : ay4) (n : Nat) (F : Hp) (A : List Addr) (D : DB) (E : Ends) : Prop where
 nx : ∀ F' A' W' H' S' σ',Ex1 n F A F' A'->RW K F' A' W' H'->SR K F' A' S' σ'->D.nx S' W'->E.nx σ' H'
 bk : ∀ F' A' W' H' S' σ',Ex1 n F A F' A'->RW K F' A' W' H'->SR K F' A' S' σ'->D.bk S' W'->E.bk σ' H'
 ct : ∀ F' A' W' H' S' σ',Ex1 n F A F' A'->RW K F' A' W' H'->SR K F' A' S' σ'->D.ct S' W'->E.ct σ' H'
 rt : ∀ F' A' W' H' e v,Ex1 n F A F' A'->RW K F' A' W' H'->ElR K F' A' e v->D.rt e W'->E.rt v H'
theorem zH4.ext {K : ay4} {n : Nat} {F F1 : Hp} {A A1 : List Addr} {D : DB} {E : Ends} (hn : n <= A.length) (h : zH4 K n F A D E) (x : Ex1 n F A F1 A1) : zH4 K n F1 A1 D E :=
 ⟨fun F' A' W' H' S' σ' y=>h.nx F' A' W' H' S' σ' (x.trans hn y),fun F' A' W' H' S' σ' y=>h.bk F' A' W' H' S' σ' (x.trans hn y),fun F' A' W' H' S' σ' y=>h.ct F' A' W' H' S' σ' (x.trans hn y),fun F' A' W' H' e v y=>h.rt F' A' W' H' e v (x.trans hn y)⟩
structure Bc.Ams (X : Bc) (n : Nat) (F : Hp) (A : List Addr) : Prop where
 am : X.Am F A
 le : X.A0.length <= n
theorem Bc.Ams.ext {X : Bc} {n : Nat} {F F' : Hp} {A A' : List Addr} (x : X.Ams n F A) (e : Ext F A F' A') : X.Ams n F' A':=⟨x.am.trans e,x.le⟩
theorem Bc.Ams.ex1 {X : Bc} {n : Nat} {F F' : Hp} {A A' : List Addr} (x : X.Ams n F A) (hn : n <= A.length) (e : Ex1 n F A F' A') : X.Ams n F' A':=⟨⟨x.am.same.trans e.same,by
 obtain ⟨r,hr⟩:=x.am.pre;have h1 : X.A0 = A.take X.A0.length:=by rw [<- hr,sy6]
 have h2 : A.take X.A0.length = (A.take n).take X.A0.length:=by rw [List.take_take,oy6 x.le]
 rw [h1,h2]
 exact (ry8 _ _).trans e.pre⟩,x.le⟩
theorem Bc.Ams.up {X : Bc} {n m : Nat} {F : Hp} {A : List Addr} (x : X.Ams n F A) (h : n <= m) : X.Ams m F A:=⟨x.am,ey0 x.le h⟩
def tDS (X : Bc) (n : Nat) (S : Sl) (W : Wl) (D : DB) : TS:=fun E σ H=>∃ F A,n <= A.length /\ X.Ams n F A /\ RW X.K F A W H /\ SR X.K F A S σ /\ zH4 X.K n F A D E
def BS (X : Bc) (n : Nat) (S : Sl) (W : Wl) (st : Stmt) (D : DB) : Prop:=PS X st (tDS X n S W D)
def BSs (X : Bc) (n : Nat) (S : Sl) (W : Wl) (st : List Stmt) (D : DB) : Prop:=PSs X st (tDS X n S W D)
def tUSt (X : Bc) (st : Stmt) : TS:=fun E σ H=>∃ t,PS X st t /\ t E σ H
def tUSs (X : Bc) (st : List Stmt) : TS:=fun E σ H=>∃ t,PSs X st t /\ t E σ H
section
variable {X : Bc} {n : Nat} {S : Sl} {W : Wl} {D : DB}
theorem ps_U {st : Stmt} : PS X st (tUSt X st):=fun pins s σ H E I zR=>by obtain ⟨t,h,q⟩:=zR; exact h pins s σ H E I q
theorem zV1 {st : List Stmt} : PSs X st (tUSs X st):=fun pins s σ H E I zR=>by obtain ⟨t,h,q⟩:=zR; exact h pins s σ H E I q
theorem BS.of {st : Stmt} {t : TS} (h : PS X st t) (i : ∀ F A σ H E,n <= A.length->X.Ams n F A->RW X.K F A W H->SR X.K F A S σ->zH4 X.K n F A D E->t E σ H) : BS X n S W st D :=
 fun pins s σ H E I zR=>by obtain ⟨F,A,hn,x0,r,sr,q⟩:=zR; exact h pins s σ H E I (i F A σ H E hn x0 r sr q)
theorem BSs.of {st : List Stmt} {t : TS} (h : PSs X st t) (i : ∀ F A σ H E,n <= A.length->X.Ams n F A->RW X.K F A W H->SR X.K F A S σ->zH4 X.K n F A D E->t E σ H) : BSs X n S W st D :=
 fun pins s σ H E I zR=>by obtain ⟨F,A,hn,x0,r,sr,q⟩:=zR; exact h pins s σ H E I (i F A σ H E hn x0 r sr q)
theorem BS.use {st : Stmt} (h : BS X n S W st D) {F : Hp} {A : List Addr} {σ : St} {H : Hp} {E : Ends} (hn : n <= A.length) (x0 : X.Ams n F A) (r : RW X.K F A W H) (s : SR X.K F A S σ) (q : zH4 X.K n F A D E) : tUSt X st E σ H:=⟨_,h,F,A,hn,x0,r,s,q⟩
theorem BSs.use {st : List Stmt} (h : BSs X n S W st D) {F : Hp} {A : List Addr} {σ : St} {H : Hp} {E : Ends} (hn : n <= A.length) (x0 : X.Ams n F A) (r : RW X.K F A W H) (s : SR X.K F A S σ) (q : zH4 X.K n F A D E) : tUSs X st E σ H:=⟨_,h,F,A,hn,x0,r,s,q⟩
theorem zf4 (h : D.nx S W) : BSs X n S W [] D:=.of zc61 fun F A σ H E hn x0 r sr q=>q.nx F A W H S σ (.refl hn) r sr h
abbrev seqD (X : Bc) (n : Nat) (rest : List Stmt) (D : DB) : DB:={ D with nx:=fun S' W'=>BSs X n S' W' rest D }
abbrev zc90 (D : DB) (Q : Sl->Wl->Prop) : DB:={ D with nx:=Q,ct:=Q,bk:=D.nx }
theorem za5 {st : Stmt} {rest : List Stmt} (h : BS X n S W st (seqD X n rest D)) : BSs X n S W (st :: rest) D :=
 .of (zb31 ps_U zV1) fun F A σ H E hn x0 r sr q=>h.use hn x0 r sr ⟨fun F' A' W' H' S' σ' x r' sr' h'=>h'.use x.len (x0.ex1 hn x) r' sr' (q.ext hn x),q.bk,q.ct,q.rt⟩
theorem zb1 {st : Stmt} (h : BS X n S W st D) : BSs X n S W [st] D:=zc62 h
theorem ze1 {e : Expr} {pos : Pos} (h : BE X S W e fun _ W1=>D.nx S W1) (hs : swapsWith e none pos.line X.env = pure false:=by rfl) : BS X n S W (.Expr e pos) D :=
 .of (zc63 zi7 hs) fun F A σ H E hn x0 r sr q=>h.use x0.am r sr fun F1 A1 W1 H1 x vx e1 r1 z1 h1=>q.nx F1 A1 W1 H1 S σ (e1.ex1 hn) r1 (sr.ext e1) h1
theorem zf2 {e : Expr} {pos : Pos} (h : BE X S W e D.rt) : BS X n S W (.Return (some e) pos) D :=
 .of (zZ9 zi7) fun F A σ H E hn x0 r sr q=>h.use x0.am r sr fun F1 A1 W1 H1 x vx e1 r1 z1 h1=>q.rt F1 A1 W1 H1 x vx (e1.ex1 hn) r1 z1 h1
theorem zh7 {c : Expr} {a b : List Stmt} {pos : Pos} (h : BT X S W c fun t W1=>if t = true then BSs X n S W1 a D else BSs X n S W1 b D) : BS X n S W (.If c a b pos) D :=
 .of (ze99 pt_U zV1 zV1) fun F A σ H E hn x0 r sr q=>h.use x0.am r sr fun F1 A1 W1 H1 t e1 r1 h1=>by
  have hn1 : n <= A1.length:=(e1.ex1 hn).len;cases t with
  | true =>
   rw [if_pos rfl] at h1 ⊢;exact h1.use hn1 (x0.ext e1) r1 (sr.ext e1) (q.ext hn (e1.ex1 hn))
  | false =>
   rw [if_neg (by decide)] at h1 ⊢;exact h1.use hn1 (x0.ext e1) r1 (sr.ext e1) (q.ext hn (e1.ex1 hn))
theorem zc2 {i : Nat} {x : Str} {e : Expr} {pos pos' : Pos} (hN : X.N.Nodup) (hi : X.N[i]? = some x) (hx : Loc X.env.scope x) (h : BE X S W e fun y W1=>D.nx (S.set i (some y)) W1) (hs : swapsWith e (some (.Name x pos')) pos.line X.env = pure false:=by rfl) (hf : X.fn x = true \/ X.env.scope.names.lookup x = some .local:=by first | exact .inl rfl | exact .inr rfl | assumption) :
  BS X n S W (.Assign [.Name x pos'] e pos) D :=
 .of (zd79 hN hi hx zi7 hs hf) fun F A σ H E hn x0 r sr q=>h.use x0.am r sr fun F1 A1 W1 H1 y vy e1 r1 z1 h1=>q.nx F1 A1 W1 H1 _ _ (e1.ex1 hn) r1 ((sr.ext e1).set z1 i) h1
def tUG (X : Bc) (tg : Expr) : TG:=fun v σ H Q=>∃ t,PG X tg t /\ t v σ H Q
theorem pg_U {tg : Expr} : PG X tg (tUG X tg):=fun pins s σ H v u Q I r zR=>by obtain ⟨t,h,q⟩:=zR; exact h pins s σ H v u Q I r q
def BG (X : Bc) (S : Sl) (W : Wl) (tg : Expr) (e : El) (k : Sl->Wl->Prop) : Prop:=∀ F A σ H v (Q : St->Hp->Prop),X.Am F A->RW X.K F A W H->SR X.K F A S σ->ElR X.K F A e v ->
 (∀ F' A' W' H' S' σ',Ext F A F' A'->RW X.K F' A' W' H'->SR X.K F' A' S' σ'->k S' W'->Q σ' H')->tUG X tg v σ H Q
theorem zk7 {i : Nat} {x : Str} {pos : Pos} {e : El} {k : Sl->Wl->Prop} (hN : X.N.Nodup) (hi : X.N[i]? = some x) (hx : Loc X.env.scope x) (h : k (S.set i (some e)) W) (hf : X.fn x = true \/ X.env.scope.names.lookup x = some .local:=by first | exact .inl rfl | exact .inr rfl | assumption) : BG X S W (.Name x pos) e k :=
 fun F A σ H v Q x0 r sr z q=>⟨_,zu8 hN hi hx hf,q F A W H _ _ .refl r (sr.set z i) h⟩
inductive Nms (X : Bc) : List Expr->List Nat->Prop
 | nil : Nms X [] []
 | cons {i : Nat} {x : Str} {pos : Pos} {es : List Expr} {is : List Nat} (hN : X.N.Nodup) (hi : X.N[i]? = some x) (hx : Loc X.env.scope x) (t : Nms X es is)
   (hf : X.fn x = true \/ X.env.scope.names.lookup x = some .local:=by first | exact .inl rfl | exact .inr rfl | assumption)
   (hs : (ly7 (.Name x pos :: es) X.env).map (·.2) = assign (.Name x pos) X.env :: (ly7 es X.env).map (·.2):=by rfl) : Nms X (.Name x pos :: es) (i :: is)
def gNms : List Nat->TGs
 | []=>gNil
 | i :: is=>zU2 (zm8 i) (gNms is)
theorem Nms.pgs {es : List Expr} {is : List Nat} (h : Nms X es is) : PGs X es (gNms is):=by
 induction h with
 | nil=>exact za00
 | cons hN hi hx t hf hs ih=>exact zP3 (zu8 hN hi hx hf) ih hs
def zs4 (S : Sl) : List Nat->List El->Sl
 | i :: is,e :: es=>zs4 (S.set i (some e)) is es
 | _,_=>S
def setAllσ (σ : St) : List Nat->List V->St
 | i :: is,e :: es=>setAllσ (σ.set i (some e)) is es
 | _,_=>σ
theorem zB7 : ∀ {is : List Nat} {vs : List V} {σ : St} {H : Hp} {Q : St->Hp->Prop},is.length = vs.length->Q (setAllσ σ is vs) H->gNms is vs σ H Q
 | [],[],σ,H,Q,_,q=>⟨rfl,q⟩
 | [],_ :: _,_,_,_,h,_=>by simp at h
 | _ :: _,[],_,_,_,h,_=>by simp at h
 | i :: is,v :: vs,σ,H,Q,h,q=>⟨v,vs,rfl,zB7 (is:=is) (by simpa using h) q⟩
theorem SR.zs4 {K : ay4} {F : Hp} {A : List Addr} : ∀ {is : List Nat} {es : List El} {vs : List V} {S : Sl} {σ : St},SR K F A S σ->Paired (ElR K F A) es vs->SR K F A (zs4 S is es) (setAllσ σ is vs)
 | [],_,_,_,_,r,_=>r
 | _ :: _,_,_,_,_,r,.nil=>r
 | i :: is,_,_,S,σ,r,.cons z t=>SR.zs4 (is:=is) (r.set z i) t
theorem zz6 {es : List Expr} {is : List Nat} {c : Nat} {pos : Pos} {ds : List PyData} {k : Sl->Wl->Prop} (hc : X.calm = true) (hm : Nms X es is) (hl : is.length = ds.length) (h : k (zs4 S is (zb6 ds)) W)
  (hn : (ly7 es X.env).length = is.length:=by rfl) (hst : (ly7 es X.env).findIdx? (·.1) = none:=by rfl) : BG X S W (.Tuple es c pos) (.d (.tuple ds)) k :=
 fun F A σ H v Q x0 r sr z q=>by
  refine za0 fun gG=>?_;obtain ⟨a,vs,rfl,hs,p⟩:=Rq.zh6 z;refine gG ?_;clear gG;exact ⟨_,za01 hc hm.pgs hn hst,a,vs,rfl,r.sub.zt9 hs,by rw [<- zb2 p,hl],zB7 (by rw [hl,zb2 p]) (q F A W H _ _ .refl r (sr.zs4 (zi2 p)) h)⟩
theorem zs5 {tg e : Expr} {pos : Pos} (h : BE X S W e fun y W1=>BG X S W1 tg y D.nx) (hs : swapsWithSole [tg] e pos.line X.env = pure false:=by rfl) (hw : swappedStores [tg] e X.env = pure none:=by rfl)
  (h1 : (ly7 [tg] X.env).map (·.2) = [assign tg X.env]:=by rfl) : BS X n S W (.Assign [tg] e pos) D :=
 .of (zd78 zi7 pg_U hs hw h1) fun F A σ H E hn x0 r sr q=>h.use x0.am r sr fun F1 A1 W1 H1 y vy e1 r1 z1 h1=>h1 F1 A1 σ H1 vy _ (x0.am.trans e1) r1 (sr.ext e1) z1 fun F2 A2 W2 H2 S2 σ2 e2 r2 sr2 h2=>q.nx F2 A2 W2 H2 S2 σ2 ((e1.trans e2).ex1 hn) r2 sr2 h2
def ze15 (X : Bc) : TSet:=fun o i v H Q=>∃ t,PSet X t /\ t o i v H Q
theorem ze16 : PSet X (ze15 X):=fun pins s σ H o i v ov iv u Q I r1 r2 r3 zR=>by obtain ⟨t,h,q⟩:=zR; exact h pins s σ H o i v ov iv u Q I r1 r2 r3 q
def SB (X : Bc) (o i v : El) (W : Wl) (k : Wl->Prop) : Prop:=∀ F A H vo vi vv (Q : Hp->Prop),RW X.K F A W H->ElR X.K F A o vo->ElR X.K F A i vi->ElR X.K F A v vv->(∀ F' A' W' H',Ext F A F' A'->RW X.K F' A' W' H'->k W'->Q H')->ze15 X vo vi vv H Q
theorem zH5 {o i : Expr} {pos : Pos} {e : El} {k : Sl->Wl->Prop} (h : BE X S W o fun x W1=>BE X S W1 i fun y W2=>SB X x y e W2 fun W3=>k S W3)
  (ha : ∀ v,assign (.Subscript o i pos) X.env v = (do
   let ov <- holding [v] (eval o X.env)
   let iv <- holding [v,ov] (eval i X.env)
   standAt pos
   holding [v,ov,iv] (setItem ov iv v)
   release [v,ov,iv] []):=by intro _; rfl) : BG X S W (.Subscript o i pos) e k :=
 fun F A σ H v Q x0 r sr z q=>⟨_,zd77 zi7 zi7 ze16 ha,h.use x0 r sr fun F1 A1 W1 H1 x vx e1 r1 z1 h1=>h1.use (x0.trans e1) r1 (sr.ext e1) fun F2 A2 W2 H2 y vy e2 r2 z2 h2 =>
  h2 F2 A2 H2 vx vy v _ r2 (z1.ext e2) z2 (z.ext (e1.trans e2)) fun F3 A3 W3 H3 e3 r3 h3=>q F3 A3 W3 H3 S σ ((e1.trans e2).trans e3) r3 (sr.ext ((e1.trans e2).trans e3)) h3⟩
theorem ze17 {j : Nat} {es : List El} {i : Int} {m : Nat} {v : El} {k : Wl->Prop} (hj : W[j]? = some (.lst es)) (hi : ixN es.length i = some m) (h : k (W.set j (.lst (es.set m v)))) : SB X (.o j) (.d (.int i)) v W k :=
 fun F A H vo vi vv Q r zo zi zv q=>by
  refine za0 fun gG=>?_;obtain ⟨a,ws,rfl,ha,hH,p⟩:=r.at zo hj;refine gG ?_;clear gG;obtain rfl:=Rq.zd1 zi;exact ⟨_,set_list,a,ws,i,m,rfl,rfl,hH,by rw [<- zb2 p]; exact hi,q F A _ _ .refl (r.put ha (o:=.lst (es.set m v)) ⟨_,rfl,zc29 zv m p⟩) h⟩
def tUIp (X : Bc) (op : Operator) : TIp:=fun x y H Q=>∃ t,PIp X op t /\ t x y H Q
theorem zf25 {op : Operator} : PIp X op (tUIp X op):=fun pins s σ H x y v u Q I r1 r2 zR=>by obtain ⟨t,h,q⟩:=zR; exact h pins s σ H x y v u Q I r1 r2 q
def UB (X : Bc) (op : Operator) (x y : El) (W : Wl) (k : KB) : Prop:=∀ F A H vx vy Q,RW X.K F A W H->ElR X.K F A x vx->ElR X.K F A y vy->zq4 X.K F A k Q->tUIp X op vx vy H Q
theorem ze18 {i : Nat} {x : Str} {e : Expr} {op : Operator} {pos pos' : Pos} {a : El} (hN : X.N.Nodup) (hi : X.N[i]? = some x) (hx : Loc X.env.scope x) (hs : S[i]? = some (some a)) (h : BE X S W e fun y W1=>UB X op a y W1 fun z W2=>D.nx (S.set i (some z)) W2)
  (hf : X.fn x = true \/ X.env.scope.names.lookup x = some .local:=by first | exact .inl rfl | exact .inr rfl | assumption) : BS X n S W (.AugAssign (.Name x pos') op e pos) D :=
 .of (zd80 hN hi hx zi7 zf25 hf) fun F A σ H E hn x0 r sr q=>by
  refine za0 fun gG=>?_;obtain ⟨v,h1,h2⟩:=sr.get i a hs;refine gG ?_;clear gG;exact ⟨v,h1,h.use x0.am r sr fun F1 A1 W1 H1 y vy e1 r1 z1 h1=>h1 F1 A1 H1 v vy _ r1 (h2.ext e1) z1 fun F2 A2 W2 H2 z vz e2 r2 z2 h3=>q.nx F2 A2 W2 H2 _ _ ((e1.trans e2).ex1 hn) r2 ((sr.ext (e1.trans e2)).set z2 i) h3⟩
def El.below (m : Nat) : El->Prop
 | .d _=>True
 | .s _=>True
 | .x _=>True
 | .p _=>True
 | .t xs=>∀ k,.inr k∈xs->k < m
 | .o k=>k < m
def OD.below (m : Nat) : OD->Prop
 | .lst es=>∀ e∈es,e.below m
 | .dK kvs=>∀ p∈kvs,p.2.below m
 | .dT kvs=>∀ p∈kvs,p.2.below m
 | .fT _ kvs=>∀ p∈kvs,p.2.below m
 | .fK _ kvs=>∀ p∈kvs,p.2.below m
theorem zv9 {α β : Type} {F G : α->β->Prop} {l : List α} {m : List β} (p : Paired F l m) : (∀ a∈l,∀ b,F a b->G a b)->Paired G l m:=by
 induction p with
 | nil=>intro _; exact .nil
 | cons r t ih=>intro h; exact .cons (h _ by2 _ r) (ih fun a ha=>h a (by1 _ ha))
theorem ElR.drop {K : ay4} {F : Hp} {A : List Addr} {m : Nat} : ∀ {e : El} {v : V},e.below m->ElR K F A e v->ElR K F (A.take m) e v
 | .d _,_,_,z=>z
 | .s _,_,_,z=>z
 | .x _,_,_,z=>z
 | .p _,_,_,z=>z
 | .t xs,_,h,⟨a,vs,e,r,p⟩=>⟨a,vs,e,r,zv9 p fun x hx v z=>match x,h,hx,z with
  | .inl _,_,_,z=>z
  | .inr k,h,hx,⟨b,q,w⟩=>⟨b,by rw [gy9 (h k hx)]; exact q,w⟩⟩
 | .o k,_,h,⟨a,e,r⟩=>⟨a,by rw [gy9 h]; exact e,r⟩
theorem OdR.drop {K : ay4} {F : Hp} {A : List Addr} {m : Nat} : ∀ {o : OD} {h : HO},o.below m->OdR K F A o h->OdR K F (A.take m) o h
 | .lst es,_,hb,⟨vs,e,p⟩=>⟨vs,e,zv9 p fun a ha b z=>z.drop (hb a ha)⟩
 | .dK es,_,hb,⟨vs,e,p⟩=>⟨vs,e,zv9 p fun a ha b z=>⟨z.1,z.2.drop (hb a ha)⟩⟩
 | .dT es,_,hb,⟨vs,e,p⟩=>⟨vs,e,zv9 p fun a ha b z=>⟨z.1,z.2.drop (hb a ha)⟩⟩
 | .fT _ es,_,hb,⟨vs,e,p⟩=>⟨vs,e,zv9 p fun a ha b z=>⟨z.1,z.2.drop (hb a ha)⟩⟩
 | .fK _ es,_,hb,⟨vs,e,p⟩=>⟨vs,e,zv9 p fun a ha b z=>⟨z.1,z.2.drop (hb a ha)⟩⟩
theorem RW.drop {K : ay4} {F : Hp} {A : List Addr} {W : Wl} {H : Hp} (r : RW K F A W H) {m : Nat} (h : ∀ o∈W.take m,o.below m) : RW K F (A.take m) (W.take m) H:=by
 refine ⟨r.sub,by simp [r.len],r.nd.sublist (List.take_sublist _ _),fun a ha=>r.out a (ky4 ha),fun k a o hk ho=>?_⟩
 have hm : k < m:=by
  have:=(ay3.mp hk).1;simp at this;omega
 have ho':=ho;rw [gy9 hm] at hk ho;refine za0 fun gG=>?_;obtain ⟨u,e,q⟩:=r.obj k a o hk ho;refine gG ?_;clear gG;exact ⟨u,e,q.drop (h o (cy3 ho'))⟩
theorem RW.freeze {K : ay4} {F : Hp} {A : List Addr} {W : Wl} {H : Hp} (r : RW K F A W H) {m : Nat} {ds : List PyData} (hm : W[m]? = some (.lst (zb6 ds))) (h : ∀ o∈W.take m,o.below m) :
  ∃ F' a,A[m]? = some a /\ zm1 F F' /\ RW K F' (A.take m) (W.take m) H /\ Rq K F' (.ref a) (.list ds):=by
 have hl : m < A.length:=by rw [r.len]; exact (ay3.mp hm).1
 have ha : A[m]? = some A[m]:=by simp [hl]
 refine za0 fun gG=>?_;obtain ⟨u,e,vs,rfl,p⟩:=r.obj m A[m] _ ha hm;refine gG ?_;clear gG;have hF : F A[m] = none:=r.out _ (ry9 hl);have sF : zm1 F (upd F A[m] (.lst vs)):=zk0 hF
 have hnot : A[m] ∉ A.take m:=fun z=>by
  refine za0 fun gG=>?_;obtain ⟨k,hk⟩:=gy5.mp z
  have hkm : k < m:=by
   have:=(ay3.mp hk).1;simp at this;omega
  rw [gy9 hkm] at hk;obtain ⟨l1,e1⟩:=ay3.mp hk;refine gG ?_;clear gG;have:=(jy8 r.nd).mp e1;omega
 have r':=r.drop h;have x : Ext F (A.take m) (upd F A[m] (.lst vs)) (A.take m):=⟨sF,ry7 _⟩
 refine ⟨upd F A[m] (.lst vs),A[m],ha,sF,⟨fun b o q=>?_,r'.len,r'.nd,fun a hz=>?_,fun k a o hk ho=>?_⟩,.lst (.inl zb3) (Rqs.of (zg1 (fun _ _ t=>Rq.same sF _ t) (zj0 p)))⟩
 ·by_cases hb : b = A[m]
  ·subst hb; rw [zb3] at q; cases q; exact e
  ·rw [za8 hb] at q; exact r.sub _ _ q
 ·rw [za8 (fun z=>hnot (by rw [<- z]; exact hz))]; exact r'.out a hz
 ·refine za0 fun gG=>?_;obtain ⟨u,e,q⟩:=r'.obj k a o hk ho;refine gG ?_;clear gG;exact ⟨u,e,q.ext x⟩
theorem Ex1.drop {n m : Nat} {F : Hp} {A : List Addr} (hn : n <= A.length) (hm : n <= m) : Ex1 n F A F (A.take m):=⟨.refl _,by
 rw [show A.take n = (A.take m).take n by rw [List.take_take,oy6 hm]]
 exact ry8 _ _,by rw [dy3]; omega⟩
theorem zL7 {e : Expr} {pos : Pos} (m : Nat) (hm : n <= m) (h : BE X S W e fun y W1=>y.below m /\ (∀ o∈W1.take m,o.below m) /\ D.rt y (W1.take m)) : BS X n S W (.Return (some e) pos) D :=
 .of (zZ9 zi7) fun F A σ H E hn x0 r sr q=>h.use x0.am r sr fun F1 A1 W1 H1 x vx e1 r1 z1 zR=>by
  refine za0 fun gG=>?_;obtain ⟨h1,h2,h3⟩:=zR;refine gG ?_;clear gG;have hn1:=(e1.ex1 hn).len;exact q.rt F1 _ _ H1 x vx ((e1.ex1 hn).trans hn (.drop hn1 hm)) (r1.drop h2) (z1.drop h1) h3
theorem zV2 {e : Expr} {pos : Pos} (h : BE X S W e fun y W1=>∃ m ds,y = .o m /\ n <= m /\ W1[m]? = some (.lst (zb6 ds)) /\ (∀ o∈W1.take m,o.below m) /\ D.rt (.d (.list ds)) (W1.take m)) : BS X n S W (.Return (some e) pos) D :=
 .of (zZ9 zi7) fun F A σ H E hn x0 r sr q=>h.use x0.am r sr fun F1 A1 W1 H1 x vx e1 r1 z1 zR=>by
  refine za0 fun gG=>?_;obtain ⟨m,ds,he,h1,h2,h3,h4⟩:=zR;subst he;obtain ⟨F',a,ha,sF,r',rq⟩:=r1.freeze h2 h3;obtain ⟨b,hb,rfl⟩:=z1;refine gG ?_;clear gG;rw [ha] at hb;cases hb;have hn1:=(e1.ex1 hn).len;have y:=(Ex1.drop (F:=F1) hn1 h1)
  exact q.rt F' _ _ H1 _ _ ((e1.ex1 hn).trans hn ⟨sF,y.pre,y.len⟩) r' (.dd rq) h4
end
theorem Ex1.le {m n : Nat} {F F' : Hp} {A A' : List Addr} (hm : m <= n) (x : Ex1 n F A F' A') : Ex1 m F A F' A':=⟨x.same,by
 have : A.take m = (A.take n).take m:=by rw [List.take_take,oy6 hm]
 rw [this]
 exact (ry8 _ _).trans x.pre,ey0 hm x.len⟩
structure Walks (K : ay4) (m : Nat) (F1 : Hp) (A1 : List Addr) (G : Wl->Prop) (J : It) (ds : List PyData) : Prop where
 go : ∀ i F' A' W' H',i < ds.length->Ex1 m F1 A1 F' A'->RW K F' A' W' H'->G W'->J.go i H'
 yld : ∀ i F' A' W' H' x H'',i < ds.length->Ex1 m F1 A1 F' A'->RW K F' A' W' H'->G W'->J.yld i H' x H''->H'' = H' /\ ∃ d,ds[i]? = some d /\ Rq K F' x d
 stop : ∀ F' A' W' H',Ex1 m F1 A1 F' A'->RW K F' A' W' H'->G W'->J.stop ds.length H'
def tUI (X : Bc) (tg iter : Expr) : TI:=fun σ H R=>∃ t,PI X tg iter t /\ t σ H R
theorem pi_U {X : Bc} {tg iter : Expr} : PI X tg iter (tUI X tg iter):=fun pins s σ H R I zR=>by obtain ⟨t,h,q⟩:=zR; exact h pins s σ H R I q
def BI (X : Bc) (S : Sl) (W : Wl) (tg iter : Expr) (k : Nat->(Wl->Prop)->List PyData->Wl->Prop) : Prop:=∀ F A σ H (R : It->Hp->Prop),X.Am F A->RW X.K F A W H->SR X.K F A S σ ->
 (∀ m G F1 A1 W1 H1 ds J,Ext F A F1 A1->RW X.K F1 A1 W1 H1->m <= A1.length->Walks X.K m F1 A1 G J ds->k m G ds W1->R J H1)->tUI X tg iter σ H R
abbrev GT : Wl->Prop:=fun _=>True
section
variable {X : Bc} {n : Nat} {S : Sl} {W : Wl} {D : DB} {tg : Expr} {ki : Nat->(Wl->Prop)->List PyData->Wl->Prop}
theorem zw0 {iter : Expr} (h : BE X S W iter fun y W1=>∃ ds,y = .d (.list ds) /\ ki 0 GT ds W1) : BI X S W tg iter ki:=fun F A σ H R x0 r sr q =>
 ⟨_,za03 zi7,h.use x0 r sr fun F1 A1 W1 H1 y vy e1 r1 z1 zR=>by
  refine za0 fun gG=>?_;obtain ⟨ds,hy,h1⟩:=zR;subst hy;obtain ⟨a,vs,rfl,hv,z⟩:=Rq.zz3 z1;refine gG ?_;clear gG;have hl : ∀ {F' A' W' H'},Ex1 0 F1 A1 F' A'->RW X.K F' A' W' H'->SqL X.K H' a vs:=fun x r'=>.inl (r'.sub.rd (x.same.rd hv));refine ⟨a,rfl,⟨vs,.inl (r1.sub.rd hv)⟩,q 0 GT F1 A1 W1 H1 ds _ e1 r1 (dy7 _) ⟨fun i F' A' W' H' hi x r' _=>?_,fun i F' A' W' H' y H'' hi x r' _ hy=>?_,fun F' A' W' H' x r' _=>?_⟩ h1⟩
  ·have hi' : i < vs.length:=by rw [<- zb2 z]; exact hi
   exact ⟨vs,vs[i],hl x r',by simp [hi']⟩
  ·refine za0 fun gG=>?_;obtain ⟨e,hy⟩:=hy;obtain ⟨d,h1,h2⟩:=zf3 z (hy vs (hl x r'));refine gG ?_;clear gG;exact ⟨e,d,h1,Rq.same x.same _ h2⟩
  ·exact ⟨vs,hl x r',by rw [<- zb2 z]; exact ay6 _⟩⟩
theorem zc41 {iter : Expr} (h : BE X S W iter fun y W1=>∃ j ds,y = .o j /\ W1[j]? = some (.lst (zb6 ds)) /\ ki (j + 1) (fun W'=>W'[j]? = some (.lst (zb6 ds))) ds W1) : BI X S W tg iter ki:=fun F A σ H R x0 r sr q =>
 ⟨_,za03 zi7,h.use x0 r sr fun F1 A1 W1 H1 y vy e1 r1 z1 zR=>by
  refine za0 fun gG=>?_;obtain ⟨j,ds,hy,hj,h1⟩:=zR;subst hy;obtain ⟨a,ha,rfl⟩:=z1;have hja : j < A1.length:=(ay3.mp ha).1
  have ha' : ∀ {F' A'},Ex1 (j + 1) F1 A1 F' A'->A'[j]? = some a:=fun {F' A'} x=>by
   have e:=zo4 x.pre (by omega);have:=congrArg (fun l=>l[j]?) e;simp only [gy9 (ny8 j)] at this;rw [this]; exact ha
  have key : ∀ {F' A' W' H'},Ex1 (j + 1) F1 A1 F' A'->RW X.K F' A' W' H'->W'[j]? = some (.lst (zb6 ds))->∃ vs,H' a = some (.lst vs) /\ Paired (fun d v=>Rq X.K F' v d) ds vs:=fun x r' hG=>by
   obtain ⟨u,e,vs,rfl,p⟩:=r'.obj j a _ (ha' x) hG;exact ⟨vs,e,zj0 p⟩
  obtain ⟨v0,e0,p0⟩:=key (.refl (by omega)) r1 hj;refine gG ?_;clear gG;refine ⟨a,rfl,⟨v0,SqL.of e0⟩,q (j + 1) _ F1 A1 W1 H1 ds _ e1 r1 hja ⟨fun i F' A' W' H' hi x r' hG=>?_,fun i F' A' W' H' y H'' hi x r' hG hy=>?_,fun F' A' W' H' x r' hG=>?_⟩ h1⟩
  ·refine za0 fun gG=>?_;obtain ⟨vs,e,p⟩:=key x r' hG;refine gG ?_;clear gG;have hi' : i < vs.length:=by rw [<- zb2 p]; exact hi
   exact ⟨vs,vs[i],SqL.of e,by simp [hi']⟩
  ·refine za0 fun gG=>?_;obtain ⟨vs,e,p⟩:=key x r' hG;obtain ⟨e',hy⟩:=hy;obtain ⟨d,h1,h2⟩:=zf3 p (hy vs (SqL.of e));refine gG ?_;clear gG;exact ⟨e',d,h1,h2⟩
  ·refine za0 fun gG=>?_;obtain ⟨vs,e,p⟩:=key x r' hG;refine gG ?_;clear gG
   exact ⟨vs,SqL.of e,by rw [<- zb2 p]; exact ay6 _⟩⟩
theorem zw1 {iter : Expr} (h : BE X S W iter fun y W1=>∃ ds,y = .d (.tuple ds) /\ ki 0 GT ds W1) : BI X S W tg iter ki:=fun F A σ H R x0 r sr q =>
 ⟨_,zc22 zi7,h.use x0 r sr fun F1 A1 W1 H1 y vy e1 r1 z1 zR=>by
  refine za0 fun gG=>?_;obtain ⟨ds,hy,h1⟩:=zR;subst hy;obtain ⟨a,vs,rfl,hv,z⟩:=Rq.zh6 z1;refine gG ?_;clear gG;have hl : ∀ {F' A' W' H'},Ex1 0 F1 A1 F' A'->RW X.K F' A' W' H'->SqT X.K H' a vs:=fun x r'=>r'.sub.zt9 (x.same.zt9 hv);refine ⟨a,rfl,⟨vs,r1.sub.zt9 hv⟩,q 0 GT F1 A1 W1 H1 ds _ e1 r1 (dy7 _) ⟨fun i F' A' W' H' hi x r' _=>?_,fun i F' A' W' H' y H'' hi x r' _ hy=>?_,fun F' A' W' H' x r' _=>?_⟩ h1⟩
  ·have hi' : i < vs.length:=by rw [<- zb2 z]; exact hi
   exact ⟨vs,vs[i],hl x r',by simp [hi']⟩
  ·refine za0 fun gG=>?_;obtain ⟨e,hy⟩:=hy;obtain ⟨d,h1,h2⟩:=zf3 z (hy vs (hl x r'));refine gG ?_;clear gG;exact ⟨e,d,h1,Rq.same x.same _ h2⟩
  ·exact ⟨vs,hl x r',by rw [<- zb2 z]; exact ay6 _⟩⟩
def zo5 (lo : Int) (n : Nat) : List PyData:=(iy3 n).map fun (i : Nat)=>.int (lo + (i : Int))
theorem zV3 {lo : Int} {n i : Nat} (h : i < n) : (zo5 lo n)[i]? = some (.int (lo + i)):=by unfold zo5; simp [h]
theorem zL8 {K : ay4} {F1 : Hp} {A1 : List Addr} {lo : Int} {n : Nat} : Walks K 0 F1 A1 GT (Itr lo n) (zo5 lo n):=by
 have hl : (zo5 lo n).length = n:=by unfold zo5; simp
 refine ⟨fun i F' A' W' H' hi _ _ _=>by rw [hl] at hi; exact hi,fun i F' A' W' H' y H'' hi x r' _ hy=>?_,fun F' A' W' H' x r' _=>by rw [hl]; exact ay6 _⟩;rw [hl] at hi;refine za0 fun gG=>?_;obtain ⟨e,rfl⟩:=hy;refine gG ?_;clear gG;exact ⟨e,_,zV3 hi,.int _⟩
theorem zw2 {a : Expr} {p pos : Pos} (hg : Gl X "range") (hm : X.mg "range" = none) (h : BE X S W a fun y W1=>∃ j : Int,y = .d (.int j) /\ -(2 ^ 62) <= j /\ j < 2 ^ 62 /\ ki 0 GT (zo5 0 j.toNat) W1) (hs : ey8 [a] X.env = [(false,eval a X.env)]:=by rfl) : BI X S W tg (.Call (.Name "range" p) [a] [] pos) ki:=fun F A σ H R x0 r sr q =>
 ⟨_,za04 hg hm (zm9 zi7 zz1 hs) hs,h.use x0 r sr fun F1 A1 W1 H1 y vy e1 r1 z1 zR=>by
  refine za0 fun gG=>?_;obtain ⟨j,hy,h2,h3,h4⟩:=zR;subst hy;refine gG ?_;clear gG;obtain rfl:=Rq.zd1 z1
  exact ⟨j,rfl,h2,h3,q 0 GT F1 A1 W1 H1 _ _ e1 r1 (dy7 _) zL8 h4⟩⟩
def zw3 (x : Str) : List PyData:=x.cps.toList.map fun c=>.str ⟨#[c]⟩
theorem ze19 {iter : Expr} (h : BE X S W iter fun y W1=>∃ x,y = .d (.str x) /\ ki 0 GT (zw3 x) W1) : BI X S W tg iter ki:=fun F A σ H R x0 r sr q =>
 ⟨_,ze03 zi7,h.use x0 r sr fun F1 A1 W1 H1 y vy e1 r1 z1 zR=>by
  refine za0 fun gG=>?_;obtain ⟨x,hy,h1⟩:=zR;subst hy;refine gG ?_;clear gG;obtain rfl:=Rq.zg9 z1;have hl : (zw3 x).length = x.cps.size:=by unfold zw3; simp
  refine ⟨x,rfl,q 0 GT F1 A1 W1 H1 _ _ e1 r1 (dy7 _) ⟨fun i F' A' W' H' hi _ _ _=>by rw [hl] at hi; exact hi,fun i F' A' W' H' y H'' hi _ r' _ hy=>?_,fun F' A' W' H' _ r' _=>by rw [hl]; exact ay6 _⟩ h1⟩;refine za0 fun gG=>?_;obtain ⟨e,c,hc,rfl⟩:=hy;refine gG ?_;clear gG;refine ⟨e,_,?_,.str _⟩;unfold zw3;rw [ay9,my8,hc]
  rfl⟩
theorem zo6 {iter : Expr} {body : List Stmt} {pos : Pos} (hp : PassesOwn (model X.prog X.w) X.A X.env X.xe) (hc : X.calm = true)
  (h : BI X S W tg iter fun m G ds W1=>∃ (mb : Nat) (P : Nat->Sl->Wl->Prop),n <= mb /\ m <= mb /\ mb <= W1.length /\ P 0 S W1 /\ (∀ i S' W',i <= ds.length->P i S' W'->G W') /\
   (∀ i d S' W',ds[i]? = some d->P i S' W'->BG X S' W' tg (.d d) fun S2 W2=>BSs X mb S2 W2 body (zc90 D (P (i + 1)))) /\ ∀ S' W',P ds.length S' W'->D.nx S' W')
  (hs : ∀ x,ey2 iter X.env x = pure x:=by intro _; rfl) : BS X n S W (.For tg iter body [] pos) D :=
 .of (zc23 hp hc pi_U pg_U zV1 hs) fun F A σ H E hn x0 r sr q=>h F A σ H _ x0.am r sr fun m G F1 A1 W1 H1 ds J e1 r1 hm1 wk zR=>by
  refine za0 fun gG=>?_;obtain ⟨mb,P,hnm,hmm,hmb,p0,hG,hs,hd⟩:=zR;refine gG ?_;clear gG;have hmA : mb <= A1.length:=by rw [r1.len]; exact hmb
  refine ⟨fun i μ σ' H'=>μ = ds.length - i /\ i <= ds.length /\ ∃ F' A' S' W',Ex1 mb F1 A1 F' A' /\ RW X.K F' A' W' H' /\ SR X.K F' A' S' σ' /\ P i S' W',⟨ds.length,by simp,dy7 _,F1,A1,S,W1,.refl hmA,r1,sr.ext e1,p0⟩,?_⟩;intro i μ σ' H' gX;refine za0 fun gG=>?_;obtain ⟨rfl,hi,F',A',S',W',x,r',sr',p⟩:=gX;refine gG ?_;clear gG;have g:=hG i S' W' hi p
  by_cases hlt : i < ds.length
  ·refine .inr ⟨wk.go i F' A' W' H' hlt (x.le hmm) r' g,fun σ2 H2=>∃ F2 A2 S2 W2,Ex1 mb F1 A1 F2 A2 /\ RW X.K F2 A2 W2 H2 /\ SR X.K F2 A2 S2 σ2 /\ P (i + 1) S2 W2,fun σ2 H2 p2=>⟨ds.length - (i + 1),by omega,rfl,hlt,p2⟩,fun v H'' hy=>?_⟩;refine za0 fun gG=>?_;obtain ⟨rfl,d,hd',zd⟩:=wk.yld i F' A' W' H' v H'' hlt (x.le hmm) r' g hy;refine gG ?_;clear gG;refine hs i d S' W' hd' p F' A' σ' H'' v _ ((x0.ext e1).up hnm |>.ex1 hmA x).am r' sr' zd fun F2 A2 W2 H2 S2 σ2 x2 r2 sr2 h2=>?_;have x12 : Ex1 mb F1 A1 F2 A2:=x.trans hmA (x2.ex1 x.len);have q2:=q.ext hn ((e1.ex1 hn).trans hn (x12.le hnm));have hn2 : n <= A2.length:=ey0 hnm x12.len;exact h2.use x12.len (((x0.ext e1).up hnm).ex1 hmA x12) r2 sr2 ⟨fun F3 A3 W3 H3 S3 σ3 x3 r3 sr3 h3=>⟨F3,A3,S3,W3,x12.trans hmA x3,r3,sr3,h3⟩,fun F3 A3 W3 H3 S3 σ3 x3=>q2.nx F3 A3 W3 H3 S3 σ3 (x3.le hnm),fun F3 A3 W3 H3 S3 σ3 x3 r3 sr3 h3=>⟨F3,A3,S3,W3,x12.trans hmA x3,r3,sr3,h3⟩,fun F3 A3 W3 H3 e v x3=>q2.rt F3 A3 W3 H3 e v (x3.le hnm)⟩
  ·have hie : i = ds.length:=by omega
   subst hie;exact .inl ⟨wk.stop F' A' W' H' (x.le hmm) r' g,(q.ext hn (e1.ex1 hn)).nx F' A' W' H' S' σ' (x.le hnm) r' sr' (hd S' W' p)⟩
theorem zb52 {c : Expr} {body : List Stmt} {pos : Pos} (P : Sl->Wl->Prop) (μ : Sl->Wl->Nat) (hp : PassesOwn (model X.prog X.w) X.A X.env X.xe) (h0 : P S W)
  (hs : ∀ S' W',P S' W'->BT X S' W' c fun b W1=>if b = true then BSs X n S' W1 body (zc90 D fun S2 W2=>P S2 W2 /\ μ S2 W2 < μ S' W') else D.nx S' W1) :
  BS X n S W (.While c body [] pos) D :=
 .of (zb32 hp pt_U zV1) fun F A σ H E hn x0 r sr q=>by
  refine ⟨fun m σ' H'=>∃ F' A' S' W',Ex1 n F A F' A' /\ RW X.K F' A' W' H' /\ SR X.K F' A' S' σ' /\ P S' W' /\ m = μ S' W',⟨_,F,A,S,W,.refl hn,r,sr,h0,rfl⟩,?_⟩;intro m σ' H' gX;refine za0 fun gG=>?_;obtain ⟨F',A',S',W',x,r',sr',p,rfl⟩:=gX;refine gG ?_;clear gG;refine (hs S' W' p).use (x0.ex1 hn x).am r' sr' fun F1 A1 W1 H1 b e1 r1 h1=>?_;have x1 : Ex1 n F A F1 A1:=x.trans hn (e1.ex1 x.len);cases b with
  | true =>
   rw [if_pos rfl] at h1 ⊢;refine ⟨fun σ2 H2=>∃ F2 A2 S2 W2,Ex1 n F A F2 A2 /\ RW X.K F2 A2 W2 H2 /\ SR X.K F2 A2 S2 σ2 /\ P S2 W2 /\ μ S2 W2 < μ S' W',fun σ2 H2 zR=>by obtain ⟨F2,A2,S2,W2,y,r2,sr2,p2,l⟩:=zR; exact ⟨_,l,F2,A2,S2,W2,y,r2,sr2,p2,rfl⟩,?_⟩;have q1:=q.ext hn x1;exact h1.use x1.len (x0.ex1 hn x1) r1 (sr'.ext e1) ⟨fun F3 A3 W3 H3 S3 σ3 x3 r3 sr3 h3=>⟨F3,A3,S3,W3,x1.trans hn x3,r3,sr3,h3.1,h3.2⟩,q1.nx,fun F3 A3 W3 H3 S3 σ3 x3 r3 sr3 h3=>⟨F3,A3,S3,W3,x1.trans hn x3,r3,sr3,h3.1,h3.2⟩,q1.rt⟩
  | false =>
   rw [if_neg (by decide)] at h1 ⊢;exact (q.ext hn x1).nx F1 A1 W1 H1 S' σ' (.refl x1.len) r1 (sr'.ext e1) h1
end
section
variable {X : Bc} {n : Nat} {S : Sl} {W : Wl} {D : DB} {k : KB} {tg iter elt : Expr} {ifs : List Expr} {O Fv : List Str} {cap : List Nat} {scope : Scope} {pos : Pos}
abbrev cxB (X : Bc) (N : List Str) (scope : Scope) (cl : List (Str × Addr)) (C : Addr) (ex : List Addr) (s : Shared) (H : Hp) : Bc:={ X with toCx:=zb8 X.toCx N scope cl C ex s H }
def tUGc (X : Bc) (N : List Str) (scope : Scope) (m : Nat) (tg : Expr) : TG:=fun v σ H Q=>∃ t,(∀ cl C ex s H,PG (zb8 X N scope cl C ex s H) tg t) /\ Own m t /\ t v σ H Q
def tUTc (X : Bc) (N : List Str) (scope : Scope) (ifs : List Expr) : TT:=fun σ H Q=>∃ t,(∀ cl C ex s H,PTs (zb8 X N scope cl C ex s H) ifs t) /\ t σ H Q
def zL9 (X : Bc) (N : List Str) (scope : Scope) (e : Expr) : TE:=fun σ H Q=>∃ t,(∀ cl C ex s H,PE (zb8 X N scope cl C ex s H) e t) /\ t σ H Q
theorem za40 {N : List Str} {m : Nat} : Own m (tUGc X N scope m tg):=fun x σ H Q zR=>by obtain ⟨t,h,o,q⟩:=zR; exact ⟨t,h,o,o x σ H Q q⟩
def BEc (X : Bc) (N : List Str) (scope : Scope) (S : Sl) (W : Wl) (e : Expr) (k : KB) : Prop:=∀ cl C ex s H,BE (cxB X N scope cl C ex s H) S W e k
def BTc (X : Bc) (N : List Str) (scope : Scope) (S : Sl) (W : Wl) (ifs : List Expr) (k : TB) : Prop:=∀ F A σ H (Q : Bool->Hp->Prop),X.Am F A->RW X.K F A W H->SR X.K F A S σ->(∀ F' A' W' H' b,Ext F A F' A'->RW X.K F' A' W' H'->k b W'->Q b H')->tUTc X N scope ifs σ H Q
def BGc (X : Bc) (N : List Str) (scope : Scope) (m : Nat) (S : Sl) (W : Wl) (tg : Expr) (e : El) (k : Sl->Wl->Prop) : Prop:=∀ F A σ H v (Q : St->Hp->Prop),RW X.K F A W H->SR X.K F A S σ->ElR X.K F A e v ->
 (∀ S' σ',SR X.K F A S' σ'->k S' W->Q σ' H)->tUGc X N scope m tg v σ H Q
theorem zc93 {N : List Str} {k : TB} (h : k true W) : BTc X N scope S W [] k:=fun F A σ H Q x0 r sr q=>⟨_,fun _ _ _ _ _=>zc77,q F A W H true .refl r h⟩
theorem za41 {N : List Str} {c : Expr} {k : TB} (h : ∀ cl C ex s H,BT (cxB X N scope cl C ex s H) S W c k) : BTc X N scope S W [c] k:=fun F A σ H Q x0 r sr q=>⟨tDT X S W k,fun cl C ex s H=>zc78 (show PT _ c (tDT X S W k) from h cl C ex s H),F,A,x0,r,sr,q⟩
theorem zg4 {N : List Str} {m i : Nat} {x : Str} {p : Pos} {e : El} {k : Sl->Wl->Prop} (hN : N.Nodup) (hi : N[i]? = some x) (hm : i < m) (hx : ∀ cl C ex s H,Loc (zb8 X N scope cl C ex s H).env.scope x)
  (hf : ∀ cl C ex s H,(zb8 X N scope cl C ex s H).env.scope.names.lookup x = some .local) (h : k (S.set i (some e)) W) : BGc X N scope m S W (.Name x p) e k:=fun F A σ H v Q r sr z q =>
 ⟨zm8 i,fun cl C ex s H=>zu8 hN hi (hx cl C ex s H) (.inr (hf cl C ex s H)),zb40 hm,q _ _ (sr.set z i) h⟩
theorem za42 {m : Nat} : ∀ {is : List Nat},(∀ i∈is,i < m)->OwnS m (gNms is) /\ ∀ x σ H (Q Q' : St->Hp->Prop),(∀ σ H,Q σ H->Q' σ H)->gNms is x σ H Q->gNms is x σ H Q'
 | [],_=>⟨zc79,zb42⟩
 | i :: is,h=>by
  obtain ⟨a,b⟩:=za42 (is:=is) fun j hj=>h j (by1 _ hj);exact ⟨zb41 (h i by2) a b,za23 b⟩
theorem zc94 {N : List Str} {m : Nat} {es : List Expr} {is : List Nat} {c : Nat} {p : Pos} {ds : List PyData} {k : Sl->Wl->Prop} (hc : X.calm = true) (hm : ∀ cl C ex s H,Nms (cxB X N scope cl C ex s H) es is) (hi : ∀ i∈is,i < m) (hl : is.length = ds.length) (h : k (zs4 S is (zb6 ds)) W)
  (hn : ∀ cl C ex s H,(ly7 es (zb8 X N scope cl C ex s H).env).length = is.length:=by intro _ _ _ _ _; rfl) (hst : ∀ cl C ex s H,(ly7 es (zb8 X N scope cl C ex s H).env).findIdx? (·.1) = none:=by intro _ _ _ _ _; rfl) : BGc X N scope m S W (.Tuple es c p) (.d (.tuple ds)) k:=fun F A σ H v Q r sr z q=>by
  refine za0 fun gG=>?_;obtain ⟨a,vs,rfl,hs,pp⟩:=Rq.zh6 z;refine gG ?_;clear gG;exact ⟨gTup X.K is.length (gNms is),fun cl C ex s H=>za01 hc (hm cl C ex s H).pgs (hn cl C ex s H) (hst cl C ex s H),zc80 (za42 hi).1,a,vs,rfl,r.sub.zt9 hs,by rw [<- zb2 pp,hl],zB7 (by rw [hl,zb2 pp]) (q _ _ (sr.zs4 (zi2 pp)) h)⟩
def zQ1 (O : List Str) (cap : List Nat) (S : Sl) : Sl:=O.map (fun _=>none)++cap.map (fun j=>(S[j]?).getD none)
theorem SR.cmp {K : ay4} {F : Hp} {A : List Addr} {σ : St} (r : SR K F A S σ) : SR K F A (zQ1 O cap S) (zc0 O cap σ):=by
 refine ⟨by simp [zQ1,zc0],fun i e h=>?_⟩;unfold zQ1 at h;unfold zc0
 by_cases hi : i < O.length
 ·rw [ay8 (by simpa using hi)] at h;simp [hi] at h
 ·rw [cy7 (by simpa using hi)] at h;rw [cy7 (by simpa using hi)];simp only [ay5,ay9] at h ⊢;cases hj : cap[i - O.length]? with
  | none=>rw [hj] at h; cases h
  | some j =>
   rw [hj] at h;simp only [wy7,Option.some.injEq] at h;cases hs : S[j]? with
   | none=>rw [hs] at h; cases h
   | some o =>
    rw [hs] at h;simp only [Option.getD_some] at h;subst h;refine za0 fun gG=>?_;obtain ⟨v,h1,h2⟩:=r.get j e hs;refine gG ?_;clear gG;exact ⟨v,by simp [h1],h2⟩
abbrev KC (X : Bc) (O Fv : List Str) (cap : List Nat) (scope : Scope) (S : Sl) (tg elt : Expr) (ifs : List Expr) (k : List PyData->Wl->Prop) : Nat->(Wl->Prop)->List PyData->Wl->Prop:=fun m G ds W1=>∃ P : Nat->List PyData->Wl->Prop,
 P 0 [] W1 /\ (∀ i ys W',i <= ds.length->P i ys W'->G W' /\ ys.length <= by0) /\
  (∀ i d ys W',ds[i]? = some d->P i ys W'->BGc X (O++Fv) scope O.length (zQ1 O cap S) W' tg (.d d) fun S2 W2=>BTc X (O++Fv) scope S2 W2 ifs fun b W3 =>
   if b = true then BEc X (O++Fv) scope S2 W3 elt fun y W4=>∃ dy,y = .d dy /\ P (i + 1) (ys++[dy]) W4 else P (i + 1) ys W3) /\
  ∀ ys W',P ds.length ys W'->k ys W'
structure ze20 (K : ay4) (m : Nat) (F1 : Hp) (A1 : List Addr) (G : Wl->Prop) (J : It) (es : List El) : Prop where
 go : ∀ i F' A' W' H',i < es.length->Ex1 m F1 A1 F' A'->RW K F' A' W' H'->G W'->J.go i H'
 yld : ∀ i F' A' W' H' x H'',i < es.length->Ex1 m F1 A1 F' A'->RW K F' A' W' H'->G W'->J.yld i H' x H''->H'' = H' /\ ∃ e,es[i]? = some e /\ ElR K F' A' e x
 stop : ∀ F' A' W' H',Ex1 m F1 A1 F' A'->RW K F' A' W' H'->G W'->J.stop es.length H'
def BIE (X : Bc) (S : Sl) (W : Wl) (tg iter : Expr) (k : Nat->(Wl->Prop)->List El->Wl->Prop) : Prop:=∀ F A σ H (R : It->Hp->Prop),X.Am F A->RW X.K F A W H->SR X.K F A S σ ->
 (∀ m G F1 A1 W1 H1 es J,Ext F A F1 A1->RW X.K F1 A1 W1 H1->m <= A1.length->ze20 X.K m F1 A1 G J es->k m G es W1->R J H1)->tUI X tg iter σ H R
abbrev KCE (X : Bc) (O Fv : List Str) (cap : List Nat) (scope : Scope) (S : Sl) (tg elt : Expr) (ifs : List Expr) (k : List PyData->Wl->Prop) : Nat->(Wl->Prop)->List El->Wl->Prop:=fun m G ds W1=>∃ P : Nat->List PyData->Wl->Prop,
 P 0 [] W1 /\ (∀ i ys W',i <= ds.length->P i ys W'->G W' /\ ys.length <= by0) /\
  (∀ i d ys W',ds[i]? = some d->P i ys W'->BGc X (O++Fv) scope O.length (zQ1 O cap S) W' tg d fun S2 W2=>BTc X (O++Fv) scope S2 W2 ifs fun b W3 =>
   if b = true then BEc X (O++Fv) scope S2 W3 elt fun y W4=>∃ dy,y = .d dy /\ P (i + 1) (ys++[dy]) W4 else P (i + 1) ys W3) /\
  ∀ ys W',P ds.length ys W'->k ys W'
theorem zz7 {F : Hp} {A : List Addr} {σ : St} {H : Hp} {Q : VK} {k : List PyData->Wl->Prop} (h : BIE X S W tg iter (KCE X O Fv cap scope S tg elt ifs k)) (x0 : X.Am F A) (r : RW X.K F A W H) (sr : SR X.K F A S σ)
  (q : ∀ F' A' W' H' ys vs p,Ext F A F' A'->RW X.K F' A' W' H'->Paired (fun d v=>Rq X.K F' v d) ys vs->H' p = none->k ys W'->Q (.ref p) (upd H' p (.lst vs))) :
  za22 (tUI X tg iter) O cap (tUGc X (O++Fv) scope O.length tg) (tUTc X (O++Fv) scope ifs) (zL9 X (O++Fv) scope elt) σ H Q :=
 h F A σ H _ x0 r sr fun m G F1 A1 W1 H1 ds J e1 r1 hm1 wk zR=>by
  refine za0 fun gG=>?_;obtain ⟨P,p0,hG,hs,hd⟩:=zR;refine gG ?_;clear gG;refine ⟨fun i μ ys H'=>μ = ds.length - i /\ i <= ds.length /\ ∃ F' A' W' yd,Ext F1 A1 F' A' /\ RW X.K F' A' W' H' /\ Paired (fun d v=>Rq X.K F' v d) yd ys /\ P i yd W',⟨ds.length,by simp,dy7 _,F1,A1,W1,[],.refl,r1,.nil,p0⟩,?_⟩;intro i μ ys H' gX;refine za0 fun gG=>?_;obtain ⟨rfl,hi,F',A',W',yd,x,r',z',p⟩:=gX;obtain ⟨g,hz⟩:=hG i yd W' hi p;refine gG ?_;clear gG;refine ⟨by rw [<- zb2 z']; exact hz,?_⟩
  by_cases hlt : i < ds.length
  ·refine .inr ⟨wk.go i F' A' W' H' hlt (x.ex1 hm1) r' g,fun ys2 H2=>∃ F2 A2 W2 yd2,Ext F1 A1 F2 A2 /\ RW X.K F2 A2 W2 H2 /\ Paired (fun d v=>Rq X.K F2 v d) yd2 ys2 /\ P (i + 1) yd2 W2,fun ys2 H2 p2=>⟨ds.length - (i + 1),by omega,rfl,hlt,p2⟩,fun v H'' hy=>?_⟩;refine za0 fun gG=>?_;obtain ⟨rfl,d,hd',zd⟩:=wk.yld i F' A' W' H' v H'' hlt (x.ex1 hm1) r' g hy;refine gG ?_;clear gG;have srx:=sr.ext (e1.trans x);refine hs i d yd W' hd' p F' A' (zc0 O cap σ) H'' v _ r' srx.cmp zd fun S2 σ2 sr2 h2=>?_;refine h2 F' A' σ2 H'' _ (x0.trans (e1.trans x)) r' sr2 fun F3 A3 W3 H3 b e3 r3 h3=>?_;cases b with
   | true =>
    rw [if_pos rfl] at h3 ⊢;refine ⟨tD X S2 W3 _,fun cl C ex s H=>h3 cl C ex s H,F3,A3,(x0.trans (e1.trans x)).trans e3,r3,sr2.ext e3,fun F4 A4 W4 H4 y vy e4 r4 z4 ⟨dy,hy,h4⟩=>?_⟩;subst hy;exact ⟨F4,A4,W4,yd++[dy],(x.trans e3).trans e4,r4,zo0 (zg1 (fun _ _ t=>Rq.same (e3.trans e4).same _ t) z') (.cons z4 .nil),h4⟩
   | false =>
    rw [if_neg (by decide)] at h3 ⊢;exact ⟨F3,A3,W3,yd,x.trans e3,r3,zg1 (fun _ _ t=>Rq.same e3.same _ t) z',h3⟩
  ·have hie : i = ds.length:=by omega
   subst hie;exact .inl ⟨wk.stop F' A' W' H' (x.ex1 hm1) r' g,fun l hl=>q F' A' W' H' yd ys l (e1.trans x) r' z' hl (hd yd W' p)⟩
theorem zH6 {F : Hp} {A : List Addr} {σ : St} {H : Hp} {Q : VK} {k : List PyData->Wl->Prop} (h : BI X S W tg iter (KC X O Fv cap scope S tg elt ifs k)) (x0 : X.Am F A) (r : RW X.K F A W H) (sr : SR X.K F A S σ)
  (q : ∀ F' A' W' H' ys vs p,Ext F A F' A'->RW X.K F' A' W' H'->Paired (fun d v=>Rq X.K F' v d) ys vs->H' p = none->k ys W'->Q (.ref p) (upd H' p (.lst vs))) :
  za22 (tUI X tg iter) O cap (tUGc X (O++Fv) scope O.length tg) (tUTc X (O++Fv) scope ifs) (zL9 X (O++Fv) scope elt) σ H Q :=
 zz7 (k:=k) (fun F A σ H R x0 r sr hR=>h F A σ H R x0 r sr fun m G F1 A1 W1 H1 ds J e1 r1 hm wk hP=>by
  refine za0 fun gG=>?_;obtain ⟨P,p0,hG,hs,hd⟩:=hP;refine gG ?_;clear gG;have el : (ds.map El.d).length = ds.length:=ay5 _;refine hR m G F1 A1 W1 H1 (ds.map El.d) J e1 r1 hm ⟨fun i F' A' W' H' hi=>wk.go i F' A' W' H' (el ▸ hi),fun i F' A' W' H' x H'' hi e r g y=>?_,fun F' A' W' H' e r g=>el.symm ▸ wk.stop F' A' W' H' e r g⟩ ⟨P,p0,fun i ys W' hi=>hG i ys W' (el ▸ hi),fun i d ys W' hd' p=>?_,fun ys W' p=>hd ys W' (el ▸ p)⟩
  ·refine za0 fun gG=>?_;obtain ⟨e1,d,hd,z⟩:=wk.yld i F' A' W' H' x H'' (el ▸ hi) e r g y;refine gG ?_;clear gG;exact ⟨e1,.d d,by rw [ay9,hd]; rfl,z⟩
  ·rw [ay9] at hd';refine za0 fun gG=>?_;obtain ⟨d0,h0,rfl⟩:=gy8.mp hd';refine gG ?_;clear gG
   exact hs i d0 ys W' h0 p) x0 r sr q
theorem za43 {m : Nat} {G : Wl->Prop} {ds : List PyData} {W1 : Wl} {k : List PyData->Wl->Prop} (f : PyData->PyData) (hG : G W1) (hl : ds.length <= by0)
  (h : ∀ d∈ds,BGc X (O++Fv) scope O.length (zQ1 O cap S) W1 tg (.d d) fun S2 W2=>BEc X (O++Fv) scope S2 W2 elt fun y W4=>y = .d (f d) /\ W4 = W1) (hk : k (ds.map f) W1) : KC X O Fv cap scope S tg elt [] k m G ds W1:=by
 refine ⟨fun i ys W'=>W' = W1 /\ ys = (ds.take i).map f,⟨rfl,rfl⟩,fun i ys W' hi p=>?_,fun i d ys W' hd p=>?_,fun ys W' p=>?_⟩
 ·rw [p.1,p.2];exact ⟨hG,by rw [ay5,dy3]; omega⟩
 ·refine za0 fun gG=>?_;obtain ⟨rfl,rfl⟩:=p;refine gG ?_;clear gG;refine fun F A σ H v Q r sr z q=>h d (cy3 hd) F A σ H v Q r sr z fun S' σ' sr' hh=>q S' σ' sr' (zc93 ?_);rw [if_pos rfl];refine fun cl C ex s H=>(hh cl C ex s H).mono fun y W4 hy=>⟨f d,hy.1,hy.2,?_⟩
  rw [ey7,hd];simp
 ·rw [p.1,p.2,gy0];exact hk
theorem zo7 {m : Nat} {G : Wl->Prop} {ds : List PyData} {W1 : Wl} {k : List PyData->Wl->Prop} {c : Expr} (p : PyData->Bool) (f : PyData->PyData) (hG : G W1) (hl : ds.length <= by0)
  (h : ∀ d∈ds,BGc X (O++Fv) scope O.length (zQ1 O cap S) W1 tg (.d d) fun S2 W2=>(∀ cl C ex s H,BT (cxB X (O++Fv) scope cl C ex s H) S2 W2 c fun b W3=>b = p d /\ W3 = W1) /\ (p d = true->BEc X (O++Fv) scope S2 W2 elt fun y W4=>y = .d (f d) /\ W4 = W1)) (hk : k ((ds.filter p).map f) W1) : KC X O Fv cap scope S tg elt [c] k m G ds W1:=by
 refine ⟨fun i ys W'=>W' = W1 /\ ys = ((ds.take i).filter p).map f,⟨rfl,rfl⟩,fun i ys W' hi q=>?_,fun i d ys W' hd q=>?_,fun ys W' q=>?_⟩
 ·rw [q.1,q.2];refine ⟨hG,?_⟩;rw [ay5];have:=uy1 p (ds.take i);rw [dy3] at this;omega
 ·refine za0 fun gG=>?_;obtain ⟨rfl,rfl⟩:=q;refine gG ?_;clear gG;refine fun F A σ H v Q r sr z q=>h d (cy3 hd) F A σ H v Q r sr z fun S' σ' sr' hh=>q S' σ' sr' (za41 fun cl C ex s H=>?_);refine BT.mono (hh.1 cl C ex s H) fun b W3 hb=>?_;refine za0 fun gG=>?_;obtain ⟨rfl,rfl⟩:=hb;refine gG ?_;clear gG
  by_cases e : p d = true
  ·rw [if_pos e];refine fun cl C ex s H=>(hh.2 e cl C ex s H).mono fun y W4 hy=>⟨f d,hy.1,hy.2,?_⟩
   rw [ey7,hd,ty4,gy2];simp [e]
  ·rw [if_neg e];refine ⟨rfl,?_⟩;rw [ey7,hd,ty4,gy2];simp [e]
 ·rw [q.1,q.2,gy0];exact hk
theorem zw4 (hc : X.calm = true) (cs : zb7 X.N X.env.scope O Fv cap scope) (h : BI X S W tg iter (KC X O Fv cap scope S tg elt ifs fun ys W'=>k (.d (.list ys)) W'))
  (hs : ∀ x,ey2 iter X.env x = pure x:=by intro _; rfl) : BE X S W (.ListComp elt [⟨tg,iter,ifs,0⟩] scope pos) k :=
 .of (za24 (g:=tUGc X (O++Fv) scope O.length tg) (tt:=tUTc X (O++Fv) scope ifs) (te:=zL9 X (O++Fv) scope elt) hc cs pi_U (fun cl C ex s H=>fun pins s' σ' H' v u Q I r zR=>by obtain ⟨t,h,_,q⟩:=zR; exact h cl C ex s H pins s' σ' H' v u Q I r q) (fun cl C ex s H=>fun pins s' σ' H' Q I zR=>by obtain ⟨t,h,q⟩:=zR; exact h cl C ex s H pins s' σ' H' Q I q)
  (fun cl C ex s H=>fun pins s' σ' H' Q I zR=>by obtain ⟨t,h,q⟩:=zR; exact h cl C ex s H pins s' σ' H' Q I q) za40 hs) fun F A σ H Q x0 r sr q=>zH6 h x0 r sr fun F' A' W' H' ys vs p x r' z hp hk=>(q.ext x).newL r' hp z hk
theorem za44 {i : Nat} {x : Str} {pos' spos : Pos} (hN : X.N.Nodup) (hix : X.N[i]? = some x) (hx : Loc X.env.scope x) (hc : X.calm = true) (cs : zb7 X.N X.env.scope O Fv cap scope) (h : BI X S W tg iter (KC X O Fv cap scope S tg elt ifs fun ys W'=>D.nx (S.set i (some (.d (.list ys)))) W'))
  (hsw : swapsWith (.ListComp elt [⟨tg,iter,ifs,0⟩] scope pos) (some (.Name x pos')) spos.line X.env = pure true:=by rfl) (hs : ∀ x,ey2 iter X.env x = pure x:=by intro _; rfl)
  (hf : X.fn x = true \/ X.env.scope.names.lookup x = some .local:=by first | exact .inl rfl | exact .inr rfl | assumption) : BS X n S W (.Assign [.Name x pos'] (.ListComp elt [⟨tg,iter,ifs,0⟩] scope pos) spos) D :=
 .of (zc81 (g:=tUGc X (O++Fv) scope O.length tg) (tt:=tUTc X (O++Fv) scope ifs) (te:=zL9 X (O++Fv) scope elt) hN hix hx hc cs pi_U (fun cl C ex s H=>fun pins s' σ' H' v u Q I r zR=>by obtain ⟨t,h,_,q⟩:=zR; exact h cl C ex s H pins s' σ' H' v u Q I r q) (fun cl C ex s H=>fun pins s' σ' H' Q I zR=>by obtain ⟨t,h,q⟩:=zR; exact h cl C ex s H pins s' σ' H' Q I q)
  (fun cl C ex s H=>fun pins s' σ' H' Q I zR=>by obtain ⟨t,h,q⟩:=zR; exact h cl C ex s H pins s' σ' H' Q I q) za40 hsw hs hf) fun F A σ H E hn x0 r sr q=>zH6 h x0.am r sr fun F' A' W' H' ys vs p x r' z hp hk=>by
   obtain ⟨r2,y⟩:=r'.newF hp (.lst vs);exact q.nx _ _ _ _ _ _ ((x.trans y).ex1 hn) r2 ((sr.ext (x.trans y)).set (.dd (Rq.lst (.inl zb3) (Rqs.of (zg1 (fun _ _ t=>Rq.same y.same _ t) z)))) i) hk
end
def zz8 (N : List Str) (es : List El) : Sl:=es.map some++List.replicate (N.length - es.length) none
theorem SR.start {K : ay4} {F : Hp} {A : List Addr} {N : List Str} {es : List El} {vs : List V} (p : Paired (ElR K F A) es vs) : SR K F A (zz8 N es) (start N vs):=by
 have hl:=zb2 p;refine ⟨by simp [zz8,L2.start,hl],fun i e h=>?_⟩;unfold zz8 at h;unfold L2.start
 by_cases hi : i < es.length
 ·rw [ay8 (by simpa using hi),ay9] at h;rw [ay8 (by rw [ay5,<- hl]; exact hi),ay9];cases q : es[i]? with
  | none=>rw [q] at h; cases h
  | some e' =>
   rw [q] at h;cases h;refine za0 fun gG=>?_;obtain ⟨v,h1,h2⟩:=zi8 p q;refine gG ?_;clear gG;exact ⟨v,by rw [h1]; rfl,h2⟩
 ·rw [cy7 (by simpa using hi),List.getElem?_replicate] at h
  split at h <;> cases h
def closed (W : Wl) : Prop:=∀ o∈W,o.below W.length
theorem RW.closed {K : ay4} {F : Hp} {A : List Addr} {W : Wl} {H : Hp} (r : RW K F A W H) : closed W:=fun o ho=>by
 have el : ∀ {e : El} {v : V},ElR K F A e v->e.below W.length:=fun {e v} z=>by
  cases e with
  | d x=>trivial
  | s ns=>trivial
  | x C=>trivial
  | p ks=>trivial
  | t xs =>
   refine za0 fun gG=>?_;obtain ⟨a,vs,_,_,p⟩:=z;refine gG ?_;clear gG;intro k hk;refine za0 fun gG=>?_;obtain ⟨i,hi⟩:=gy5.mp hk;obtain ⟨v,_,b,hb,_⟩:=zi8 p hi;refine gG ?_;clear gG;rw [<- r.len];exact (ay3.mp hb).1
  | o k =>
   refine za0 fun gG=>?_;obtain ⟨a,ha,_⟩:=z;refine gG ?_;clear gG;show k < W.length;rw [<- r.len];exact (ay3.mp ha).1
 obtain ⟨k,hk⟩:=gy5.mp ho;have hl : k < A.length:=by rw [r.len]; exact (ay3.mp hk).1
 refine za0 fun gG=>?_;obtain ⟨u,_,q⟩:=r.obj k A[k] o (by simp [hl]) hk;refine gG ?_;clear gG;cases o with
 | lst es =>
  refine za0 fun gG=>?_;obtain ⟨vs,_,p⟩:=q;refine gG ?_;clear gG;intro e he;refine za0 fun gG=>?_;obtain ⟨i,hi⟩:=gy5.mp he;obtain ⟨v,_,z⟩:=zi8 p hi;refine gG ?_;clear gG;exact el z
 | dK es =>
  refine za0 fun gG=>?_;obtain ⟨vs,_,p⟩:=q;refine gG ?_;clear gG;intro e he;refine za0 fun gG=>?_;obtain ⟨i,hi⟩:=gy5.mp he;obtain ⟨v,_,z⟩:=zi8 p hi;refine gG ?_;clear gG;exact el z.2
 | dT es =>
  refine za0 fun gG=>?_;obtain ⟨vs,_,p⟩:=q;refine gG ?_;clear gG;intro e he;refine za0 fun gG=>?_;obtain ⟨i,hi⟩:=gy5.mp he;obtain ⟨v,_,z⟩:=zi8 p hi;refine gG ?_;clear gG;exact el z.2
 | fT _ es =>
  refine za0 fun gG=>?_;obtain ⟨vs,_,p⟩:=q;refine gG ?_;clear gG;intro e he;refine za0 fun gG=>?_;obtain ⟨i,hi⟩:=gy5.mp he;obtain ⟨v,_,z⟩:=zi8 p hi;refine gG ?_;clear gG;exact el z.2
 | fK _ es =>
  refine za0 fun gG=>?_;obtain ⟨vs,_,p⟩:=q;refine gG ?_;clear gG;intro e he;refine za0 fun gG=>?_;obtain ⟨i,hi⟩:=gy5.mp he;obtain ⟨v,_,z⟩:=zi8 p hi;refine gG ?_;clear gG;exact el z.2
theorem closed.take {W V : Wl} (h : closed W) : ∀ o∈(W++V).take W.length,o.below W.length:=by
 rw [sy6];exact h
theorem closed.set {W : Wl} (h : closed W) (j : Nat) {o : OD} (ho : o.below W.length) : closed (W.set j o):=fun u hu=>by
 rw [oy5];rcases List.mem_or_eq_of_mem_set hu with hu | rfl
 ·exact h u hu
 ·exact ho
section
variable {X : Bc} {n : Nat} {S : Sl} {W : Wl} {D : DB}
theorem zf5 {e : Expr} {pos : Pos} (h : BE X S W e fun y W2=>∃ d W0 V,y = .d d /\ W2 = W0++V /\ n = W0.length /\ closed W0 /\ D.rt (.d d) W0) : BS X n S W (.Return (some e) pos) D :=
 zL7 n (ay6 _) (h.mono fun y W2 zR=>by
  refine za0 fun gG=>?_;obtain ⟨d,W0,V,e1,e2,e3,hc,hk⟩:=zR;refine gG ?_;clear gG;subst e1 e2 e3
  exact ⟨trivial,hc.take,by rw [sy6]; exact hk⟩)
end
structure CC where
 cdv : Value
 A : Around
 outer : List Env
 s : Shared
 H : Hp
 E : XK
 F0 : Hp
 A0 : List Addr
abbrev endD (k : KB) : DB:={ nx:=fun _ W'=>k (.d .none) W',rt:=k }
abbrev mkB (N : List Str) (qual : Str) (sc : Scope) (P : cy6) (w : World) (K : ay4) (mg : Str->Option Value) (base : Heap) (f : Addr) (c : CC) : Bc:=⟨(cxOf CX0 P w K mg base N qual sc f c.cdv c.A c.outer c.s c.H c.E).nox,c.F0,c.A0,fun _ _ _=>False⟩
theorem zn1 {P : cy6} {w : World} {K : ay4} {mg : Str->Option Value} {base : Heap} {x qual : Str} {st : Stmt} {f : Addr} {fd : ey4} {N ps : List Str} {j : Nat} {R : RB} (F : Fun K x qual st f fd) (S : zb5 N ps (za3 st)) (len : ∀ es W k,R es W k->es.length = ps.length)
  (hbody : ∀ c : CC,zz0 j (c.A.deeper (envOfC qual (za3 st) c.s.heap.objs.size f c.cdv))->∀ es W k,closed W->R es W k ->
   BSs (mkB N qual (za3 st) P w K mg base f c) W.length (zz8 N es) W (za9 st) (endD k)) : zj9 P w K mg base CX0 (j + 1) f fd ps (spB K R) :=
 F.ok S (fun vs H Q E zR=>by obtain ⟨Fh,A,W,es,k,r,p,h,q⟩:=zR; rw [<- zb2 p]; exact len es W k h) fun cdv A outer s H vs Q E hr zR=>by
  refine za0 fun gG=>?_;obtain ⟨Fh,Ad,W,es,k,r,p,h,q⟩:=zR;refine gG ?_;clear gG;refine ⟨_,hbody ⟨cdv,A,outer,s,H,E,Fh,Ad⟩ hr es W k r.closed h,Fh,Ad,by rw [r.len]; exact ay6 _,⟨.refl,by rw [r.len]; exact ay6 _⟩,r,.start p,?_⟩;have ext : ∀ {F' A'},Ex1 W.length Fh Ad F' A'->Ext Fh Ad F' A':=fun y=>⟨y.same,by have:=y.pre; rw [<- r.len,gy0] at this; exact this⟩
  exact ⟨fun F' A' W' H' S' σ' y r' sr' h'=>q F' A' W' H' _ _ (ext y) r' (.dd Rq.non) h',fun _ _ _ _ _ _ _ _ _ h=>h.elim,fun _ _ _ _ _ _ _ _ _ h=>h.elim,fun F' A' W' H' e v y r' z h'=>q F' A' W' H' e v (ext y) r' z h'⟩
section
variable {X : Bc} {n : Nat} {S : Sl} {W : Wl} {k : KB} {D : DB}
theorem bv (i : Nat) {x : Str} {pos : Pos} {e : El} (hs : S[i]? = some (some e)) (h : k e W) (hN : X.N[i]? = some x:=by rfl) (hv : Vis X.env.scope x:=by first | exact Or.inl rfl | exact Or.inr (Or.inl rfl) | exact Or.inr (Or.inr rfl)) (hd : (x == ("__debug__" : Str)) = false:=by decide)
  (hcd : (x == ("__classdict__" : Str)) = false:=by decide) : BE X S W (.Name x pos) k:=ze06 hN hv hs h hd hcd
theorem gS {x c : Str} {t : Tok} {pos : Pos} (hm : X.mg x = some (.str c t)) (h : k (.d (.str c)) W) (hg : Gl X x:=by rfl) (hd : (x == ("__debug__" : Str)) = false:=by decide) : BE X S W (.Name x pos) k:=zL4 (v:=.str c) hg hm ⟨t,rfl⟩ (fun _=>.str c) h hd
theorem gI {x : Str} {c : Int} {t : Tok} {pos : Pos} (hm : X.mg x = some (.int c t)) (h : k (.d (.int c)) W) (hg : Gl X x:=by rfl) (hd : (x == ("__debug__" : Str)) = false:=by decide) : BE X S W (.Name x pos) k:=zL4 (v:=.int c) hg hm ⟨t,rfl⟩ (fun _=>.int c) h hd
theorem zb53 {a b c : Expr} {op op' : CmpOp} {pos : Pos} {k : TB}
  (h : BE X S W a fun x W1=>BE X S W1 b fun y W2=>OB X (fy7 op) x y W2 fun z W3=>∃ t,z = .d (.bool t) /\ if t = true then BE X S W3 c fun u W4=>OB X (fy7 op') y u W4 fun z W5=>∃ t,z = .d (.bool t) /\ k t W5 else k false W3)
  (hm : lastMarks [op,op'] [b,c] = false:=by with_unfolding_all rfl) : BT X S W (.Compare a [op,op'] [b,c] pos) k :=
 .of (zb34 op_U op_U zi7 zi7 zi7 hm) fun F A σ H Q x0 r sr q =>
  h.use x0 r sr fun F1 A1 W1 H1 x vx e1 r1 z1 h1=>h1.use (x0.trans e1) r1 (sr.ext e1) fun F2 A2 W2 H2 y vy e2 r2 z2 h2=>h2 F2 A2 H2 _ vx vy r2 (z1.ext e2) z2 fun F3 A3 W3 H3 z vz e3 r3 z3 zR=>by
   refine za0 fun gG=>?_;obtain ⟨t,ht,h3⟩:=zR;subst ht;refine gG ?_;clear gG;obtain rfl:=Rq.zv3 z3;refine ⟨t,rfl,?_⟩;have x3:=(e1.trans e2).trans e3;cases t with
   | true =>
    rw [if_pos rfl] at h3 ⊢
    exact h3.use (x0.trans x3) r3 (sr.ext x3) fun F4 A4 W4 H4 u vu e4 r4 z4 h4=>h4 F4 A4 H4 _ vy vu r4 (z2.ext (e3.trans e4)) z4 fun F5 A5 W5 H5 z vz e5 r5 z5 zR=>by
     refine za0 fun gG=>?_;obtain ⟨t,ht,h5⟩:=zR;subst ht;refine gG ?_;clear gG;obtain rfl:=Rq.zv3 z5;exact ⟨t,rfl,q F5 A5 W5 H5 t ((x3.trans e4).trans e5) r5 h5⟩
   | false =>
    rw [if_neg (by decide)] at h3 ⊢;exact ⟨false,rfl,q F3 A3 W3 H3 false x3 r3 h3⟩
theorem zc95 : PIp X .Add (fun x y H Q=>∃ l b xs zs,x = .ref l /\ y = .ref b /\ H l = some (.lst xs) /\ Rd H b (.lst zs) /\ xs.length + zs.length <= by0 /\ Q (.ref l) (upd H l (.lst (xs++zs)))):=by
 intro pins s σ H x y v u Q I rx ry h;refine za0 fun gG=>?_;obtain ⟨l,b,xs,zs,rfl,rfl,hH,hB,hz,q⟩:=h;refine gG ?_;clear gG;cases rx;cases ry;refine za0 fun gG=>?_;obtain ⟨z,its,n,r,hl,e⟩:=I.lstM hH;obtain ⟨z2,its2,n2,r2,e2⟩:=hB.ok I.hok;refine gG ?_;clear gG;have hl2:=r2.length;have hsz : its.toArray.size + its2.toArray.size <= by0:=by rw [by7,by7]; omega
 have hlong : ¬ (!its.toArray.isEmpty && wy3 (its.toArray.size + its2.toArray.size)) = true:=by
  rw [zb38 hsz,Bool.and_false];exact by9
 refine zV0 ⟨_,e,rfl⟩ ⟨_,e2,rfl⟩ ?_
 refine call_meets F.slot_list_iadd ⟨_,e,rfl⟩ F.entry_list_iadd (F.args_list_iadd_2 _ _)
  (AutoSeq1.list___iadd___list_list_0 l its.toArray n b its2.toArray n2 hlong (by rw [by7]; omega) (by omega)) ⟨e,e2,?_⟩
 refine ⟨.ref l,_,I.lset (its':=its++its2) hH e (by simp) (r.append r2) ?_,rfl,q⟩;rw [by5];omega
theorem ze21 {j : Nat} {es : List El} {y : El} {ds : List PyData} {k : KB} (hj : W[j]? = some (.lst es)) (hy : y = .d (.list ds)) (hl : es.length + ds.length <= by0) (h : k (.o j) (W.set j (.lst (es++zb6 ds)))) : UB X .Add (.o j) y W k:=fun F A H vx vy Q r zx zy q=>by
 subst hy;refine za0 fun gG=>?_;obtain ⟨a,ws,rfl,ha,hH,p⟩:=r.at zx hj;obtain ⟨b,vs,rfl,hs,z⟩:=Rq.zz3 zy;refine gG ?_;clear gG;exact ⟨_,zc95,a,b,ws,vs,rfl,rfl,hH,r.sub.rd hs,by rw [<- zb2 p,<- zb2 z]; exact hl,q.put r ha (o:=.lst (es++zb6 ds)) ⟨_,rfl,zo0 p (zi2 z)⟩ zx h⟩
def truD : PyData->Bool
 | .none=>false | .bool b=>b | .int i=>i != 0 | .str y=>(y.length : Int) != 0 | .list xs=>!xs.isEmpty | .tuple xs=>!xs.isEmpty | .dict xs=>!xs.isEmpty
theorem zc42 {e : Expr} {k : TB} (h : BE X S W e fun x W1=>∃ d,dat W1 x d /\ (∀ y,d = .str y->y.length <= by0) /\ k (truD d) W1) (he : ∀ whole,isTrue e X.env whole = (do let v <- whole; standAt e.pos; holding [v] (truthy v)):=by intro _; rfl) : BT X S W e k :=
 .of (zb35 zi7 he) fun F A σ H Q x0 r sr q=>h.use x0 r sr fun F1 A1 W1 H1 x vx e1 r1 z1 zR=>by
  refine za0 fun gG=>?_;obtain ⟨d,hd,hy,h1⟩:=zR;refine gG ?_;clear gG;refine ⟨truD d,?_,q F1 A1 W1 H1 _ e1 r1 h1⟩;have z:=r1.dat z1 hd;cases z with
  | non=>rfl
  | bl b=>rfl
  | int i=>rfl
  | str y=>exact ⟨hy y rfl,rfl⟩
  | @lst a vs ds hs t=>exact .inl ⟨vs,.inl hs,by have:=zb2 t.pd; cases vs <;> cases ds <;> simp_all [truD]⟩
  | @tup a vs ds hs t=>exact .inr (.inl ⟨vs,hs,by have:=zb2 t.pd; cases vs <;> cases ds <;> simp_all [truD]⟩)
  | dct hs=>exact .inr (.inr ⟨[],hs,rfl⟩)
theorem zQ2 {K : ay4} {F : Hp} : ∀ {xs : List Int},Paired (fun d v=>Rq K F v d) (xs.map wy8) (xs.map V.int)
 | []=>.nil
 | x :: xs=>.cons (Rq.int x) zQ2
theorem za45 {ns : List Int} {lo hi : Option Int} (h : k (.d (.list ((zn0 ns lo hi).map .int))) W) : LB X (.s ns) lo hi W k:=.of zL1 fun F A H Q vx r zx q=>by
 refine za0 fun gG=>?_;obtain ⟨a,rfl,hs⟩:=zx;refine gG ?_;clear gG;have e : zL0 (ns.map V.int) lo hi = (zn0 ns lo hi).map V.int:=by unfold zL0 zn0; rw [ay5,ry4,List.map_drop]
 refine ⟨a,_,rfl,r.sub.seq hs,fun p hp=>?_⟩;rw [e];exact q.newL r hp zQ2 h
end
end L2
namespace L2
end L2
namespace L2
open PySem PySem.Spec PyProof.Rows
theorem zb9.at {P : cy6} {w : World} {H : Hp} {h : Heap} {a : Addr} {o : HO} (x : zb9 P w H h a o) : ∃ ob,h.get? a = some ob:=by
 cases o with
 | lst xs=>obtain ⟨_,_,_,_,e⟩:=x; exact ⟨_,e⟩
 | tup xs=>obtain ⟨_,_,_,o,e,_⟩:=x; exact ⟨_,e⟩
 | dK kvs=>obtain ⟨_,_,_,_,o,_,_,e,_⟩:=x; exact ⟨_,e⟩
 | dT kvs=>obtain ⟨_,_,_,_,o,_,_,e,_⟩:=x; exact ⟨_,e⟩
 | set S n=>obtain ⟨o,_,_,_,e,_⟩:=x; exact ⟨_,e⟩
 | ins C dx fs=>obtain ⟨_,_,_,e,_⟩:=x; exact ⟨_,e⟩
 | own y=>obtain ⟨_,e⟩:=x; exact ⟨_,e⟩
 | xd fs=>obtain ⟨_,⟨_,_,_,e,_⟩,_⟩:=x; exact ⟨_,e⟩
 | rng lo hi=>obtain ⟨_,_,_,e⟩:=x; exact ⟨_,e⟩
 | frz ob u=>obtain ⟨e,_⟩:=x; exact ⟨_,e⟩
 | tbl ps=>exact ⟨_,show h.get? a = some _ from x⟩
 | met f y=>exact ⟨_,show h.get? a = some _ from x⟩
 | ext φ=>obtain ⟨_,⟨_,e⟩,_⟩:=x; exact ⟨_,e⟩
section
variable {P : cy6} {w : World} {B h0 h h'' : Heap} {fr : List Addr} {H H' : Hp}
end
section
variable {M : Model} {A : Around} {E : Value->Shared->Prop} {s : Shared} {B : Heap} {env : Env} {outer : List Env} {L e : Addr} {cls : Value} {Q : Unit->Shared->Prop}
end
section
variable {X : Cx} {C : Addr} {H' : Hp} {σ : St} {e : Value} {s' : Shared}
end
section
variable {X : Bc} {n : Nat} {S : Sl} {W : Wl} {k : KB} {D : DB}
end
abbrev Cx.tryB (X : Cx) (pn : List (Addr × Obj)) (xe : Value->Shared->Prop) : Cx:={ X with pn:=pn,xe:=xe }
section
variable {X : Cx} {pins : List (Addr × Obj)} {σ : St} {H : Hp} {s : Shared} {xe : Value->Shared->Prop} {ea : Addr}
theorem Cx.Ok.tryB (ok : X.Ok) (pn : List (Addr × Obj)) : (X.tryB pn xe).Ok :=
 ⟨ok.mod,ok.kind,ok.glob,ok.blt,ok.above,ok.inj,ok.has,ok.cab,ok.hd,ok.frames,ok.stk,ok.exf,ok.bs,ok.bsz,ok.noex,ok.exfs,ok.zU1,ok.frf⟩
theorem Cx.Ok.zs6 {pn : List (Addr × Obj)} (ok : (X.tryB pn xe).Ok) : X.Ok :=
 ⟨ok.mod,ok.kind,ok.glob,ok.blt,ok.above,ok.inj,ok.has,ok.cab,ok.hd,ok.frames,ok.stk,ok.exf,ok.bs,ok.bsz,ok.noex,ok.exfs,ok.zU1,ok.frf⟩
theorem Inv.tryB (I : Inv X pins σ H s) : Inv (X.tryB (X.pn++pins) xe) [] σ H s:=⟨I.ok.tryB _,I.os,I.bare,I.base,I.loc,I.cell,I.free,I.freeC,fun p hp=>I.pin p (by simpa using hp),I.hok,I.len⟩
theorem Inv.zs6 {pins' : List (Addr × Obj)} (I : Inv (X.tryB (X.pn++pins) xe) pins' σ H s) : Inv X pins σ H s:=⟨I.ok.zs6,I.os,I.bare,I.base,I.loc,I.cell,I.free,I.freeC,fun p hp=>I.pin p (iy6 _ hp),I.hok,I.len⟩
theorem SP.zs6 {pins' : List (Addr × Obj)} {D : Ends} {f : Flow} (h : SP (X.tryB (X.pn++pins) xe) pins' D f s) : SP X pins D f s:=by
 cases f with
 | next=>obtain ⟨σ',H',I,q⟩:=h; exact ⟨σ',H',I.zs6,q⟩
 | brk=>obtain ⟨σ',H',I,q⟩:=h; exact ⟨σ',H',I.zs6,q⟩
 | cont=>obtain ⟨σ',H',I,q⟩:=h; exact ⟨σ',H',I.zs6,q⟩
 | ret u=>obtain ⟨v,σ',H',I,r,q⟩:=h; exact ⟨v,σ',H',I.zs6,r,q⟩
end
section
variable {X : Bc} {n : Nat} {S : Sl} {W : Wl} {D : DB}
end
end L2
namespace K1
open PySem L2
def LET : Str := "abcdefghijklmnopqrstuvwxyz"
def isNm (x : Str) : Bool:=(decide (1 <= x.length) && decide (x.length <= 8)) && x.cps.toList.all fun c=>decide (97 <= c) && decide (c <= 122)
theorem zM0 : LET.length = 26:=by decide +kernel
theorem zB8 (i : Nat) (h : i < 26) : LET.cps[i]? = some (97 + i):=by
 have : ∀ j : Fin 26,LET.cps[j.1]? = some (97 + j.1):=by decide +kernel
 exact this ⟨i,h⟩
theorem ze22 (c : Nat) : (!(wy4 LET ⟨#[c]⟩ 0 LET.length 1).isEmpty) = (decide (97 <= c) && decide (c <= 122)):=by
 have sub1 : ∀ i,Builtin.Str.subAt LET ⟨#[c]⟩ i = true ↔ LET.cps[i]? = some c:=fun i=>by
  unfold Builtin.Str.subAt;show (LET.cps.extract i (i + 1) == #[c]) = true ↔ _;rw [beq_iff_eq];have hs : LET.cps.size = 26:=zM0
  by_cases hi : i < 26
  ·rw [zB8 i hi]
   have : LET.cps.extract i (i + 1) = #[97 + i]:=by
    apply Array.ext
    ·simp [hs]; omega
    ·intro j h1 h2;have hj : j = 0:=by simp at h2; omega
     subst hj;have:=zB8 i hi;rw [Array.getElem_extract];simp;rw [py6 (by omega)] at this;simpa using this
   rw [this];simp
  ·constructor
   ·intro e;have:=congrArg Array.size e;simp [hs] at this;omega
   ·intro e;rw [my4 (by omega)] at e;cases e
 rcases PySem.StrLaws.occ_head LET ⟨#[c]⟩ 1 (ay6 _) with ⟨h0,hn⟩ | ⟨i,r,h0,hi,_⟩
 ·rw [h0]
  by_cases hc : 97 <= c /\ c <= 122
  ·exfalso;refine hn (c - 97) ⟨?_,(sub1 _).mpr ?_⟩
   ·rw [zM0]; show c - 97 + 1 <= 26; omega
   ·rw [zB8 _ (by omega)]; congr 1; omega
  ·have : (decide (97 <= c) && decide (c <= 122)) = false:=by
    by_cases h1 : 97 <= c
    ·have : ¬ c <= 122:=fun h2=>hc ⟨h1,h2⟩;simp [this]
    ·simp [h1]
   rw [this];rfl
 ·rw [h0];have e:=(sub1 i).mp hi.2
  have hlt : i < 26:=by
   have:=hi.1;rw [zM0] at this;have : i + 1 <= 26:=this;omega
  rw [zB8 i hlt] at e;have e : 97 + i = c:=jy0 e;have h1 : 97 <= c:=by omega
  have h2 : c <= 122:=by omega
  simp [h1,h2]
abbrev cs (x : Str) : List Nat:=x.cps.toList
theorem ze23 (x : Str) : (cs x).length = x.length:=iy0
theorem zc43 {x : Str} : isNm x = true ↔ 1 <= (cs x).length /\ (cs x).length <= 8 /\ ∀ c∈cs x,97 <= c /\ c <= 122:=by
 unfold isNm;rw [<- ze23];show ((decide (1 <= (cs x).length) && decide ((cs x).length <= 8)) && (cs x).all fun c=>decide (97 <= c) && decide (c <= 122)) = true ↔ _;generalize cs x = l;simp [and_assoc]
structure za7 where
 tk : Bool
 x : Str
 y : Str
 w : Str
 deriving DecidableEq
def za7.kd (d : za7) : Str:=if d.tk then "take" else "send"
structure za7.Ok (d : za7) : Prop where
 x : isNm d.x = true
 y : isNm d.y = true
 w : isNm d.w = true
 ne : d.x ≠ d.y
theorem ze24 (d : za7) : d.kd = "send" \/ d.kd = "take" := by
 unfold za7.kd
 split
 ·exact .inr rfl
 ·exact .inl rfl
theorem ze25 {d e : za7} (h : d.kd = e.kd) : d.tk = e.tk:=by
 unfold za7.kd at h;have : ("take" : Str) ≠ "send" := by decide +kernel
 cases hd : d.tk <;> cases he : e.tk <;> simp only [hd,he] at h ⊢ <;> first | rfl | exact absurd h this | exact absurd h.symm this
def dP (d : za7) : PyData:=.tuple [.str d.kd,.str d.x,.str d.y,.str d.w]
def rP (ds : List za7) : PyData:=.tuple (ds.map dP)
theorem zj3 {x : Str} (h : isNm x = true) : uy2 x = true:=by
 have h3:=(zc43.mp h).2.2;show x.cps.all (· < 0x110000) = true;rw [Array.all_eq_true_iff_forall_mem];intro c hc;have:=h3 c (by simpa using hc);simp;omega
theorem zb54 (d : za7) : uy2 d.kd = true:=by
 rcases ze24 d with h | h <;> rw [h] <;> decide +kernel
theorem zc96 {d : za7} (h : d.Ok) : (dP d).canLay0 = true /\ (dP d).depth <= 2:=by
 constructor
 ·simp [dP,sy5,ky9,zj3 h.x,zj3 h.y,zj3 h.w,zb54]
 ·simp [dP,PyData.depth,oy7]
theorem za47 : ∀ {ds : List za7},(∀ d∈ds,d.Ok)->ky9 (ds.map dP) = true /\ oy7 (ds.map dP) <= 2
 | [],_=>⟨rfl,by simp [oy7]⟩
 | d :: ds,h=>by
  refine za0 fun gG=>?_;obtain ⟨h1,h2⟩:=zc96 (h d by2);obtain ⟨h3,h4⟩:=za47 fun e he=>h e (by1 _ he);refine gG ?_;clear gG;constructor
  ·simp [ky9,h1,h3]
  ·simp only [ey6,oy7];omega
theorem zV4 {ds : List za7} (h : ∀ d∈ds,d.Ok) : Dat (rP ds):=by
 obtain ⟨h1,h2⟩:=za47 h;constructor
 ·simp [rP,sy5,h1]
 ·simp only [rP,PyData.depth];omega
theorem ze26 {d : za7} (h : d.Ok) : Dat (dP d):=⟨(zc96 h).1,by have:=(zc96 h).2; omega⟩
theorem zc97 (d e : za7) : ly0 (dP d) (dP e) = decide (d = e):=by
 refine za0 fun gG=>?_;obtain ⟨dt,dx,dy,dw⟩:=d;obtain ⟨et,ex,ey,ew⟩:=e;refine gG ?_;clear gG;simp only [dP,ly0,my7,Bool.and_true];rw [qy1];simp only [my0,beq_iff_eq,decide_eq_true_eq,za7.mk.injEq];constructor
 ·intro gX;refine za0 fun gG=>?_;obtain ⟨h1,h2,h3,h4⟩:=gX;refine gG ?_;clear gG;exact ⟨ze25 (d:=⟨dt,dx,dy,dw⟩) (e:=⟨et,ex,ey,ew⟩) h1,h2,h3,h4⟩
 ·intro gX;refine za0 fun gG=>?_;obtain ⟨rfl,rfl,rfl,rfl⟩:=gX;refine gG ?_;clear gG;exact ⟨rfl,rfl,rfl,rfl⟩
theorem zc44 : ∀ (ds es : List za7),my7 (ds.map dP) (es.map dP) = decide (ds = es)
 | [],[]=>by simp [my7]
 | [],_ :: _=>by simp [my7]
 | _ :: _,[]=>by simp [my7]
 | d :: ds,e :: es=>by
  simp only [ey6,my7,zc97,zc44 ds es];rw [qy1];simp
theorem zc98 (ds es : List za7) : ly0 (rP ds) (rP es) = decide (ds = es):=by
 simp only [rP,ly0,zc44]
theorem zu0 {α : Type} (xs : List α) (k : Nat) : zn0 xs (some (k : Int)) none = xs.drop k:=by
 unfold zn0;have e1 : HT.sIx xs.length 0 (some (k : Int)) = min k xs.length:=HT.za12 xs.length 0 k;have e2 : HT.sIx xs.length xs.length none = xs.length:=rfl;rw [e1,e2]
 by_cases h : k <= xs.length
 ·rw [oy6 h,hy7 (by rw [vy6]; exact ay6 _)]
 ·rw [List.drop_eq_nil_of_le (show xs.length <= k by omega),List.drop_eq_nil_of_le (by omega)];simp
theorem zs7 {α : Type} (xs : List α) (k : Nat) : zn0 xs none (some (k : Int)) = xs.take k:=by
 unfold zn0;have e1 : HT.sIx xs.length 0 none = 0:=rfl;have e2 : HT.sIx xs.length xs.length (some (k : Int)) = min k xs.length:=HT.za12 xs.length xs.length k;rw [e1,e2,List.drop_zero,Nat.sub_zero]
 by_cases h : k <= xs.length
 ·rw [oy6 h]
 ·rw [hy7 (by omega),hy7 (by omega)]
theorem zh8 {α : Type} {xs : List α} {k : Nat} {x : α} (h : xs[k]? = some x) : atI xs (k : Int) = some x:=by
 have hk:=(ay3.mp h).1;unfold atI ixN;rw [if_pos (by omega),if_pos (by omega)];simpa using h
theorem zV5 {hs : List Str} {x : Str} (hl : 2 <= hs.length) (hn : hs.Nodup) : 0 < (hs.filter fun z=>decide (z ≠ x)).length:=by
 match hs,hl with
 | a :: b :: r,_ =>
  apply List.length_pos_of_mem (a:=if a = x then b else a);rw [gy6]
  by_cases e : a = x
  ·rw [if_pos e];refine ⟨by simp,?_⟩
   have : b ≠ x:=by
    rintro rfl;subst e;simp at hn
   simpa using this
  ·rw [if_neg e];exact ⟨by simp,by simpa using e⟩
theorem zB9 : ∀ (a b : List Str),my7 (a.map .str) (b.map .str) = decide (a = b)
 | [],[]=>by simp [my7]
 | [],_ :: _=>by simp [my7]
 | _ :: _,[]=>by simp [my7]
 | d :: ds,e :: es=>by
  simp only [ey6,my7,zB9 ds es,ly0];rw [qy1];simp
theorem zQ3 (a b : List Str) : ly0 (.list (a.map .str)) (.list (b.map .str)) = decide (a = b):=by
 simp only [ly0,zB9]
theorem zQ4 : ∀ {ns : List Str},(∀ x∈ns,uy2 x = true)->ky9 (ns.map .str) = true /\ oy7 (ns.map .str) <= 1
 | [],_=>⟨rfl,by simp [oy7]⟩
 | x :: r,h=>by
  obtain ⟨h1,h2⟩:=zQ4 fun y hy=>h y (by1 _ hy);refine ⟨by simp [ky9,sy5,h1,h x by2],?_⟩;simp only [ey6,oy7,PyData.depth];omega
theorem zm3 {ns : List Str} (h : ∀ x∈ns,uy2 x = true) : Dat (.list (ns.map .str)):=by
 obtain ⟨h1,h2⟩:=zQ4 h;exact ⟨by simp [sy5,h1],by simp only [PyData.depth]; omega⟩
theorem za48 {ns : List Str} (h : ∀ x∈ns,isNm x = true) : ∀ x∈ns,uy2 x = true:=fun x hx=>zj3 (h x hx)
end K1
namespace L2
open PySem PySem.Spec PyProof.Rows
section
variable {X : Cx} {C ea : Addr} {H' : Hp} {σ : St} {s' : Shared}
end
section
variable {X : Bc} {n : Nat} {S : Sl} {W : Wl} {D : DB}
end
section
variable {κ : Type} [DecidableEq κ]
def zz9 (kvs : List (κ × V)) (k : κ) : Option V:=(kvs.find? fun kv=>decide (kv.1 = k)).map (·.2)
def putK (kvs : List (κ × V)) (k : κ) (v : V) : List (κ × V) :=
 if (kvs.any fun kv=>decide (kv.1 = k)) = true then kvs.map (fun kv=>if kv.1 = k then (kv.1,v) else kv) else kvs++[(k,v)]
theorem zo8 {p : κ × V} {r : List (κ × V)} {k : κ} (e : p.1 = k) : zz9 (p :: r) k = some p.2:=by simp [zz9,hy0,e]
theorem zo9 {p : κ × V} {r : List (κ × V)} {k : κ} (e : ¬ p.1 = k) : zz9 (p :: r) k = zz9 r k:=by simp [zz9,hy0,e]
theorem zC0 (k : κ) : ∀ kvs : List (κ × V),(kvs.any fun kv=>decide (kv.1 = k)) = (zz9 kvs k).isSome
 | []=>rfl
 | p :: r=>by
  rw [ry3]
  by_cases e : p.1 = k
  ·simp only [zo8 e,decide_eq_true e,Bool.true_or,Option.isSome_some]
  ·rw [zo9 e,decide_eq_false e,Bool.false_or]; exact zC0 k r
theorem zn2 (kvs : List (κ × V)) (k : κ) (v : V) : (putK kvs k v).length <= kvs.length + 1:=by
 unfold putK
 split
 ·rw [ay5]; omega
 ·rw [by5,hy8,List.length_nil]; omega
theorem zb55 {kvs : List (κ × V)} {k : κ} (v : V) (h : zz9 kvs k = none) : putK kvs k v = kvs++[(k,v)]:=by
 unfold putK;rw [zC0,h];exact if_neg (by decide)
theorem zF4.za49 {o : Option V} {u : Option Value} (r : zF4 o u) : o.isSome = u.isSome:=by
 cases o with
 | none=>cases u with
  | none=>rfl
  | some _=>exact (show False from r).elim
 | some _=>cases u with
  | none=>exact (show False from r).elim
  | some _=>rfl
theorem zF4.getD {o : Option V} {u : Option Value} {d : V} {d' : Value} (r : zF4 o u) (rd : RelV d d') : RelV (o.getD d) (u.getD d'):=by
 cases o with
 | none=>cases u with
  | none=>exact rd
  | some _=>exact (show False from r).elim
 | some _=>cases u with
  | none=>exact (show False from r).elim
  | some _=>exact r
theorem KV.val {kvs : List (κ × V)} {vs : List (κ × Value)} (r : KV kvs vs) (k : κ) : zF4 (zz9 kvs k) (valueAt vs k):=by
 unfold KV at r
 induction r with
 | nil=>exact uy7
 | @cons p q ps qs h t ih =>
  obtain ⟨h1,h2⟩:=h
  by_cases e : p.1 = k
  ·have e' : q.1 = k:=h1.symm.trans e;have b : valueAt (q :: qs) k = some q.2:=by simp [valueAt,hy0,e']
   rw [zo8 e,b]; exact h2
  ·have e' : ¬ q.1 = k:=fun z=>e (h1.trans z);have b : valueAt (q :: qs) k = valueAt qs k:=by simp [valueAt,hy0,e']
   rw [zo9 e,b]; exact ih
theorem KV.any {kvs : List (κ × V)} {vs : List (κ × Value)} (r : KV kvs vs) (k : κ) : (kvs.any fun kv=>decide (kv.1 = k)) = vs.any fun kv=>decide (kv.1 = k):=by
 unfold KV at r
 induction r with
 | nil=>rfl
 | cons h t ih=>rw [ry3,ry3,ih,h.1]
theorem KV.repl {kvs : List (κ × V)} {vs : List (κ × Value)} (r : KV kvs vs) (k : κ) {y : V} {u : Value} (ry : RelV y u) :
  KV (kvs.map fun kv=>if kv.1 = k then (kv.1,y) else kv) (vs.map fun kv=>if kv.1 = k then (kv.1,u) else kv):=by
 unfold KV at r ⊢
 induction r with
 | nil=>exact .nil
 | @cons p q ps qs h t ih =>
  rw [ey6,ey6];refine .cons ?_ ih;obtain ⟨h1,h2⟩:=h
  by_cases e : p.1 = k
  ·rw [if_pos e,if_pos (h1.symm.trans e)]; exact ⟨h1,ry⟩
  ·rw [if_neg e,if_neg (fun z=>e (h1.trans z))]; exact ⟨h1,h2⟩
theorem KV.put {kvs : List (κ × V)} {vs : List (κ × Value)} (r : KV kvs vs) (k : κ) {y : V} {u : Value} (ry : RelV y u) : KV (putK kvs k y) (stored vs k u):=by
 unfold putK stored;rw [r.any k]
 by_cases e : (vs.any fun kv=>decide (kv.1 = k)) = true
 ·rw [if_pos e,if_pos e]; exact r.repl k ry
 ·rw [if_neg e,if_neg e]; exact Paired.snoc r ⟨rfl,ry⟩
theorem KV.length {kvs : List (κ × V)} {vs : List (κ × Value)} (r : KV kvs vs) : kvs.length = vs.length:=Paired.length r
end
theorem zc99 {P : cy6} {w : World} {k : Key} {u : Value} (r : RelV (kV k) u) : (zc5 P w).is k u = true:=by
 cases k with
 | inl i=>obtain ⟨t,e⟩:=(show ∃ t,u = Value.int i t from r); subst e; exact zK7 P w i t
 | inr x=>obtain ⟨t,e⟩:=(show ∃ t,u = Value.str x t from r); subst e; exact zu6 P w x t
theorem zw5 {P : cy6} {w : World} : ∀ {ks : List Key} {us : List Value},Vals (ks.map kV) us->ItemsAre (zc5 P w) ks us
 | [],_,r=>by rw [List.map_nil] at r; cases r; exact .nil
 | k :: ks,_,r=>by
  rw [ey6] at r;cases r with
  | cons h t=>exact .cons (zc99 h) (zw5 t)
abbrev KT (H : Hp) : List (List Key × V)->List (List Key × Addr × Value)->Prop:=Paired fun p q=>p.1 = q.1 /\ H q.2.1 = some (.tup (p.1.map kV)) /\ RelV p.2 q.2.2
theorem KT.val {H : Hp} {kvs : List (List Key × V)} {xs : List (List Key × Addr × Value)} (r : KT H kvs xs) (k : List Key) : zF4 (zz9 kvs k) ((atKey xs k).map (·.2)):=by
 induction r with
 | nil=>exact uy7
 | @cons p q ps qs h t ih =>
  refine za0 fun gG=>?_;obtain ⟨h1,_,h2⟩:=h;refine gG ?_;clear gG
  by_cases e : p.1 = k
  ·have e' : q.1 = k:=h1.symm.trans e;have b : atKey (q :: qs) k = some q.2:=by simp [atKey,hy0,e']
   rw [zo8 e,b]; exact h2
  ·have e' : ¬ q.1 = k:=fun z=>e (h1.trans z);have b : atKey (q :: qs) k = atKey qs k:=by simp [atKey,hy0,e']
   rw [zo9 e,b]; exact ih
theorem KT.repl {H : Hp} {kvs : List (List Key × V)} {xs : List (List Key × Addr × Value)} (r : KT H kvs xs) (k : List Key) {y : V} {u : Value} (ry : RelV y u) :
  KT H (kvs.map fun kv=>if kv.1 = k then (kv.1,y) else kv) (xs.map (putAt k u)):=by
 induction r with
 | nil=>exact .nil
 | @cons p q ps qs h t ih =>
  rw [ey6,ey6];refine .cons ?_ ih;refine za0 fun gG=>?_;obtain ⟨h1,h2,h3⟩:=h;refine gG ?_;clear gG;unfold putAt
  by_cases e : p.1 = k
  ·rw [if_pos e,if_pos (h1.symm.trans e)]; exact ⟨h1,h2,ry⟩
  ·rw [if_neg e,if_neg (fun z=>e (h1.trans z))]; exact ⟨h1,h2,h3⟩
theorem KT.put {H : Hp} {kvs : List (List Key × V)} {xs : List (List Key × Addr × Value)} (r : KT H kvs xs) (k : List Key) {b : Addr} {y : V} {u : Value} (hb : H b = some (.tup (k.map kV))) (ry : RelV y u) :
  KT H (putK kvs k y) (storedH xs k b u):=by
 have e : (kvs.any fun kv=>decide (kv.1 = k)) = (atKey xs k).isSome:=by
  rw [zC0,(r.val k).za49,Option.isSome_map]
 unfold putK storedH;rw [e]
 by_cases q : (atKey xs k).isSome = true
 ·rw [if_pos q,if_pos q]; exact r.repl k ry
 ·rw [if_neg q,if_neg q]; exact Paired.snoc r ⟨rfl,hb,ry⟩
theorem KT.keeps {H H' : Hp} {kvs : List (List Key × V)} {xs : List (List Key × Addr × Value)} (r : KT H kvs xs) (ht : ∀ b ys,H b = some (.tup ys)->H' b = some (.tup ys)) : KT H' kvs xs :=
 Paired.mapP r fun _ _ z=>⟨z.1,ht _ _ z.2.1,z.2.2⟩
section
variable {P : cy6} {w : World} {H : Hp} {h : Heap} {a : Addr}
theorem ze27 {u : HO} (ok : HOk P w H h) (e : Rd H a u) : zb9 P w H h a u:=e.ok ok
theorem zf27 {kvs : List (Key × V)} (ok : HOk P w H h) (e : Rd H a (.dK kvs)) : kvs.length <= by0 /\ (a == ly6) = false /\ ∃ vs,KV kvs vs /\ h.DictOf (zc5 P w) a vs :=
 show zb9 P w H h a (.dK kvs) from ze27 ok e
theorem ze28 {kvs : List (Key × V)} (ok : HOk P w H h) (e : H a = some (.dK kvs)) : kvs.length <= by0 /\ (a == ly6) = false /\ ∃ vs,KV kvs vs /\ h.DictOf (zc5 P w) a vs:=zf27 ok (.inl e)
theorem za50 {ks : List Key} (ok : HOk P w H h) (e : H a = some (.tup (ks.map kV))) : (tupleKind (zc5 P w)).is h ks a:=by
 refine za0 fun gG=>?_;obtain ⟨_,its,r,o,h1,h2,n,h3⟩:=(show zb9 P w H h a (.tup (ks.map kV)) from ok a _ e)
 refine gG ?_;clear gG;exact ⟨o,its.toArray,n,h1,h2,h3,by simpa using zw5 r⟩
theorem zf28 {kvs : List (List Key × V)} (ok : HOk P w H h) (e : Rd H a (.dT kvs)) : kvs.length <= by0 /\ (a == ly6) = false /\
  ∃ xs,KT H kvs xs /\ h.DictOfH (tupleKind (zc5 P w)) a xs:=by
 refine za0 fun gG=>?_;obtain ⟨z,y,xs,r,o,es,ep,h1,h2,h3,h4,h5⟩:=(show zb9 P w H h a (.dT kvs) from ze27 ok e)
 refine gG ?_;clear gG;refine ⟨z,y,xs,r,o,es,ep,h1,h2,h3,h4,fun x hx=>?_,h5⟩
 have all : ∀ {l : List (List Key × V)} {m : List (List Key × Addr × Value)},KT H l m->∀ x∈m,(tupleKind (zc5 P w)).is h x.1 x.2.1:=by
  intro l m q
  induction q with
  | nil=>intro x hx; exact nomatch hx
  | @cons p q ps qs hq t ih =>
   intro x hx;rcases by8.mp hx with e | hx
   ·subst e;exact za50 ok (by rw [<- hq.1]; exact hq.2.1)
   ·exact ih x hx
 exact all r x hx
theorem zb56 {kvs : List (List Key × V)} (ok : HOk P w H h) (e : H a = some (.dT kvs)) : kvs.length <= by0 /\ (a == ly6) = false /\
  ∃ xs,KT H kvs xs /\ h.DictOfH (tupleKind (zc5 P w)) a xs:=zf28 ok (.inl e)
end
def DPut (H : Hp) (a : Addr) (y v : V) (H' : Hp) : Prop :=
 (∃ kvs k,H a = some (.dK kvs) /\ y = kV k /\ kvs.length < by0 /\ H' = upd H a (.dK (putK kvs k v))) \/
 ∃ kvs k b,H a = some (.dT kvs) /\ y = .ref b /\ H b = some (.tup (k.map kV)) /\ kvs.length < by0 /\ H' = upd H a (.dT (putK kvs k v))
theorem DPut.t {H : Hp} {a b : Addr} {kvs : List (List Key × V)} {k : List Key} {v : V} (e : H a = some (.dT kvs)) (eb : H b = some (.tup (k.map kV))) (hl : kvs.length < by0) :
  DPut H a (.ref b) v (upd H a (.dT (putK kvs k v))):=.inr ⟨kvs,k,b,e,rfl,eb,hl,rfl⟩
section
variable {X : Cx} {pins : List (Addr × Obj)} {σ : St} {H : Hp} {s : Shared} {a : Addr} {y v : V} {u r : Value} {o : Option V} {A : Around} {E : Value->Shared->Prop}
theorem zM1 {h' : Heap} {t' : Nat} {ob : HO} (I : Inv X pins σ H s) (mu : Mut (H a)) (hs : fy0 a s.heap h') (he : ∃ q,h'.get? a = some q) (new : zb9 X.prog X.w (upd H a ob) h' a ob) :
  Inv X pins σ (upd H a ob) { s with heap:=h',toks:=t' } :=
 I.write (x:=a) (e:=a) mu (.inl rfl) (fun b q hb z=>(hs.2 b hb).trans z) he new
theorem zc45 {P : cy6} {w : World} {H' : Hp} {h' : Heap} {kvs : List (Key × V)} {vs : List (Key × Value)} (z : kvs.length <= by0) (hd : (a == ly6) = false) (rel : KV kvs vs) (dd : h'.DictOf (zc5 P w) a vs) :
  zb9 P w H' h' a (.dK kvs):=⟨z,hd,vs,rel,dd⟩
theorem za51 {H' : Hp} {Q : Unit->Shared->Prop} (hu : A.units + 1 < cLine) (I : Inv X pins σ H s) (g : DPut H a y v H') (ry : RelV y u) (rv : RelV v r) (h : ∀ s',Inv X pins σ H' s'->Q () s') :
  wpAny (model X.prog X.w) A (setItem (.ref a) u r) Q E s:=by
 rcases g with ⟨kvs,k,e,ey,l,eH⟩ | ⟨kvs,k,b,e,ey,eb,l,eH⟩
 ·subst ey eH;refine za0 fun gG=>?_;obtain ⟨z,hd,vs,rel,dd⟩:=ze28 I.hok e;refine gG ?_;clear gG;have hz : vs.length <= by0:=by rw [<- rel.length]; exact z
  have hl : (putK kvs k v).length <= by0:=by have:=zn2 kvs k v; omega
  refine wpAny_setItem_pairs (hsz:=hz) (zc99 ry) dd fun h' dd' hs=>h _ ?_;have he : ∃ q,h'.get? a = some q:=let ⟨q,_,_,hq,_⟩:=dd'; ⟨q,hq⟩;exact zM1 I (by rw [e]; exact uy7) hs he (zc45 hl hd (rel.put k rv) dd')
 ·subst ey eH;cases (show u = dy2 b from ry);refine za0 fun gG=>?_;obtain ⟨z,hd,xs,rel,dd⟩:=zb56 I.hok e;refine gG ?_;clear gG;have hz : xs.length <= by0:=by rw [<- Paired.length rel]; exact z
  have hl : (putK kvs k v).length <= by0:=by have:=zn2 kvs k v; omega
  refine wpAny_setItem_heap (hsz:=hz) (tupleKind_room_in1 hu) (za50 I.hok eb) dd fun h' dd' hs=>h _ ?_;refine za0 fun gG=>?_;obtain ⟨q,es,ep,hq,h2,h3,h4,_,h5⟩:=dd';refine gG ?_;clear gG;refine zM1 I (by rw [e]; exact uy7) hs ⟨q,hq⟩ ⟨hl,hd,_,(rel.put k eb rv).keeps fun c ys ec=>?_,q,es,ep,hq,h2,h3,h4,h5⟩;rw [za8 (zK8 ec e (fun z=>nomatch z))];exact ec
end
section
variable {X : Cx} {pins : List (Addr × Obj)} {σ : St} {H : Hp} {s : Shared} {a : Addr} {kvs : List (Key × V)} {k : Key} {u : Value} {A : Around} {E : Value->Shared->Prop}
end
section
variable {X : Cx} {o i e value : Expr} {pos pos' tpos : Pos} {td ty tv : TE}
end
theorem zb57 {P : cy6} {w : World} {H : Hp} (h : Heap) (hb : ly6 < h.objs.size) : zb9 P w H (h.push { cls:=.type "dict",data:=.dict #[] }) h.objs.size (.dT []) :=
 ⟨dy7 _,beq_eq_false_iff_ne.mpr (fy4 (cy1 hb)),[],.nil,_,#[],0,ay7 _ rfl,⟨rfl,rfl,rfl⟩,rfl,rfl,List.nodup_nil⟩
def ze30 : TE:=fun _ H Q=>∀ p,H p = none->Q (.ref p) (upd H p (.dT []))
section
variable {X : Cx} {pos : Pos}
theorem zb58 : PE X (.Dict [] [] pos) ze30:=fun pins s σ H Q I h =>
 wpAny_Dict_empty ⟨.ref s.heap.objs.size,_,I.laid (a:=s.heap.objs.size) (o:=.dT []) (t':=s.toks) (fun _ _ q=>ay2 _ q) (ay6 _) (zb57 s.heap I.big),rfl,h _ (I.hok.fresh (ay6 _))⟩
end
section
variable {X : Cx} {pins : List (Addr × Obj)} {σ : St} {H : Hp} {s : Shared} {a : Addr} {y d : V} {u r : Value} {o : Option V} {A : Around} {E : Value->Shared->Prop}
end
section
variable {X : Cx} {o e f : Expr} {apos cpos : Pos} {td ty tx : TE}
end
section
variable {X : Cx} {pins : List (Addr × Obj)} {σ : St} {H : Hp} {s : Shared} {a : Addr} {kvs : List (Key × V)} {A : Around} {E : Value->Shared->Prop}
end
section
variable {X : Cx} {pins : List (Addr × Obj)} {σ : St} {H : Hp} {s : Shared} {a : Addr} {y : V} {u : Value} {A : Around} {E : Value->Shared->Prop}
end
theorem zw6 {α : Type} {l : List α} {k : α} (h : l.Nodup) (hk : k ∉ l) : (l++[k]).Nodup:=List.nodup_append.mpr ⟨h,by simp,fun x hx y hy e=>hk (by cases fy1.mp hy; exact e ▸ hx)⟩
section
variable {prog : cy6} {w : World} {K : Type} [DecidableEq K] {knd : HeapKind prog w K} {A : Around} {E : Value->Shared->Prop} {s : Shared}
theorem zV6 {h : Heap} {d a : Addr} {xs : List (K × Addr × Value)} {k : K} {v : Value} (hm : h.DictOfH knd d xs) (hkey : knd.is h k a) (hk : atKey xs k = none) (hk' : k ∉ xs.map (·.1)) :
  (h.update d (Obj.mapDictKeys (·.push ⟨knd.hash k,.ref a,v⟩))).DictOfH knd d (storedH xs k a v):=by
 refine za0 fun gG=>?_;obtain ⟨ob,ents,n,g1,g2,g3,g4,g5,g6⟩:=hm;refine gG ?_;clear gG;have all : ∀ x∈xs++[(k,a,v)],knd.is h x.1 x.2.1:=fun x hx=>(dy9.mp hx).elim (g5 x) fun z=>by cases fy1.mp z; exact hkey
 rw [storedH_new hk];refine ⟨_,_,n + 1,fy6 _ g1 (Obj.isFreed_of_dict (Obj.data_mapDictKeys g3 _)),g2.mapDictKeys _,Obj.data_mapDictKeys g3 _,by simp [g4,entryOfKey],fun x hx=>knd.keeps (all x hx) g1 g3 (hy4 ..),?_⟩;rw [gy2];exact zw6 g6 hk'
theorem zn3 {d a : Addr} {xs : List (K × Addr × Value)} {k : K} {v : Value} {Q : Value->Shared->Prop} (hu : knd.room A) (hkey : knd.is s.heap k a) (hm : s.heap.DictOfH knd d xs) (hsz : xs.length <= by0)
  (h1 : ∀ p,atKey xs k = some p->Q p.2 { s with toks:=s.toks + knd.draws k })
  (h2 : atKey xs k = none->∀ h',h'.DictOfH knd d (storedH xs k a v)->fy0 d s.heap h'->Q v { s with heap:=h',toks:=s.toks + knd.draws k }) :
  wpAny (model prog w) A (dictSetDefault d (.ref a) v) Q E s:=by
 have hm0:=hm;refine za0 fun gG=>?_;obtain ⟨ob,ents,n,g1,g2,g3,g4,g5,g6⟩:=hm;refine gG ?_;clear gG
 let s1 : Shared:={ s with toks:=s.toks + knd.draws k }
 unfold dictSetDefault;refine fy3 (ay0 (knd.pyHash hu hkey (ay0 (wpAny_dictFind_heap (s:=s1) hu hkey g1 g3 g4 g5 g6 (fun no=>?_) fun j p hj=>?_))))
 ·have none_:=atKey_none_of_get no;have few : ents.size <= by0:=by have:=size_of_entries g4; omega
  exact ay0 (ny4 (ay0 (wpAny_updateDictKeys (hz:=few) (s:=s1) g1 g3 (ay1 (h2 none_ _ (zV6 hm0 hkey none_ (not_mem_keys_of_get no)) (hy4 ..))))))
 ·refine ay0 (ky1 (s:=s1) g1 g3 ?_);rw [entry_at g4 j,hj];exact ay0 (ny4 (ay1 (h1 p (atKey_of_get g6 hj))))
theorem zq9 (knd : HeapKind prog w K) (d a : Addr) (hd : (d == ly6) = false) (dflt : Value) :
  MeetsIn prog w (qy4.«dict.setdefault» ⟨[.ref d,.ref a,dflt],[]⟩) (fun A R s=>knd.room A.in1 /\ ∃ k xs,knd.is s.heap k a /\ s.heap.DictOfH knd d xs /\ xs.length <= by0 /\
   (∀ p,atKey xs k = some p->R (.ok (.ret p.2)) { s with toks:=s.toks + knd.draws k }) /\
   (atKey xs k = none->∀ h',h'.DictOfH knd d (storedH xs k a dflt)->fy0 d s.heap h'->R (.ok (.ret dflt)) { s with heap:=h',toks:=s.toks + knd.draws k })) :=
 .of_wp fun A R s zR=>by
  refine za0 fun gG=>?_;obtain ⟨hu,k,xs,hkey,hm,hz,h1,h2⟩:=zR;refine gG ?_;clear gG;unfold Builtin.«dict.setdefault»;refine ay0 ?_;unfold Builtin.Dict.keyAndDefault;refine ay0 (py1 hm.typeIs ?_);show wpAny _ _ (pure (d,dy2 a,some dflt)) _ _ s;refine ay1 ?_;show wpAny _ _ (if (d == ly6) = true then _ else (dictSetDefault d (.ref a) dflt >>= _)) _ _ s;rw [if_neg (by rw [hd]; exact by9)];exact ay0 (zn3 hu hkey hm hz (fun p hp=>ay1 ⟨p.2,rfl,h1 p hp⟩) fun hn h' hm' hs'=>ay1 ⟨dflt,rfl,h2 hn h' hm' hs'⟩)
end
section
variable {X : Cx}
theorem zc46 {pins : List (Addr × Obj)} {σ : St} {H : Hp} {s : Shared} {b : Addr} {ks : List Key} (I : Inv X pins σ H s) (e : SqT X.K H b (ks.map kV)) : (tupleKind (zc5 X.prog X.w)).is s.heap ks b:=by
 refine za0 fun gG=>?_;obtain ⟨its,r,⟨o,h1,h2,n,h3⟩,_⟩:=I.tuple e;refine gG ?_;clear gG;exact ⟨o,its.toArray,n,h1,h2,h3,by simpa using zw5 r⟩
theorem zb59 (hu : X.A.units + 1 < cLine) : MtR X "dict.get" (fun x ys H Q=>∃ a kvs k b d,x = .ref a /\ ys = [.ref b,d] /\ H a = some (.dT kvs) /\ SqT X.K H b (k.map kV) /\ Q ((zz9 kvs k).getD d) H):=by
 intro pins s σ H x ys v us Q I rx rs h;refine za0 fun gG=>?_;obtain ⟨a,kvs,k,b,d,rfl,rfl,e,eb,q⟩:=h;obtain ⟨u,r,rfl,ru,rd⟩:=rs.two;refine gG ?_;clear gG;cases (show v = dy2 a from rx);cases (show u = dy2 b from ru);refine za0 fun gG=>?_;obtain ⟨z,hd,xs,rel,dd⟩:=zb56 I.hok e;refine gG ?_;clear gG;exact call_meetsIn py2 dd.typeIs PySem.F.entry_dict_get (PySem.F.args_dict_get_3 _ _ _) (meetsH_dict_get_default (tupleKind (zc5 X.prog X.w)) a b hd r) ⟨tupleKind_room_in1 hu,k,xs,zc46 I eb,dd,_,H,I.tok _,(rel.val k).getD rd,q⟩
theorem zV7 (hu : X.A.units + 1 < cLine) : MtR X "dict.setdefault" (fun x ys H Q=>∃ a kvs k b d,x = .ref a /\ ys = [.ref b,d] /\ H a = some (.dT kvs) /\ H b = some (.tup (k.map kV)) /\
  (∀ v,zz9 kvs k = some v->Q v H) /\ (zz9 kvs k = none->kvs.length < by0 /\ Q d (upd H a (.dT (putK kvs k d))))):=by
 intro pins s σ H x ys v us Q I rx rs h;refine za0 fun gG=>?_;obtain ⟨a,kvs,k,b,d,rfl,rfl,e,eb,q1,q2⟩:=h;obtain ⟨u,r,rfl,ru,rd⟩:=rs.two;refine gG ?_;clear gG;cases (show v = dy2 a from rx);cases (show u = dy2 b from ru);refine za0 fun gG=>?_;obtain ⟨z,hd,xs,rel,dd⟩:=zb56 I.hok e;refine gG ?_;clear gG;have hz : xs.length <= by0:=by rw [<- Paired.length rel]; exact z
 refine call_meetsIn PySem.F.slot_dict_setdefault dd.typeIs PySem.F.entry_dict_setdefault (PySem.F.args_dict_setdefault_3 _ _ _) (zq9 (tupleKind (zc5 X.prog X.w)) a b hd r) ⟨tupleKind_room_in1 hu,k,xs,za50 I.hok eb,dd,hz,fun p hp=>?_,fun hn h' dd' hs=>?_⟩
 ·have rv:=rel.val k;rw [hp] at rv;cases hv : zz9 kvs k with
  | none =>
   rw [hv] at rv;cases zF4.none_of rv
  | some v =>
   rw [hv] at rv;refine za0 fun gG=>?_;obtain ⟨w',hw,rw'⟩:=zF4.some_of rv;refine gG ?_;clear gG;cases hw;exact ⟨v,H,I.tok _,rw',q1 v hv⟩
 ·have hnv : zz9 kvs k = none:=by
   have rv:=rel.val k;rw [hn] at rv;cases hv : zz9 kvs k with
   | none=>rfl
   | some v =>
    rw [hv] at rv;refine za0 fun gG=>?_;obtain ⟨w',hw,_⟩:=zF4.some_of rv;refine gG ?_;clear gG;cases hw
  obtain ⟨hl,q⟩:=q2 hnv;have hl' : (putK kvs k d).length <= by0:=by have:=zn2 kvs k d; omega
  refine ⟨d,_,?_,rd,q⟩;refine za0 fun gG=>?_;obtain ⟨q',es,ep,hq,h2,h3,h4,_,h5⟩:=dd';refine gG ?_;clear gG;refine zM1 I (by rw [e]; exact uy7) hs ⟨q',hq⟩ ⟨hl',hd,_,(rel.put k eb rd).keeps fun c ys ec=>?_,q',es,ep,hq,h2,h3,h4,h5⟩;rw [za8 (zK8 ec e (fun z=>nomatch z))];exact ec
theorem zf29 (hu : X.A.units + 1 < cLine) : IxR X (fun x y H Q=>∃ a kvs k b v,x = .ref a /\ y = .ref b /\ H a = some (.dT kvs) /\ SqT X.K H b (k.map kV) /\ zz9 kvs k = some v /\ Q v H):=by
 intro value slice pins s σ H x y v u Q I rx ry h hs;refine za0 fun gG=>?_;obtain ⟨a,kvs,k,b,z,rfl,rfl,e,eb,hv,q⟩:=h;refine gG ?_;clear gG;cases (show v = dy2 a from rx);cases (show u = dy2 b from ry);refine za0 fun gG=>?_;obtain ⟨_,hd,xs,rel,dd⟩:=zb56 I.hok e;refine gG ?_;clear gG;obtain ⟨w',hw,rw'⟩:=zF4.some_of (v:=z) (o:=(atKey xs k).map (·.2)) (by rw [<- hv]; exact rel.val k);refine za0 fun gG=>?_;obtain ⟨p,hp,hp2⟩:=gy8.mp hw;refine gG ?_;clear gG;exact ty0 (x:=w') dd.typeIs PySem.F.slot_dict_getitem.lookup (wpAny_getItem_heap (Q:=fun r s'=>r = w' /\ EP X pins σ Q r s') (tupleKind_room_in1 hu) (zc46 I eb) dd hp ⟨hp2,z,H,I.tok _,hp2 ▸ rw',q⟩) hs
end
def zK5 : Key->PyData
 | .inl i=>.int i
 | .inr x=>.str x
abbrev tupK (ks : List Key) : PyData:=.tuple (ks.map zK5)
theorem zC1 {K : ay4} {F : Hp} : ∀ {ks : List Key} {vs : List V},Paired (fun d v=>Rq K F v d) (ks.map zK5) vs->vs = ks.map kV
 | [],_,.nil=>rfl
 | .inl i :: ks,_,.cons h t=>by rw [Rq.zd1 h,zC1 t]; rfl
 | .inr x :: ks,_,.cons h t=>by rw [Rq.zg9 h,zC1 t]; rfl
theorem zC2 {K : ay4} {F : Hp} : ∀ {ks : List Key},Paired (fun d v=>Rq K F v d) (ks.map zK5) (ks.map kV)
 | []=>.nil
 | .inl i :: ks=>.cons (Rq.int i) zC2
 | .inr x :: ks=>.cons (Rq.str x) zC2
theorem Rq.zc47 {K : ay4} {F : Hp} {ks : List Key} {v : V} (r : Rq K F v (tupK ks)) : ∃ b,v = .ref b /\ SqT K F b (ks.map kV):=by
 refine za0 fun gG=>?_;obtain ⟨b,vs,rfl,h,p⟩:=Rq.zh6 r;refine gG ?_;clear gG;cases zC1 p;exact ⟨b,rfl,h⟩
def zm6 (kvs : List (List Key × El)) (k : List Key) : Option El:=(kvs.find? fun kv=>decide (kv.1 = k)).map (·.2)
abbrev PKV (K : ay4) (F : Hp) (A : List Addr) : List (List Key × El)->List (List Key × V)->Prop:=Paired fun p q=>p.1 = q.1 /\ ElR K F A p.2 q.2
section
variable {K : ay4} {F : Hp} {A : List Addr}
theorem zC3 {k : List Key} {kvs : List (List Key × El)} {vs : List (List Key × V)} (p : PKV K F A kvs vs) : (zm6 kvs k = none /\ zz9 vs k = none) \/ ∃ e v,zm6 kvs k = some e /\ zz9 vs k = some v /\ ElR K F A e v:=by
 induction p with
 | nil=>exact .inl ⟨rfl,rfl⟩
 | @cons ax bv kvs vs hh t ih =>
  refine za0 fun gG=>?_;obtain ⟨a,e⟩:=ax;obtain ⟨b,v⟩:=bv;obtain ⟨hk,he⟩:=hh;have hk : a = b:=hk;subst hk;refine gG ?_;clear gG
  by_cases h : a = k
  ·refine .inr ⟨e,v,?_,?_,he⟩
   ·simp [zm6,h]
   ·exact zo8 h
  ·have e1 : zm6 ((a,e) :: kvs) k = zm6 kvs k:=by simp [zm6,h]
   rw [e1,zo9 (show ¬ (a,v).1 = k from h)];exact ih
theorem zb60 {kvs : List (List Key × El)} {vs : List (List Key × V)} (h : PKV K F A kvs vs) (k : List Key) {e : El} {v : V} (he : ElR K F A e v) : PKV K F A (kvs++[(k,e)]) (vs++[(k,v)]):=zo0 h (.cons ⟨rfl,he⟩ .nil)
end
section
variable {X : Bc} {S : Sl} {W : Wl} {k : KB}
theorem RW.atT {F : Hp} {A : List Addr} {H : Hp} (r : RW X.K F A W H) {j : Nat} {v : V} (z : ElR X.K F A (.o j) v) {kvs : List (List Key × El)} (hj : W[j]? = some (.dT kvs)) : ∃ a vs,v = .ref a /\ A[j]? = some a /\ H a = some (.dT vs) /\ PKV X.K F A kvs vs:=by
 refine za0 fun gG=>?_;obtain ⟨a,ha,rfl⟩:=z;obtain ⟨h,e,vs,rfl,p⟩:=r.obj j a _ ha hj;refine gG ?_;clear gG;exact ⟨a,vs,rfl,ha,e,p⟩
theorem zQ5 {e : Expr} (h : BE X S W e fun x W1=>∃ ks,x = .p ks /\ k (.d (tupK ks)) W1) : BE X S W e k :=
 .of zi7 fun F A σ H Q x0 r sr q=>h.use x0 r sr fun F1 A1 W1 H1 x vx e1 r1 z1 zR=>by
  refine za0 fun gG=>?_;obtain ⟨ks,hx,h1⟩:=zR;subst hx;obtain ⟨b,rfl,hb⟩:=z1;refine gG ?_;clear gG;exact (q.ext e1).same r1 (.dd (Rq.tup (SqT.of hb) (Rqs.of zC2))) h1
theorem zM2 {es : List Expr} {x1} {pos : Pos} (h : BA X S W es fun as W1=>∃ ks,as = zb6 (ks.map zK5) /\ ks.length <= by0 /\ k (.p ks) W1) : BE X S W (.Tuple es x1 pos) k :=
 .of (zc25 pa_U) fun F A σ H Q x0 r sr q=>h.use x0 r sr fun F1 A1 W1 H1 as vs e1 r1 z1 zR=>by
  refine za0 fun gG=>?_;obtain ⟨ks,hd,hl,h1⟩:=zR;subst hd;refine gG ?_;clear gG;cases zC1 (zj0 z1);refine ⟨by rw [ay5]; exact hl,fun p hp=>?_⟩;obtain ⟨r',x⟩:=r1.newF hp (.tup (ks.map kV));exact (q.ext e1) _ _ _ _ (.p ks) _ x r' ⟨p,rfl,zb3⟩ h1
theorem zC4 {pos : Pos} (h : k (.o W.length) (W++[.dT []])) : BE X S W (.Dict [] [] pos) k :=
 .of zb58 fun F A σ H Q x0 r sr q=>fun p hp=>q.newO r hp (o:=.dT []) ⟨[],rfl,.nil⟩ h
theorem zu1 {j : Nat} {kvs : List (List Key × El)} {ks : List Key} {y : El} (hu : X.A.units + 64 < cLine) (hj : W[j]? = some (.dT kvs)) (h : k ((zm6 kvs ks).getD y) W) : MB X "dict" "dict.get" (.o j) [.d (tupK ks),y] W k:=.of (zb59 (by omega)) fun F A H Q v vs r zx z q=>by
 refine za0 fun gG=>?_;obtain ⟨a,ws,rfl,ha,hH,p⟩:=r.atT zx hj;obtain ⟨u,u',rfl,zu,zu'⟩:=zs3 z;obtain ⟨b,rfl,hb⟩:=Rq.zc47 zu;refine gG ?_;clear gG;refine ⟨a,ws,ks,b,u',rfl,rfl,hH,r.sub.zt9 hb,?_⟩;rcases zC3 (k:=ks) p with ⟨e1,e2⟩ | ⟨e,v,e1,e2,he⟩
 ·rw [e1] at h;rw [e2];exact q.same r zu' h
 ·rw [e1] at h;rw [e2];exact q.same r he h
theorem zb61 {j : Nat} {kvs : List (List Key × El)} {ks : List Key} {e : El} (hu : X.A.units + 64 < cLine) (hj : W[j]? = some (.dT kvs)) (he : zm6 kvs ks = some e) (h : k e W) : IB X (.o j) (.d (tupK ks)) W k:=.of (zf29 (by omega)) fun F A H Q vx vy r zx zy q=>by
 refine za0 fun gG=>?_;obtain ⟨a,ws,rfl,ha,hH,p⟩:=r.atT zx hj;obtain ⟨b,rfl,hb⟩:=Rq.zc47 zy;refine gG ?_;clear gG;rcases zC3 (k:=ks) p with ⟨e1,e2⟩ | ⟨e',v,e1,e2,he'⟩
 ·rw [he] at e1;cases e1
 ·rw [he] at e1;cases e1;exact ⟨a,ws,ks,b,v,rfl,rfl,hH,r.sub.zt9 hb,e2,q.same r he' h⟩
theorem zV8 {j : Nat} {kvs : List (List Key × El)} {ks : List Key} {y : El} (hu : X.A.units + 64 < cLine) (hj : W[j]? = some (.dT kvs)) (h1 : ∀ e,zm6 kvs ks = some e->k e W) (h2 : zm6 kvs ks = none->kvs.length < by0 /\ k y (W.set j (.dT (kvs++[(ks,y)])))) :
  MB X "dict" "dict.setdefault" (.o j) [.p ks,y] W k:=.of (zV7 (by omega)) fun F A H Q v vs r zx z q=>by
 refine za0 fun gG=>?_;obtain ⟨a,ws,rfl,ha,hH,p⟩:=r.atT zx hj;obtain ⟨u,u',rfl,zu,zu'⟩:=zs3 z;obtain ⟨b,rfl,hb⟩:=zu;refine gG ?_;clear gG;refine ⟨a,ws,ks,b,u',rfl,rfl,hH,r.sub _ _ hb,fun v hv=>?_,fun hv=>?_⟩
 ·rcases zC3 (k:=ks) p with ⟨e1,e2⟩ | ⟨e,v',e1,e2,he⟩
  ·rw [hv] at e2;cases e2
  ·rw [hv] at e2;cases e2;exact q.same r he (h1 e e1)
 ·rcases zC3 (k:=ks) p with ⟨e1,e2⟩ | ⟨e,v',e1,e2,he⟩
  ·obtain ⟨hl,hk⟩:=h2 e1;refine ⟨by rw [<- zb2 p]; exact hl,?_⟩;rw [zb55 u' e2];exact q.put r ha (o:=.dT (kvs++[(ks,y)])) ⟨_,rfl,zb60 p ks zu'⟩ zu' hk
  ·rw [hv] at e2;cases e2
end
def tUGs (X : Bc) (es : List Expr) : TGs:=fun vs σ H Q=>∃ t,PGs X es t /\ t vs σ H Q
section
variable {X : Bc} {S : Sl} {W : Wl} {k : KB}
theorem ze31 {es : List Expr} : PGs X es (tUGs X es):=fun pins s σ H vs us Q I r zR=>by obtain ⟨t,h,q⟩:=zR; exact h pins s σ H vs us Q I r q
def BGs (X : Bc) (S : Sl) (W : Wl) (es : List Expr) (xs : List El) (k : Sl->Wl->Prop) : Prop:=∀ F A σ H vs (Q : St->Hp->Prop),X.Am F A->RW X.K F A W H->SR X.K F A S σ->Paired (ElR X.K F A) xs vs ->
 (∀ F' A' W' H' S' σ',Ext F A F' A'->RW X.K F' A' W' H'->SR X.K F' A' S' σ'->k S' W'->Q σ' H')->tUGs X es vs σ H Q
theorem zd00 {k : Sl->Wl->Prop} (h : k S W) : BGs X S W [] [] k:=fun F A σ H vs Q x0 r sr z q=>by
 cases z;exact ⟨gNil,za00,rfl,q F A W H S σ .refl r sr h⟩
theorem zQ6 {t : Expr} {ts : List Expr} {e : El} {xs : List El} {k : Sl->Wl->Prop} (h : BG X S W t e fun S' W'=>BGs X S' W' ts xs k)
  (hs : (ly7 (t :: ts) X.env).map (·.2) = assign t X.env :: (ly7 ts X.env).map (·.2):=by rfl) : BGs X S W (t :: ts) (e :: xs) k:=fun F A σ H vs Q x0 r sr z q=>by
 cases z with
 | @cons _ v _ vs z zs =>
  exact ⟨zU2 (tUG X t) (tUGs X ts),zP3 pg_U ze31 hs,v,vs,rfl,h F A σ H v _ x0 r sr z fun F' A' W' H' S' σ' e1 r' sr' h' =>
   h' F' A' σ' H' vs Q (x0.trans e1) r' sr' (zg1 (fun _ _ y=>y.ext e1) zs) fun F2 A2 W2 H2 S2 σ2 e2 r2 sr2 h2=>q F2 A2 W2 H2 S2 σ2 (e1.trans e2) r2 sr2 h2⟩
theorem zd01 {es : List Expr} {c : Nat} {pos : Pos} {ds : List PyData} {k : Sl->Wl->Prop} (hc : X.calm = true) (h : BGs X S W es (zb6 ds) k)
  (hn : (ly7 es X.env).length = ds.length:=by rfl) (hst : (ly7 es X.env).findIdx? (·.1) = none:=by rfl) : BG X S W (.Tuple es c pos) (.d (.tuple ds)) k :=
 fun F A σ H v Q x0 r sr z q=>by
  refine za0 fun gG=>?_;obtain ⟨a,vs,rfl,hs,p⟩:=Rq.zh6 z;refine gG ?_;clear gG;exact ⟨_,za01 hc ze31 hn hst,a,vs,rfl,r.sub.zt9 hs,(zb2 p).symm,h F A σ H vs Q x0 r sr (zi2 p) q⟩
end
section
variable {prog : cy6} {w : World} {A : Around} {E : Value->Shared->Prop} {s : Shared}
theorem zV9 {it t : Addr} {i : Nat} {xs : Array Value} {x : Value} {Q : Value->Shared->Prop} (st : s.heap.IsTupleIter it t i) (tp : s.heap.IsTuple t xs) (hx : xs[i]? = some x)
  (q : ∀ g,g.IsTupleIter it t (i + 1)->fy0 it s.heap g->Q x { s with heap:=g }) : wpAny (model prog w) A (py7 (.ref it)) Q E s:=by
 have ty:=st.typeIs;refine za0 fun gG=>?_;obtain ⟨oi,gi,ci,di⟩:=st;obtain ⟨ot,gt,ct,nt,dt⟩:=tp;refine gG ?_;clear gG;unfold Builtin.SmallTypes.nextOf;refine ay0 (ey5 (name:=ly9 "__next__") ty my3 (dy6 my3 ty PySem.F.entry_tuple_iterator_next ?_ (PySem.F.args_tuple_iterator_next_1 _)));show wpAny _ _ (field (.ref it) 0 >>= _) _ _ s;refine ay0 (jy3 gi di (x:=.ref t) rfl ?_);show wpAny _ _ (if (dy2 t == ey1) = true then _ else _) _ _ s;rw [if_neg (show ¬ ((dy2 t == ey1) = true) by simp)];show wpAny _ _ (field (.ref it) 1 >>= _) _ _ s;refine ay0 (jy3 gi di (x:=.int i 0) rfl ?_);show wpAny _ _ (seqItems? (.ref t) >>= _) _ _ s;refine ay0 (sy7 gt dt ?_);simp only [ky0,hx]
 exact ay0 (jy9 gi di (by simp) (ay1 ⟨x,rfl,ay1 (q _ ⟨_,fy6 _ gi (ny0 (hy1 di _)),(uy8 ..).trans ci,by
  rw [hy1 di]; simp [rawInt]⟩ (hy4 ..))⟩))
theorem zW0 {e it t : Addr} {i : Nat} {xs : Array Value} {x old : Value} {Q : Option Value->Shared->Prop} (he : IsEnum s.heap e it i old) (st : s.heap.IsTupleIter it t i) (tp : s.heap.IsTuple t xs) (hx : xs[i]? = some x) (hne : e ≠ it)
  (q : ∀ g,IsEnumOut g e it ((i : Int) + 1) x s.heap.objs.size->g.IsTupleIter it t (i + 1)->g.get? s.heap.objs.size = some { cls:=.type "tuple",data:=.seq #[.int i s.toks,x] } ->
   (∀ b o,b ≠ e->b ≠ it->s.heap.get? b = some o->g.get? b = some o)->Q (some (.ref s.heap.objs.size)) { s with heap:=g,toks:=s.toks + 1 }) : wpAny (model prog w) A (pyNext (.ref e)) Q E s:=by
 refine za0 fun gG=>?_;obtain ⟨hp,gn,dw,tk,os⟩:=s;refine gG ?_;clear gG;have ty : Shared.TypeIs ⟨hp,gn,dw,tk,os⟩ (.ref e) "enumerate" := ⟨_,he,rfl⟩
 have hel : e < hp.objs.size:=by6 he;unfold pyNext;refine ay0 (py3 (ey5 (name:=ly9 "__next__") ty oy8 (dy6 oy8 ty PySem.F.entry_enumerate_next ?_ (PySem.F.args_enumerate_next_1 _))));show wpAny _ _ (field (.ref e) 2 >>= _) _ _ _;refine ay0 (jy3 he rfl (x:=.ref it) rfl (ay0 (zV9 st tp hx fun g1 st1 sb1=>?_)));have sb1 : fy0 it hp g1:=sb1;have e1 : IsEnum g1 e it i old:=(sb1.2 e hne).trans he;show wpAny _ _ (field (.ref e) 3 >>= _) _ _ ⟨g1,gn,dw,tk,os⟩;refine ay0 (jy3 e1 rfl (x:=rawInt i) rfl ?_);show wpAny _ _ (field (.ref e) 4 >>= _) _ _ ⟨g1,gn,dw,tk,os⟩;refine ay0 (jy3 e1 rfl (x:=.none) rfl ?_);show wpAny _ _ (mkInt i >>= _) _ _ ⟨g1,gn,dw,tk,os⟩;refine ay0 (wpAny_mkInt ?_);show wpAny _ _ (ty5 (.ref e) 3 (rawInt ((i : Int) + 1)) >>= _) _ _ ⟨g1,gn,dw,tk + 1,os⟩;refine ay0 (iy7 e1 (by simp) fun g2 (e2 : IsEnum g2 e it ((i : Int) + 1) old) (sb2 : fy0 e g1 g2)=>?_);show wpAny _ _ (ty5 (.ref e) 4 .none >>= _) _ _ ⟨g2,gn,dw,tk + 1,os⟩;refine ay0 (iy7 e2 (by simp) fun g3 (e3 : IsEnum g3 e it ((i : Int) + 1) old) (sb3 : fy0 e g2 g3)=>?_);show wpAny _ _ (newTuple [.int i tk,x] >>= _) _ _ ⟨g3,gn,dw,tk + 1,os⟩;refine ay0 (wpAny_newTuple ?_);have z3 : g3.objs.size = hp.objs.size:=by rw [sb3.1,sb2.1,sb1.1]
 let tO : Obj:={ cls:=.type "tuple",data:=.seq #[.int i tk,x] }
 have e4 : IsEnum (g3.push tO) e it ((i : Int) + 1) old:=ay2 _ e3;have t4 : (g3.push tO).get? hp.objs.size = some tO:=by rw [<- z3]; exact ay7 _ rfl
 have k4 : ∀ b o,b ≠ e->b ≠ it->hp.get? b = some o->(g3.push tO).get? b = some o:=fun b o be bi hb=>ay2 _ ((sb3.2 b be).trans ((sb2.2 b be).trans ((sb1.2 b bi).trans hb)))
 have s4 : (g3.push tO).IsTupleIter it t (i + 1):=by
  refine za0 fun gG=>?_;obtain ⟨o,g,r⟩:=st1;refine gG ?_;clear gG;exact ⟨o,ay2 _ ((sb3.2 it (fy4 hne)).trans ((sb2.2 it (fy4 hne)).trans g)),r⟩
 show wpAny _ _ (wy0 (.ref e) >>= _) _ _ ⟨g3.push tO,gn,dw,tk + 1,os⟩;rw [z3];generalize g3.push tO = g4 at e4 t4 k4 s4;have ft : ∀ {g g' : Heap},fy0 e g g'->∀ b o,b ≠ e->g.get? b = some o->g'.get? b = some o:=fun sb b o be hb=>(sb.2 b be).trans hb;refine ay0 ?_;unfold Builtin.SmallTypes.ownedTupleIsFree;refine ay0 (jy3 e4 rfl (x:=.none) rfl (ay1 ?_));simp only [if_true];refine ay0 (ny4 (ay0 (jy3 e4 rfl (x:=old) rfl (ay0 (iy7 e4 (by simp) fun g5 (e5 : IsEnum g5 e it ((i : Int) + 1) x) (sb5 : fy0 e g4 g5)=>?_)))));show wpAny _ _ (vy4 (.ref e) (.ref hp.objs.size) >>= _) _ _ ⟨g5,gn,dw,tk + 1,os⟩;refine ay0 ?_;unfold Builtin.SmallTypes.ownedTupleHandOut;refine ay0 (iy7 e5 (by simp) fun g6 (e6 : IsEnumOut g6 e it ((i : Int) + 1) x hp.objs.size) (sb6 : fy0 e g5 g6)=>?_);refine iy7 e6 (by simp) fun g7 (e7 : IsEnumOut g7 e it ((i : Int) + 1) x hp.objs.size) (sb7 : fy0 e g6 g7)=>?_;have all : ∀ b o,b ≠ e->g4.get? b = some o->g7.get? b = some o:=fun b o be hb=>ft sb7 b o be (ft sb6 b o be (ft sb5 b o be hb));refine ay0 (wpAny_letGo (ay1 ⟨_,rfl,ay1 (q g7 e7 ?_ (all _ _ (oy3 hel) t4) fun b o be bi hb=>all b o be (k4 b o be bi hb))⟩));refine za0 fun gG=>?_;obtain ⟨o,g,r⟩:=s4;refine gG ?_;clear gG;exact ⟨o,all it o (fy4 hne) g,r⟩
theorem zC5 {it t : Addr} {i : Nat} {xs : Array Value} {Q : Value->Shared->Prop} (hh : A.handled = none) (st : s.heap.IsTupleIter it t i) (tp : s.heap.IsTuple t xs) (hx : xs[i]? = none)
  (q : ∀ g x,Heap.ExtBut it s.heap g->(∃ o,g.get? x = some o /\ o.cls = .type "StopIteration")->E (.ref x) { s with heap:=g }) : wpAny (model prog w) A (py7 (.ref it)) Q E s:=by
 have ty:=st.typeIs;refine za0 fun gG=>?_;obtain ⟨oi,gi,ci,di⟩:=st;obtain ⟨ot,gt,ct,nt,dt⟩:=tp;refine gG ?_;clear gG;unfold Builtin.SmallTypes.nextOf;refine ay0 (ey5 (name:=ly9 "__next__") ty my3 (dy6 my3 ty PySem.F.entry_tuple_iterator_next ?_ (PySem.F.args_tuple_iterator_next_1 _)));show wpAny _ _ (field (.ref it) 0 >>= _) _ _ s;refine ay0 (jy3 gi di (x:=.ref t) rfl ?_);show wpAny _ _ (if (dy2 t == ey1) = true then _ else _) _ _ s;rw [if_neg (show ¬ ((dy2 t == ey1) = true) by simp)];show wpAny _ _ (field (.ref it) 1 >>= _) _ _ s;refine ay0 (jy3 gi di (x:=.int i 0) rfl ?_);show wpAny _ _ (seqItems? (.ref t) >>= _) _ _ s;refine ay0 (sy7 gt dt ?_);simp only [ky0,hx];refine ay0 (ny4 (ay0 (jy9 gi di (by simp) ?_)));show wpAny _ _ (newExc (.type "StopIteration") [] >>= _) _ _ _;refine ay0 ?_;simp only [newExc,newTuple];refine ay0 (ey3 (ay0 (m:=firstArgMember _ _) (wpAny_of_eq (a:=ey1) (by first | rfl | (simp only [firstArgMember]; rfl)) (ey3 ?_ (by size_fits)))) (by size_fits));simp only [raiseNew];refine ay0 (wpAny_handled ?_)
 first | rw [show A.in1.handled = none from hh] | rw [hh]
 exact ay0 (ay1 (wpAny_throw (q _ _ (((hy4 ..).extBut.push _).push _) ⟨_,ay7 _ rfl,rfl⟩)))
theorem za52 {e it t : Addr} {i : Nat} {xs : Array Value} {old : Value} {Q : Option Value->Shared->Prop} (hh : A.handled = none) (he : IsEnum s.heap e it i old) (st : s.heap.IsTupleIter it t i) (tp : s.heap.IsTuple t xs) (hx : xs[i]? = none)
  (q : ∀ g,Heap.ExtBut it s.heap g->Q none { s with heap:=g }) : wpAny (model prog w) A (pyNext (.ref e)) Q E s:=by
 have ty : s.TypeIs (.ref e) "enumerate" := ⟨_,he,rfl⟩
 unfold pyNext;refine ay0 (py3 (ey5 (name:=ly9 "__next__") ty oy8 (dy6 oy8 ty PySem.F.entry_enumerate_next ?_ (PySem.F.args_enumerate_next_1 _))));show wpAny _ _ (field (.ref e) 2 >>= _) _ _ _;refine ay0 (jy3 he rfl (x:=.ref it) rfl (ay0 (zC5 hh st tp hx fun g x eb ⟨o,ho,hc⟩=>?_)));exact ay0 (py0 (T := "StopIteration") (b:=true) ⟨o,ho,hc⟩ isSubtype_stop (ay1 (q _ eb)))
end
open AutoSeq1 (wpAny_loadPart') in
theorem zM3 (t : Addr) (o : Obj) (xs : Array Value) (n : Nat) (hc : o.cls = .type "tuple") (hd : o.data = .seq xs n) :
  Meets (qy4.«enumerate.__new__» ⟨[.type "enumerate",.ref t],[]⟩) (fun _ R s=>s.heap.get? t = some o /\
   R (.ok (.ret (.ref (s.heap.push { cls:=.type "tuple_iterator",data:=.fields #[.ref t,.int 0 0] }).objs.size)))
    { s with heap:=(s.heap.push { cls:=.type "tuple_iterator",data:=.fields #[.ref t,.int 0 0] }).push { cls:=.type "enumerate",data:=.fields #[.none,.bool false,.ref s.heap.objs.size,rawInt 0,.none,.none] } }) :=
 .of_wp fun prog w A R s h=>by
  refine za0 fun gG=>?_;obtain ⟨hp,g,d,tk,os⟩:=s;obtain ⟨ht,h⟩:=h;refine gG ?_;clear gG;have hsub:=sub_enumerate;have tp : Heap.IsTuple (Shared.heap ⟨hp,g,d,tk,os⟩) t xs:=⟨o,ht,hc,n,hd⟩
  wp_walk using qy2 ht
  refine wpAny_stack_any fun st=>ay1 ?_
  split
  ·rename_i c _ _ _ _ _
   cases (c == sy3 "enumerate")
   ·wp_walk using qy2 ht,wpAny_pyIter_tuple tp
    exact ⟨_,rfl,h⟩
   ·wp_walk using qy2 ht,wpAny_pyIter_tuple tp
    exact ⟨_,rfl,h⟩
  ·wp_walk using qy2 ht,wpAny_pyIter_tuple tp
   exact ⟨_,rfl,h⟩
section
end
section
variable {prog : cy6} {w : World} {A : Around} {E : Value->Shared->Prop} {s : Shared}
abbrev itO (t : Addr) : Obj:={ cls:=.type "tuple_iterator",data:=.fields #[.ref t,.int 0 0] }
abbrev enO (it : Addr) : Obj:={ cls:=.type "enumerate",data:=.fields #[.none,.bool false,.ref it,rawInt 0,.none,.none] }
theorem zW1 {t : Addr} {xs : Array Value} {Q : Value->Shared->Prop} (tp : s.heap.IsTuple t xs)
  (h : IsEnum ((s.heap.push (itO t)).push (enO s.heap.objs.size)) (s.heap.objs.size + 1) s.heap.objs.size 0 .none->Q (.ref (s.heap.objs.size + 1)) { s with heap:=(s.heap.push (itO t)).push (enO s.heap.objs.size) }) :
  wpAny (model prog w) A (call (.type "enumerate") [.ref t]) Q E s:=by
 refine za0 fun gG=>?_;obtain ⟨o,ht,hc,n,hd⟩:=tp;refine gG ?_;clear gG;have z : (s.heap.push (itO t)).objs.size = s.heap.objs.size + 1:=sy4 ..;have made:=ay7 (s.heap.push (itO t)) (o:=enO s.heap.objs.size) rfl;rw [z] at made;refine callType_new PySem.F.called_enumerate (by decide) (PySem.F.typeCall_enumerate_1 _) (PySem.F.newCall_enumerate_1 _) (fun obj=>PySem.F.args_object_init_2 obj _) PySem.F.entry_enumerate_new (zM3 t o xs n hc hd) ⟨ht,?_⟩;show _ /\ _;rw [z];exact ⟨⟨_,made,rfl⟩,h made⟩
end
def Ite (K : ay4) (a : Addr) : It :=
 ⟨fun i H=>∃ xs x,SqT K H a xs /\ xs[i]? = some x,fun i H y H'=>∃ p x,y = .ref p /\ H p = none /\ H' = upd H p (.tup [.int i,x]) /\ ∀ xs,SqT K H a xs->xs[i]? = some x,fun i H=>∃ xs,SqT K H a xs /\ xs.length <= i⟩
theorem zW2 {P : cy6} {w : World} {K : ay4} {elts : List Expr} {c : Nat} {tp : Pos} (a e it : Addr) (hne : e ≠ it) :
  Turn P w K (.Tuple elts c tp) (Ite K a) [e,it] e (fun i h=>(∃ old,IsEnum h e it i old) /\ h.IsTupleIter it a i) where
 mem:=by simp
 obj:=fun i h ⟨⟨old,he⟩,o,g,_,d⟩ b hb=>by
  rcases by8.mp hb with rfl | hb
  ·exact ⟨_,he,fun v z=>by cases z⟩
  ·cases fy1.mp hb;exact ⟨o,g,fun v z=>by rw [d] at z; cases z⟩
 keep:=fun i h h' ⟨⟨old,he⟩,o,g,r⟩ k=>⟨⟨old,k e (by simp) _ he⟩,o,k it (by simp) o g,r⟩
 item:=by
  intro X hP hw hK hc i pins s σ H E I hf ⟨⟨old,he⟩,st⟩ hg;subst hP hw hK;refine za0 fun gG=>?_;obtain ⟨xs,x,hq,hx⟩:=hg;obtain ⟨its,rv,p,hz⟩:=I.tuple hq;obtain ⟨u,hu,ru⟩:=rv.get hx;refine gG ?_;clear gG;have fe:=hf e (by simp);have fi:=hf it (by simp);have nn : H s.heap.objs.size = none:=I.hok.fresh (ay6 _);refine zW0 he st (show s.heap.IsTuple a its.toArray from p) (x:=u) (by simpa using hu) hne fun g eo st' t' kp=>?_;refine ⟨_,rfl,wpAny_letOwnedTupleGo_enum eo fun g2 e2 sb=>?_⟩;have sb : fy0 e g g2:=sb;have hel : s.heap.objs.size ≠ e:=oy3 (by6 he);have k2 : ∀ b o,b ≠ e->b ≠ it->s.heap.get? b = some o->g2.get? b = some o:=fun b o be bi hb=>(sb.2 b be).trans (kp b o be bi hb);have tracked : ∀ b u,H b = some u->b ≠ e /\ b ≠ it:=fun b u hb=>⟨za6 hb fe.1,za6 hb fi.1⟩
  have t2 : g2.get? s.heap.objs.size = some { cls:=.type "tuple",data:=.seq #[.int i s.toks,u] }:=(sb.2 _ hel).trans t'
  have st2 : g2.IsTupleIter it a (i + 1):=by
   refine za0 fun gG=>?_;obtain ⟨o,go,r⟩:=st';refine gG ?_;clear gG;exact ⟨o,(sb.2 it (fy4 hne)).trans go,r⟩
  refine ⟨.ref s.heap.objs.size,upd H s.heap.objs.size (.tup [.int i,x]),I.zb28 (ch:=[e,it]) rfl ⟨fun b o q n hb hx=>?_,fun b o q n hb hx=>?_,fun b o q n hx=>?_,fun b o q hx=>?_,fun b ys q=>?_,fun b o v q=>?_,fun b ps q=>?_⟩ (fun b v q=>?_) I.bare (fun b hb=>?_),rfl,⟨_,x,rfl,nn,rfl,fun ys hy=>by rw [I.zF7 hy hq]; exact hx⟩,⟨⟨u,e2⟩,st2⟩,fun b hb=>?_⟩
  ·exact k2 b o (fun z=>hx (by simp [z])) (fun z=>hx (by simp [z])) q
  ·exact ⟨o.slots,k2 b o (fun z=>hx (by simp [z])) (fun z=>hx (by simp [z])) q⟩
  ·rw [za8 (cy1 (by6 q))];exact n
  ·exact ⟨o,k2 b o (fun z=>hx (by simp [z])) (fun z=>hx (by simp [z])) q⟩
  ·rw [za8 (za6 q nn)]; exact q
  ·rw [za8 (za6 q nn)]; exact q
  ·exact ⟨#[],by rw [za8 (za6 q nn),Array.append_empty]; exact q⟩
  ·by_cases hb : b = s.heap.objs.size
   ·subst hb;rw [zb3] at q;cases q;exact ⟨by show 2 <= by0; decide,[.int i s.toks,u],.cons ⟨_,rfl⟩ (.cons ru .nil),_,t2,rfl,_,rfl⟩
   ·rw [za8 hb] at q;refine (I.hok b v q).zU0 (fun c w' hc z=>?_) (fun c z=>by rw [za8 (za6 z nn)]; exact z) fun c ys z=>by rw [za8 (za6 z nn)]; exact z
    rcases hc with rfl | hc
    ·exact k2 c w' (tracked c v q).1 (tracked c v q).2 z
    ·exact k2 c w' (tracked c _ hc).1 (tracked c _ hc).2 z
  ·rcases by8.mp hb with rfl | hb
   ·exact ⟨fe.2.2.2.1,fe.2.1,fe.2.2.2.2⟩
   ·cases fy1.mp hb;exact ⟨fi.2.2.2.1,fi.2.1,fi.2.2.2.2⟩
  ·have hb1:=(hf b hb).1
   have : b ≠ s.heap.objs.size:=by
    rcases by8.mp hb with rfl | hb
    ·exact fy4 hel
    ·cases fy1.mp hb;refine za0 fun gG=>?_;obtain ⟨o,go,_⟩:=st;refine gG ?_;clear gG;exact cy1 (by6 go)
   rw [za8 this];exact hb1
 done:=by
  intro X hP hw hK hc i pins s σ H E I hf ⟨⟨old,he⟩,st⟩ hg;subst hP hw hK;refine za0 fun gG=>?_;obtain ⟨xs,hq,hx⟩:=hg;obtain ⟨its,rv,p,hz⟩:=I.tuple hq;obtain ⟨f0,f1,f2,f3,f4,f5⟩:=hf it (by simp);refine gG ?_;clear gG;have hl:=rv.length;exact za52 (I.ok.hd hc) he st (show s.heap.IsTuple a its.toArray from p) (by simp; omega) fun g eb=>⟨rfl,I.turned (t':=s.toks) (fun b o hb e=>eb b o hb e) f0 f1 f3 f4 f5⟩
 self:=fun _ _ _ _ _ ⟨⟨old,he⟩,_⟩ h=>wpAny_pyIter_enum he h
section
variable {X : Cx}
def ze32 (K : ay4) (ta : TA) : TI:=fun σ H R=>ta σ H fun vs H1=>∃ a xs,vs = [.ref a] /\ SqT K H1 a xs /\ R (Ite K a) H1
theorem zb62 {elts : List Expr} {c : Nat} {tp : Pos} {a : Expr} {ta : TA} {p pos : Pos} (hg : Gl X "enumerate") (hm : X.mg "enumerate" = none) (ha : PA X [a] ta) (hs : ey8 [a] X.env = [(false,eval a X.env)]:=by rfl) : PI X (.Tuple elts c tp) (.Call (.Name "enumerate" p) [a] [] pos) (ze32 X.K ta):=by
 intro pins s σ H R I h;refine Call_ (zF6 I hg hm boot_enumerate (ty8 (thn (ha pos pins s σ H _ I h) fun us s1 ⟨vs,H1,I1,r1,q1⟩=>?_) hs rfl));refine za0 fun gG=>?_;obtain ⟨b,xs,rfl,hq,q⟩:=q1;refine gG ?_;clear gG;cases r1 with
 | cons r rr =>
  cases rr;cases r;refine za0 fun gG=>?_;obtain ⟨its,rv,tp,hz⟩:=I1.tuple hq;refine gG ?_;clear gG;refine zW1 (show s1.heap.IsTuple b its.toArray from tp) fun he=>?_;refine wpAny_pyIter_enum he ?_;have kp : ∀ c o,s1.heap.get? c = some o->((s1.heap.push (itO b)).push (enO s1.heap.objs.size)).get? c = some o:=fun c o z=>ay2 _ (ay2 _ z);refine ⟨s1.heap.objs.size + 1,[s1.heap.objs.size + 1,s1.heap.objs.size],_,_,H1,rfl,I1.kept (t':=s1.toks) kp,zW2 b _ _ (Nat.succ_ne_self _),⟨⟨.none,he⟩,_,ay2 _ (ay7 _ rfl),rfl,rfl⟩,fun c hc=>?_,q⟩
  have hc : s1.heap.objs.size <= c:=by
   rcases by8.mp hc with z | z
   ·rw [z]; exact Nat.le_succ _
   ·rw [fy1.mp z]; exact ay6 _
  exact I1.fpOk hc (I1.hok.fresh hc)
end
section
variable {X : Bc} {n : Nat} {S : Sl} {W : Wl} {D : DB}
theorem za53 {elts : List Expr} {c : Nat} {tp : Pos} {a : Expr} {p ipos : Pos} {body : List Stmt} {pos : Pos} (hp : PassesOwn (model X.prog X.w) X.A X.env X.xe) (hc : X.calm = true) (hg : Gl X "enumerate") (hm : X.mg "enumerate" = none)
  (h : BA X S W [a] fun as W1=>∃ (ds : List PyData) (mb : Nat) (P : Nat->Sl->Wl->Prop),as = [.d (.tuple ds)] /\ n <= mb /\ mb <= W1.length /\ P 0 S W1 /\
   (∀ i d S' W',ds[i]? = some d->P i S' W'->BG X S' W' (.Tuple elts c tp) (.d (.tuple [.int i,d])) fun S2 W2=>BSs X mb S2 W2 body (zc90 D (P (i + 1)))) /\ ∀ S' W',P ds.length S' W'->D.nx S' W')
  (hst : ey8 [a] X.env = [(false,eval a X.env)]:=by rfl)
  (hs : ∀ x,ey2 (.Call (.Name "enumerate" p) [a] [] ipos) X.env x = pure x:=by intro _; rfl) : BS X n S W (.For (.Tuple elts c tp) (.Call (.Name "enumerate" p) [a] [] ipos) body [] pos) D :=
 .of (zc23 hp hc (zb62 hg hm pa_U hst) pg_U zV1 hs) fun F A σ H E hn x0 r sr q=>h.use x0.am r sr fun F1 A1 W1 H1 as vs e1 r1 z1 zR=>by
  refine za0 fun gG=>?_;obtain ⟨ds,mb,P,hd,hnm,hmb,p0,hstep,hdone⟩:=zR;subst hd;obtain ⟨v,rfl,zv⟩:=zi3 z1;obtain ⟨b,ws,rfl,hv,z⟩:=Rq.zh6 zv;refine gG ?_;clear gG;have hl : ∀ {F' A' W' H'},Ex1 mb F1 A1 F' A'->RW X.K F' A' W' H'->SqT X.K H' b ws:=fun x r'=>r'.sub.zt9 (x.same.zt9 hv);have hmA : mb <= A1.length:=by rw [r1.len]; exact hmb
  refine ⟨b,ws,rfl,r1.sub.zt9 hv,fun i μ σ' H'=>μ = ds.length - i /\ i <= ds.length /\ ∃ F' A' S' W',Ex1 mb F1 A1 F' A' /\ RW X.K F' A' W' H' /\ SR X.K F' A' S' σ' /\ P i S' W',⟨ds.length,by simp,dy7 _,F1,A1,S,W1,.refl hmA,r1,sr.ext e1,p0⟩,?_⟩;intro i μ σ' H' gX;refine za0 fun gG=>?_;obtain ⟨rfl,hi,F',A',S',W',x,r',sr',pp⟩:=gX;refine gG ?_;clear gG;have hwl : ds.length = ws.length:=zb2 z
  by_cases hlt : i < ds.length
  ·refine .inr ⟨⟨ws,ws[i],hl x r',by simp⟩,fun σ2 H2=>∃ F2 A2 S2 W2,Ex1 mb F1 A1 F2 A2 /\ RW X.K F2 A2 W2 H2 /\ SR X.K F2 A2 S2 σ2 /\ P (i + 1) S2 W2,fun σ2 H2 p2=>⟨ds.length - (i + 1),by omega,rfl,hlt,p2⟩,fun v H'' hy=>?_⟩;refine za0 fun gG=>?_;obtain ⟨t,y,rfl,hn',rfl,hget⟩:=hy;obtain ⟨d,hd',zd⟩:=zf3 z (hget ws (hl x r'));obtain ⟨r2,e2⟩:=r'.newF hn' (.tup [.int i,y]);refine gG ?_;clear gG;have zt : ElR X.K (upd F' t (.tup [.int i,y])) A' (.d (.tuple [.int i,d])) (.ref t):=.dd (Rq.tup (SqT.of zb3) (.cons (Rq.int i) (.cons (Rq.same e2.same _ (Rq.same x.same _ zd)) .nil)));have x2 : Ex1 mb F1 A1 (upd F' t (.tup [.int i,y])) A':=x.trans hmA (e2.ex1 x.len);refine hstep i d S' W' hd' pp _ A' σ' _ _ _ ((x0.ext e1).up hnm |>.ex1 hmA x2).am r2 (sr'.ext e2) zt fun F3 A3 W3 H3 S3 σ3 x3 r3 sr3 h3=>?_;have x13 : Ex1 mb F1 A1 F3 A3:=x2.trans hmA (x3.ex1 x2.len);have q2:=q.ext hn ((e1.ex1 hn).trans hn (x13.le hnm));exact h3.use x13.len (((x0.ext e1).up hnm).ex1 hmA x13) r3 sr3 ⟨fun F4 A4 W4 H4 S4 σ4 x4 r4 sr4 h4=>⟨F4,A4,S4,W4,x13.trans hmA x4,r4,sr4,h4⟩,fun F4 A4 W4 H4 S4 σ4 x4=>q2.nx F4 A4 W4 H4 S4 σ4 (x4.le hnm),fun F4 A4 W4 H4 S4 σ4 x4 r4 sr4 h4=>⟨F4,A4,S4,W4,x13.trans hmA x4,r4,sr4,h4⟩,fun F4 A4 W4 H4 e v x4=>q2.rt F4 A4 W4 H4 e v (x4.le hnm)⟩
  ·have hie : i = ds.length:=by omega
   subst hie;exact .inl ⟨⟨ws,hl x r',by omega⟩,(q.ext hn (e1.ex1 hn)).nx F' A' W' H' S' σ' (x.le hnm) r' sr' (hdone S' W' pp)⟩
end
end L2
namespace L2
open PySem PySem.Spec PyProof.Rows PySem.SeqAt PySem.MeetsSeq
section
variable {X : Bc} {S : Sl} {W : Wl} {k : KB}
theorem zQ7 {α β : Type} {F : α->β->Prop} : ∀ {l : List α} {m : List β} (i : Nat),Paired F l m->Paired F (l.eraseIdx i) (m.eraseIdx i)
 | _,_,_,.nil=>.nil
 | _,_,0,.cons _ t=>t
 | _,_,i + 1,.cons r t=>.cons r (zQ7 i t)
end
end L2
namespace L2
open PySem PySem.Spec PyProof.Rows
theorem zd02 : ∀ {ns : List Int} {us : List Value},Vals (ns.map V.int) us->∃ l : List (Int × Tok),us = l.map (fun p=>Value.int p.1 p.2) /\ l.map (·.1) = ns:=by
 intro ns
 induction ns with
 | nil=>intro us r; rw [List.map_nil] at r; cases r; exact ⟨[],rfl,rfl⟩
 | cons b bs ih =>
  intro us r;rw [ey6] at r;cases r with
  | cons r1 r2 =>
   refine za0 fun gG=>?_;obtain ⟨t,rfl⟩:=r1;obtain ⟨l,rfl,e⟩:=ih r2;refine gG ?_;clear gG;exact ⟨(b,t) :: l,rfl,by rw [ey6,e]⟩
section
variable {X : Cx}
theorem zb63 (hc : X.calm = true) : zj8 X (.builtin "sum") (fun xs H Q=>∃ (p : Addr) (ns : List Int),xs = [.ref p] /\ SqL X.K H p (ns.map V.int) /\ Q (.int ns.sum) H):=by
 intro pins s σ H xs us Q I r h;refine za0 fun gG=>?_;obtain ⟨p,ns,rfl,hq,q⟩:=h;refine gG ?_;clear gG;cases r with
 | cons r rr =>
  cases rr;cases r;refine za0 fun gG=>?_;obtain ⟨its,rv,pl,hz⟩:=I.list hq;obtain ⟨l,rfl,e⟩:=zd02 rv;refine gG ?_;clear gG;refine sum_intListG (xs:=l.toArray) (I.ok.hd hc) ?_ fun h' tk t' hk=>?_
  ·have:=pl.isList;simpa [intItems] using this
  ·have e2 : preSum (numAt l.toArray) l.toArray.size = ns.sum:=by
    rw [preSum_eq,hy7 (by simp),<- e]
   rw [e2];exact ⟨.int ns.sum,H,I.kept hk,⟨_,rfl⟩,q⟩
end
section
variable {X : Bc} {W : Wl} {k : KB}
theorem ze33 {x : El} {ns : List Int} (hc : X.calm = true) (hx : lstD W x (ns.map .int)) (h : k (.d (.int ns.sum)) W) : CB X (.builtin "sum") [x] W k:=.of (zb63 hc) fun F A H Q vs r zs q=>by
 refine za0 fun gG=>?_;obtain ⟨v,rfl,z⟩:=zi3 zs;obtain ⟨a,vs,rfl,hs,z⟩:=r.lst z hx;refine gG ?_;clear gG;obtain rfl:=za35 z;exact ⟨a,ns,rfl,.inl hs,q.same r (.dd (Rq.int _)) h⟩
end
theorem zb64 {vs : List Value} {ss : List Str} (h : StrsAre vs ss) : Vals (ss.map V.str) vs:=by
 induction h with
 | nil=>exact .nil
 | cons y t h ih=>exact .cons ⟨t,rfl⟩ ih
section
variable {X : Cx}
end
section
variable {X : Bc} {W : Wl} {k : KB}
end
def leS (a b : Str) : Prop:=¬ b.cps.toList < a.cps.toList
theorem zH7 {a b c : Str} (h1 : leS a b) (h2 : leS b c) : leS a c:=by
 unfold leS at *
 exact fun h=>by
  have h3 : a.cps.toList <= b.cps.toList:=wy9.mp h1;have h4 : b.cps.toList <= c.cps.toList:=wy9.mp h2;exact wy9.mpr (List.le_trans h3 h4) h
theorem zQ8 {a b : Str} (h1 : leS a b) (h2 : leS b a) : a = b:=by
 have h3 : a.cps.toList <= b.cps.toList:=wy9.mp h1;have h4 : b.cps.toList <= a.cps.toList:=wy9.mp h2;have e:=List.le_antisymm h3 h4;cases a; cases b;simp at e;simp [e]
theorem zH8 : ∀ (l : List Str) (p : Str),risingS p l = true->(p :: l).Pairwise leS
 | [],p,_=>by simp
 | x :: l,p,h=>by
  simp only [risingS,my0,Bool.not_eq_true'] at h;have ih:=zH8 l x h.2
  have hpx : leS p x:=by
   have:=h.1;rw [ltCps_eq] at this;exact of_decide_eq_false this
  refine List.Pairwise.cons (fun y hy=>?_) ih;rcases by8.mp hy with rfl | hy
  ·exact hpx
  ·exact zH7 hpx ((List.pairwise_cons.mp ih).1 y hy)
theorem zH9 {l : List Str} (h : sortedS l = true) : l.Pairwise leS:=by
 cases l with
 | nil=>simp
 | cons x l=>exact zH8 l x h
theorem zW3 {a b : List Str} (h : a.Perm b) (ha : sortedS a = true) (hb : sortedS b = true) : a = b :=
 List.Perm.eq_of_pairwise (fun _ _ _ _ h1 h2=>zQ8 h1 h2) (zH9 ha) (zH9 hb) h
def leSb (a b : Str) : Bool:=!ltCps b.cps.toList a.cps.toList
theorem zp0 {a b : Str} : leSb a b = true ↔ leS a b:=by
 unfold leSb leS;rw [ltCps_eq];simp
def zb65 (l : List Str) : List Str:=l.mergeSort leSb
theorem zA0 (l : List Str) : (zb65 l).Perm l:=List.mergeSort_perm l leSb
theorem zb66 (l : List Str) : sortedS (zb65 l) = true:=by
 refine sortedS_of_pairwise _ ?_
 have h:=List.pairwise_mergeSort (le:=leSb) (fun a b c h1 h2=>zp0.mpr (zH7 (zp0.mp h1) (zp0.mp h2))) (fun a b=>by
  rw [Bool.or_eq_true,zp0,zp0];unfold leS;rcases Classical.em (b.cps.toList < a.cps.toList) with h | h
  ·exact .inr (wy9.mpr (List.le_of_lt h))
  ·exact .inl h) l
 exact h.imp fun {a b} h=>by unfold leSb at h; simpa using h
theorem zI0 {a l : List Str} (h : a.Perm l) (ha : sortedS a = true) : a = zb65 l:=zW3 (h.trans (zA0 l).symm) ha (zb66 l)
def zu3 (P : cy6) (w : World) (h : Heap) (a : Addr) (ks : List Str) : Prop :=
 ∃ o es ep t,h.get? a = some o /\ o.ExactSet /\ o.data = .set es ep t /\ ElemsOf (hy3 P w) es.toList /\ es.size < scanBound /\ t.fits es.size = true /\ (es.size ≠ 0->t.plain = false) /\
  (es.toList.map fun e=>strOf e.2).Perm ks /\ ks.Nodup
theorem zI1 {t : SetTable} {es : Array (Int × Value)} {h : Int} {x : Value} (e : (layNew t es h x).2.1.plain = true) : t.plain = true:=by
 unfold layNew at e
 split at e
 ·simp only [SetTable.orStandIn] at e
  split at e
  ·exact e
  ·simp [SetTable.standIn] at e
 ·simp [SetTable.standIn] at e
theorem zW4 {m f mv : Nat} {l p : Bool} {hs : Array Int} {t' : SetTable} {o : Array Nat} (e : SetTable.laid m f mv l p hs = some (t',o)) : t'.plain = p:=by
 unfold SetTable.laid at e;cases q : SetTable.layClean m hs with
 | none=>rw [q] at e; simp at e
 | some ow =>
  rw [q] at e;simp at e;rw [<- e.1]
theorem zM4 {t : SetTable} {es : Array (Int × Value)} {n : Nat} (e : (relayAll t es n).2.1.plain = true) : t.plain = true:=by
 unfold relayAll at e
 split at e
 ·rename_i t' o q
  simp only at e
  split at e
  ·simp only at e;rw [zW4 q] at e;exact e
  ·simp [SetTable.standIn] at e
 ·simp [SetTable.standIn] at e
section
variable {P : cy6} {w : World} {A : Around} {E : Value->Shared->Prop} {s : Shared}
theorem za54 {es : List (Int × Value)} (h : ElemsOf (hy3 P w) es) {e : Int × Value} (he : e∈es) (k : Str) : (hy3 P w).is k e.2 = true ↔ strOf e.2 = k:=by
 refine za0 fun gG=>?_;obtain ⟨⟨k',hk,_⟩,_⟩:=h e he;obtain ⟨t,q⟩:=vy8 hk;refine gG ?_;clear gG;rw [q];constructor
 ·intro z;obtain ⟨t',q'⟩:=vy8 (x:=k) (show Value.isStrOf k (.str k' t) = true from z);cases q';rfl
 ·intro z;cases z;exact PySem.strKind_is P w _ t
theorem zQ9 {h : Heap} {a : Addr} {o : Obj} {es es' : Array (Int × Value)} {ep : Nat} {t t' : SetTable} {ks : List Str} (c1 : h.get? a = some o) (c2 : o.ExactSet) (c3 : o.data = .set es ep t)
  (c4 : ElemsOf (hy3 P w) es'.toList) (c5 : es'.size < scanBound) (c6 : t'.fits es'.size = true) (c7 : t'.plain = false) (c8 : (es'.toList.map fun e=>strOf e.2).Perm ks) (c9 : ks.Nodup) :
  zu3 P w (h.update a (Obj.putSet es' t')) a ks /\ (h.update a (Obj.putSet es' t')).get? a = some { o with data:=.set es' (ep + 1) t' }:=by
 have c:=(SetOf_store (knd:=hy3 P w) (S':=fun k=>es'.toList.any fun e=>(hy3 P w).is k e.2) c1 c2 c3 c4 (fun k=>by rw [vy7]) c5 c6).1;exact ⟨⟨_,es',ep + 1,t',c,c2,rfl,c4,c5,c6,fun _=>c7,c8,c9⟩,c⟩
theorem zb67 {a : Addr} {ks : List Str} {k : Str} {tk : Tok} {Q : Bool->Shared->Prop} (hS : zu3 P w s.heap a ks) (hr : ks.length + 1 < scanBound)
  (h : ∀ b h',fy0 a s.heap h'->zu3 P w h' a (if k∈ks then ks else ks++[k])->Q b { s with heap:=h' }) :
  wpAny (model P w) A (setAddHashed a (.str k tk) ((hy3 P w).hash k)) Q E s:=by
 refine za0 fun gG=>?_;obtain ⟨o,es,ep,t,g1,g2,g3,g4,g5,g6,g7,g8,g9⟩:=hS;refine gG ?_;clear gG;have hn : es.size = ks.length:=by have:=g8.length_eq; simpa using this
 have hk : (hy3 P w).is k (.str k tk) = true:=PySem.strKind_is P w k tk;have hsc : (Value.str k tk).scannable = true:=rfl
 have mem : k∈ks ↔ ∃ e∈es.toList,(hy3 P w).is k e.2 = true:=by
  rw [<- g8.mem_iff,cy4];exact ⟨fun zR=>by obtain ⟨e,he,q⟩:=zR; exact ⟨e,he,(za54 g4 he k).mpr q⟩,fun zR=>by obtain ⟨e,he,q⟩:=zR; exact ⟨e,he,(za54 g4 he k).mp q⟩⟩
 unfold setAddHashed setAddHashedIn;refine fy3 (ay0 (wpAny_setState_of g1 g3 g6 ?_));dsimp only;rw [byScan_of hsc g5 g4,if_pos rfl];unfold setAddByScan;refine ay0 (ay0 (ny4 (ay0 (wpAny_setScan_of hk g1 g3 g6 g4 ?_))));cases hf : es.toList.findIdx? (fun e=>(hy3 P w).is k e.2) with
 | some j =>
  refine za0 fun gG=>?_;obtain ⟨hj,hp,_⟩:=List.findIdx?_eq_some_iff_getElem.mp hf;refine gG ?_;clear gG;have hm : k∈ks:=mem.mpr ⟨es.toList[j],ry9 hj,hp⟩;dsimp only;refine ay1 (ay1 ?_);exact h _ s.heap (Heap.SameBut.refl a s.heap) (by rw [if_pos hm]; exact ⟨o,es,ep,t,g1,g2,g3,g4,g5,g6,g7,g8,g9⟩)
 | none =>
  have hm : k ∉ ks:=fun z=>by
   refine za0 fun gG=>?_;obtain ⟨e,he,q⟩:=mem.mp z;refine gG ?_;clear gG;have:=List.findIdx?_eq_none_iff.mp hf e he;rw [q] at this;cases this
  rw [if_neg hm] at h;dsimp only
  have give : ∀ (b : Bool) {s1 : Shared} {R : Unit->Shared->Prop},R () s1->wpAny (model P w) A (match b with | true=>rule "set.scan.the-table-gave-way" | false=>pure ()) R E s1:=fun b s1 R q=>by
   cases b
   ·exact ay1 q
   ·exact ny4 q
  have lp:=layNew_perm t es ((hy3 P w).hash k) (.str k tk);have lf:=layNew_fits t es ((hy3 P w).hash k) (.str k tk);have lq:=@zI1 t es ((hy3 P w).hash k) (.str k tk);generalize layNew t es ((hy3 P w).hash k) (.str k tk) = L at lp lf lq ⊢;refine za0 fun gG=>?_;obtain ⟨e1,t1,was,gave⟩:=L;refine gG ?_;clear gG;dsimp only at lp lf lq ⊢;rw [Array.toList_push] at lp;have d4 : ElemsOf (hy3 P w) e1.toList:=(g4.push hk hsc).perm lp
  have dl : e1.size = ks.length + 1:=by
   have:=lp.length_eq;simp at this;omega
  have d5 : e1.size < scanBound:=by omega
  have d8 : (e1.toList.map fun e=>strOf e.2).Perm (ks++[k]):=by
   refine (lp.map _).trans ?_;rw [gy2];exact g8.append (xy0 _)
  have d9 : (ks++[k]).Nodup:=zw6 g9 hm;refine ay0 (give _ ?_)
  have go : ∀ t2 : SetTable,t2.fits e1.size = true->t2.plain = false->wpAny (model P w) A (do
    storeSet a e1 t2
    if (!was && t2.tooFull) = true then do
      (match (relayAll t2 e1 (sy8 e1.size)).2.2 with | true=>rule "set.scan.the-table-gave-way" | false=>pure ())
      storeSet a (relayAll t2 e1 (sy8 e1.size)).1 (relayAll t2 e1 (sy8 e1.size)).2.1
      pure (some true)
     else pure (some true)) (fun r s'=>wpAny (model P w) A (match r with | some added=>pure added | none=>setAddHashedIn a (.str k tk) ((hy3 P w).hash k) 99999) Q E s') E s:=by
   intro t2 f2 p2;obtain ⟨S2,gg⟩:=zQ9 (P:=P) (w:=w) (es':=e1) (t':=t2) g1 g2 g3 d4 d5 f2 p2 d8 d9;have sb:=hy4 s.heap a (Obj.putSet e1 t2);refine ay0 (wpAny_storeSet_of g1 g3 ?_ (fits_of_scanBound d5))
   split
   ·have rp:=relayAll_perm t2 e1 (sy8 e1.size);have rf:=relayAll_fits t2 e1 (sy8 e1.size);have rq:=@zM4 t2 e1 (sy8 e1.size);generalize relayAll t2 e1 (sy8 e1.size) = R at rp rf rq ⊢;refine za0 fun gG=>?_;obtain ⟨e2,t3,g⟩:=R;refine gG ?_;clear gG;dsimp only at rp rf rq ⊢;have z : e2.size = e1.size:=by have:=rp.length_eq; simpa using this
    have p3 : t3.plain = false:=by
     cases q : t3.plain with
     | false=>rfl
     | true=>rw [rq q] at p2; cases p2
    refine ay0 (give _ (ay0 (wpAny_storeSet_of gg rfl ?_ (fits_of_scanBound (by rw [z]; exact d5)))));obtain ⟨S3,_⟩:=zQ9 (P:=P) (w:=w) (es':=e2) (t':=t3) (ks:=ks++[k]) gg g2 rfl (d4.perm rp) (by rw [z]; exact d5) rf p3 ((rp.map _).trans d8) d9;exact ay1 (ay1 (h _ _ (sb.trans (hy4 _ a _)) S3))
   ·exact ay1 (ay1 (h _ _ sb S2))
  by_cases hp : t1.plain = true
  ·rw [if_pos hp,hashByValue_scannable 8 hsc];refine ay0 (ay1 ?_);exact go { t1 with plain:=false } (SetTable.fits_plain_off lf) rfl
  ·rw [if_neg hp];refine ay0 (ay1 ?_);exact go t1 lf (by simpa using hp)
end
def zw7 (ks : List Str) (k : Str) : List Str:=if k∈ks then ks else ks++[k]
def zf1 (xs : List Str) : List Str:=xs.foldl zw7 []
theorem za55 (ks : List Str) (k : Str) : (zw7 ks k).length <= ks.length + 1:=by unfold zw7; split <;> simp
theorem zI2 : ∀ (xs ks : List Str),(xs.foldl zw7 ks).length <= ks.length + xs.length
 | [],_=>by simp
 | x :: xs,ks=>by
  have a:=zI2 xs (zw7 ks x);have b:=za55 ks x;simp only [List.foldl_cons,hy8];omega
theorem za56 (xs : List Str) : (zf1 xs).length <= xs.length:=by have:=zI2 xs []; simpa [zf1] using this
theorem zI3 (z : Str) : ∀ (xs ks : List Str),z∈xs.foldl zw7 ks ↔ z∈ks \/ z∈xs
 | [],_=>by simp
 | x :: xs,ks=>by
  rw [List.foldl_cons,zI3 z xs];unfold zw7
  split
  ·rename_i h
   constructor
   ·rintro (a | a)
    ·exact .inl a
    ·exact .inr (.tail _ a)
   ·rintro (a | a)
    ·exact .inl a
    ·rcases by8.mp a with rfl | a
     ·exact .inl h
     ·exact .inr a
  ·simp [or_assoc]
theorem zh0 {z : Str} {xs : List Str} : z∈zf1 xs ↔ z∈xs:=by rw [zf1,zI3]; simp
theorem zR0 : ∀ (xs ks : List Str),ks.Nodup->(xs.foldl zw7 ks).Nodup
 | [],_,h=>h
 | x :: xs,ks,h=>by
  rw [List.foldl_cons];refine zR0 xs _ ?_;unfold zw7
  split
  ·exact h
  ·rename_i q; exact zw6 h q
theorem zC6 (xs : List Str) : (zf1 xs).Nodup:=zR0 xs [] List.nodup_nil
theorem zW5 (xs : List Str) (x : Str) : zf1 (xs++[x]) = zw7 (zf1 xs) x:=by simp [zf1]
section
variable {P : cy6} {w : World} {A : Around} {R : Result->Shared->Prop} {I : Addr} {fp wr : List Addr} {G : Array GenState->Array GenState->Prop} {St : Nat->Shared->Prop} {xs : List Str}
theorem zu3.move {h h' : Heap} {a : Addr} {ks : List Str} (x : zu3 P w h a ks) (k : ∀ o,h.get? a = some o->h'.get? a = some o) : zu3 P w h' a ks:=by
 refine za0 fun gG=>?_;obtain ⟨o,es,ep,t,g1,r⟩:=x;refine gG ?_;clear gG;exact ⟨o,es,ep,t,k o g1,r⟩
end
section
variable {α : Type}
theorem zr0 : ∀ {l : List α} {i : Nat} (h : i < l.length),(l[i] :: l.eraseIdx i).Perm l
 | x :: l,0,h=>xy0 _
 | x :: l,i + 1,h=>by
  have a:=zr0 (l:=l) (i:=i) (by simpa using h);rw [List.eraseIdx_cons_succ];exact (List.Perm.swap x _ _).trans (a.cons x)
theorem za57 (f : Nat->Nat) : ∀ (n k : Nat) (left : List α) (out : Array α),left.length = n->(pickOrder.go f n k left out).toList.Perm (out.toList++left)
 | 0,k,left,out,e=>by
  have : left = []:=sy0 e;subst this;simp [pickOrder.go]
 | n + 1,k,left,out,e=>by
  unfold pickOrder.go;have hlt : f k % left.length < left.length:=Nat.mod_lt _ (by omega);rw [cy0 hlt];dsimp only;refine (za57 f n (k + 1) _ _ (by rw [List.length_eraseIdx_of_lt hlt]; omega)).trans ?_;rw [Array.toList_push,ky2];refine (xy0 out.toList).append ?_;exact (zr0 hlt)
theorem zw8 (f : Nat->Nat) (xs : Array α) : (pickOrder f xs).toList.Perm xs.toList:=by
 have:=za57 f xs.size 0 xs.toList #[] (by simp);simpa [pickOrder] using this
end
section
variable {P : cy6} {w : World} {A : Around} {E : Value->Shared->Prop} {s : Shared} {α : Type}
theorem zW6 {M : Model} {src : Source} {n : Nat} {Q : Nat->Shared->Prop} (hn : n ≠ 0) (h : ∀ i d,i < n->Q i { s with drawn:=d }) : wpAny M A (choose src n) Q E s :=
 fun Γ p _=>⟨hn,h _ _ (Nat.mod_lt _ (Nat.pos_of_ne_zero hn))⟩
theorem zp1 {M : Model} : ∀ (n : Nat) (xs : List α) (s : Shared) (Q : List α->Shared->Prop),xs.length = n->(∀ ys d,ys.Perm xs->Q ys { s with drawn:=d })->wpAny M A (drawOrder n xs) Q E s
 | 0,xs,s,Q,e,h=>by
  have : xs = []:=sy0 e;subst this;exact ay1 (h [] s.drawn (xy0 _))
 | n + 1,[],s,Q,e,h=>by simp at e
 | n + 1,x :: xs,s,Q,e,h=>by
  unfold drawOrder;refine ay0 (zW6 (by simp) fun i d hi=>?_);rw [cy0 hi];dsimp only;refine ay0 (zp1 n _ _ _ (by rw [List.length_eraseIdx_of_lt hi]; simp at e ⊢; omega) fun ys d' hp=>ay1 ?_);exact h _ d' ((hp.cons _).trans (zr0 hi))
end
theorem slot_set_iter : Slot "set" "__iter__" "set.__iter__" :=
 .of (owner := "set") (n := "__iter__") (by rw [typeLookup_type,uy3]; kernel_rfl) (by decide +kernel) (by decide +kernel) (by decide +kernel) (by first | exact .inl (by decide +kernel) | exact .inr (by decide +kernel)) (by rw [isSubtype_type]; kernel_rfl)
theorem zy4 : entryFor table "set.__iter__" = some qy4.«frozenset.__iter__»:=entryFor_alias (id' := "frozenset.__iter__") (by kernel_rfl) rfl (by decide +kernel) (by kernel_rfl)
theorem zC7 (a : Value) : argsOk "set.__iter__" ⟨[a],[]⟩:=by unfold argsOk; kernel_rfl
theorem ze2 : Slot "set_iterator" "__next__" "set_iterator.__next__" :=
 .of (owner := "set_iterator") (n := "__next__") (by rw [typeLookup_type,uy3]; kernel_rfl) (by decide +kernel) (by decide +kernel) (by decide +kernel) (by first | exact .inl (by decide +kernel) | exact .inr (by decide +kernel)) (by rw [isSubtype_type]; kernel_rfl)
theorem zt1 : entryFor table "set_iterator.__next__" = some qy4.«set_iterator.__next__»:=entryFor_of_tree (by kernel_rfl)
theorem zw9 (a : Value) : argsOk "set_iterator.__next__" ⟨[a],[]⟩:=by unfold argsOk; kernel_rfl
theorem zl7 : Slot "set_iterator" "__iter__" "set_iterator.__iter__" :=
 .of (owner := "set_iterator") (n := "__iter__") (by rw [typeLookup_type,uy3]; kernel_rfl) (by decide +kernel) (by decide +kernel) (by decide +kernel) (by first | exact .inl (by decide +kernel) | exact .inr (by decide +kernel)) (by rw [isSubtype_type]; kernel_rfl)
theorem zI4 : typeLookup (.type "set") "__len__" = pure (some (.builtin "set.__len__")):=by rw [typeLookup_type,uy3]; kernel_rfl
abbrev zn4 (n : Nat) : Value:=.int n 0
def zi4 (it a : Addr) (first : Value) (i n ep : Nat) (h : Heap) : Prop:=∃ o,h.get? it = some o /\ o.cls = .type "set_iterator" /\ o.data = .fields #[first,.int i 0,.ref a,.int n 0,.int ep 0]
def setAt (h : Heap) (a : Addr) (es : Array (Int × Value)) (ep : Nat) (t : SetTable) : Prop:=∃ o,h.get? a = some o /\ o.ExactSet /\ o.data = .set es ep t /\ t.fits es.size = true
section
variable {P : cy6} {w : World} {A : Around} {E : Value->Shared->Prop} {s : Shared} {it a tp : Addr} {es : Array (Int × Value)} {ep n i : Nat} {t : SetTable}
theorem zR1 {h : Heap} {o : Obj} {first : Value} (c1 : h.get? it = some o) (c2 : o.cls = .type "set_iterator") (c3 : o.data = .fields #[first,.int i 0,.ref a,.int n 0,.int ep 0]) :
  zi4 it a first (i + 1) n ep (h.update it (uy9 fun vs=>vs.setIfInBounds 1 (rawInt (i + 1)))):=by
 refine ⟨_,fy6 _ c1 (ny0 (hy1 c3 _)),(uy8 ..).trans c2,?_⟩;rw [hy1 c3];simp [rawInt]
theorem zj4 {Q : (Array (Int × Value) × Nat × SetTable)->Shared->Prop} {b : Obj} (b1 : s.heap.get? a = some b) (b3 : b.data = .set es ep t) (b4 : t.fits es.size = true) (h : Q (es,ep,t) s) : wpAny (model P w) A (setState a) Q E s:=wpAny_setState_of b1 b3 b4 h
theorem zf6 {Q : Option Value->Shared->Prop} {first : Value} {o b : Obj} (c1 : s.heap.get? it = some o) (c2 : o.cls = .type "set_iterator") (c3 : o.data = .fields #[first,.int i 0,.ref a,.int n 0,.int ep 0])
  (b1 : s.heap.get? a = some b) (b3 : b.data = .set es ep t) (b4 : t.fits es.size = true) (hn : es.size = n)
  (h : wpAny (model P w) A.in1 (if let .int slot _:=first then (do
    match <- setNext a slot.toNat i ep with
    | some (x,next) =>
     ty5 (.ref it) 0 (rawInt next)
     ty5 (.ref it) 1 (rawInt (i + 1))
     ret x
    | none=>ty5 (.ref it) 2 .none; raiseNew (<- newExc (.type "StopIteration") []))
   else do
    let some places <- seqItems? first | unsupported "internal:set_iterator"
    match places[i]? with
    | some (.int place _) =>
     let x <- setNextDrawn a place.toNat ep
     ty5 (.ref it) 1 (rawInt (i + 1))
     ret x
    | some _=>unsupported "internal:set_iterator"
    | none=>ty5 (.ref it) 0 (rawInt 0); ty5 (.ref it) 2 .none; raiseNew (<- newExc (.type "StopIteration") []))
   (fun f s'=>∃ v,f = .done (.ret v) /\ Q (some v) s') (fun e s'=>s'.TypeIs e "StopIteration" /\ Q none s') s) : wpAny (model P w) A (pyNext (.ref it)) Q E s:=by
 have hT : s.TypeIs (.ref it) "set_iterator" := ⟨o,c1,c2⟩
 unfold pyNext;refine ay0 (py3 (ey5 (name:=ly9 "__next__") hT ze2 (dy6 ze2 hT zt1 ?_ (zw9 _))));unfold Builtin.«set_iterator.__next__»;refine ay0 (ay1 ?_);refine ay0 (sy9 c1 c3 ?_);dsimp only;refine ay0 (wpAny_setEntries_of b1 b3 b4 ?_);rw [if_neg (by rw [hn]; simp)];refine fy2 h ?_ ?_
 ·intro f s' gX;refine za0 fun gG=>?_;obtain ⟨v,rfl,q⟩:=gX;refine gG ?_;clear gG;exact ⟨v,rfl,ay1 q⟩
 ·rintro e s' ⟨ht,q⟩;refine ay0 (py0 ht isSubtype_stop ?_);exact ay1 q
theorem zk3 {α : Type} {R : α->Shared->Prop} {E' : Value->Shared->Prop} (hh : A.handled = none) (h : ∀ h' e,(∀ b o,s.heap.get? b = some o->h'.get? b = some o)->Shared.TypeIs { s with heap:=h' } e "StopIteration" -> E' e { s with heap:=h' }) :
  wpAny (model P w) A (newExc (.type "StopIteration") [] >>= fun e=>(raiseNew e : Sem α)) R E' s:=by
 refine ay0 ?_;simp only [newExc,newTuple];refine ay0 (ey3 ?_ (by size_fits));refine ay0 (m:=firstArgMember _ _) (wpAny_of_eq (a:=ey1) (by first | rfl | (simp only [firstArgMember]; rfl)) ?_);refine ey3 ?_ (by size_fits);refine wpAny_raiseNew_none hh (h _ _ (fun b o q=>ay2 _ (ay2 _ q)) ⟨_,ay7 _ rfl,rfl⟩)
theorem zy5 {Q : Option Value->Shared->Prop} {ps : List Nat} {p : Nat} {hx : Int} {v : Value} (hi : zi4 it a (.ref tp) i n ep s.heap) (hs : setAt s.heap a es ep t) (hn : es.size = n) (ht : s.heap.IsTuple tp (ps.map zn4).toArray) (hp : ps[i]? = some p) (hv : es[p]? = some (hx,v))
  (hQ : ∀ h',zi4 it a (.ref tp) (i + 1) n ep h'->fy0 it s.heap h'->Q (some v) { s with heap:=h' }) : wpAny (model P w) A (pyNext (.ref it)) Q E s:=by
 refine za0 fun gG=>?_;obtain ⟨o,c1,c2,c3⟩:=hi;obtain ⟨b,b1,b2,b3,b4⟩:=hs;obtain ⟨ot,t1,t2,nt,t3⟩:=ht;refine gG ?_;clear gG;refine zf6 c1 c2 c3 b1 b3 b4 hn ?_;dsimp only;refine ay0 (sy7 t1 t3 ?_);have e : ((ps.map zn4).toArray)[i]? = some (zn4 p):=by simp [hp]
 dsimp only;rw [e];dsimp only;refine ay0 ?_;unfold setNextDrawn;refine ay0 (zj4 b1 b3 b4 ?_);dsimp only;rw [if_neg (by simp),ky0,hv];refine ay1 (ay0 (jy9 c1 c3 (by simp) (ay1 ⟨v,rfl,hQ _ (zR1 c1 c2 c3) (hy4 ..)⟩)))
theorem zC8 {Q : Option Value->Shared->Prop} {ps : List Nat} (hh : A.handled = none) (hi : zi4 it a (.ref tp) i n ep s.heap) (hs : setAt s.heap a es ep t) (hn : es.size = n) (ht : s.heap.IsTuple tp (ps.map zn4).toArray) (hp : ps[i]? = none)
  (hQ : ∀ h',(∀ b o,b ≠ it->s.heap.get? b = some o->h'.get? b = some o)->Q none { s with heap:=h' }) : wpAny (model P w) A (pyNext (.ref it)) Q E s:=by
 refine za0 fun gG=>?_;obtain ⟨o,c1,c2,c3⟩:=hi;obtain ⟨b,b1,b2,b3,b4⟩:=hs;obtain ⟨ot,t1,t2,nt,t3⟩:=ht;refine gG ?_;clear gG;refine zf6 c1 c2 c3 b1 b3 b4 hn ?_;dsimp only;refine ay0 (sy7 t1 t3 ?_);have e : ((ps.map zn4).toArray)[i]? = none:=by simp at hp ⊢; exact hp
 dsimp only;rw [e];dsimp only;refine ay0 (jy9 c1 c3 (by simp) ?_);have u1:=fy6 (uy9 fun vs=>vs.setIfInBounds 0 (rawInt 0)) c1 (ny0 (hy1 c3 _));refine ay0 (jy9 u1 (hy1 c3 _) (by simp) ?_);refine zk3 hh fun h' e k ty=>⟨ty,hQ h' fun b' o' hb q=>k _ _ ?_⟩
 exact (dy8 _ _ (fy4 hb)).trans ((dy8 _ _ (fy4 hb)).trans q)
abbrev zr1 (w : World) : Bool:=w.params.followText "set-order"
theorem zk4 {Q : Bool->Shared->Prop} (h : Q (zr1 w) s) : wpAny (model P w) A setsByText Q E s:=by
 unfold setsByText;exact ay0 (wpAny_askSetting (ay1 h))
abbrev zx0 (w : World) (a : Addr) (ep : Nat) (es : Array (Int × Value)) : Array (Int × Value):=pickOrder (w.params.setOrder a ep) es
theorem zI5 {Q : Array (Int × Value)->Shared->Prop} (hb : zr1 w = true) (hs : setAt s.heap a es ep t) (h : Q (zx0 w a ep es) s) : wpAny (model P w) A (setWalk a) Q E s:=by
 refine za0 fun gG=>?_;obtain ⟨b,b1,b2,b3,b4⟩:=hs;refine gG ?_;clear gG;unfold setWalk;refine ay0 (zj4 b1 b3 b4 (ay0 (zk4 ?_)));rw [hb];exact ay0 (wpAny_askSetting (ay1 h))
theorem zC9 {Q : Option Value->Shared->Prop} {hx : Int} {v : Value} (hb : zr1 w = true) (hi : zi4 it a (.int 0 0) i n ep s.heap) (hs : setAt s.heap a es ep t) (hn : es.size = n) (hv : (zx0 w a ep es)[i]? = some (hx,v))
  (hQ : ∀ h',zi4 it a (.int 0 0) (i + 1) n ep h'->fy0 it s.heap h'->Q (some v) { s with heap:=h' }) : wpAny (model P w) A (pyNext (.ref it)) Q E s:=by
 have hs0:=hs;refine za0 fun gG=>?_;obtain ⟨o,c1,c2,c3⟩:=hi;obtain ⟨b,b1,b2,b3,b4⟩:=hs;refine gG ?_;clear gG;refine zf6 c1 c2 c3 b1 b3 b4 hn ?_;dsimp only;refine ay0 ?_;unfold setNext;refine ay0 (zj4 b1 b3 b4 (ay0 (zk4 ?_)));rw [hb,if_pos rfl];dsimp only;rw [if_neg (by simp)];refine ay0 (zI5 hb hs0 (ay1 ?_));rw [hv];dsimp only [Option.map];refine ay0 (jy9 c1 c3 (by simp) ?_);have u1:=fy6 (uy9 fun vs=>vs.setIfInBounds 0 (rawInt ((0 : Int).toNat : Nat))) c1 (ny0 (hy1 c3 _));have u3:=hy1 c3 (fun vs=>vs.setIfInBounds 0 (rawInt ((0 : Int).toNat : Nat)));refine ay0 (jy9 u1 u3 (by simp) (ay1 ⟨v,rfl,hQ _ (zR1 u1 ((uy8 ..).trans c2) (by rw [u3]; simp [rawInt])) ((hy4 ..).trans (hy4 ..))⟩))
theorem zI6 {Q : Option Value->Shared->Prop} {o : Obj} {first : Value} (hh : A.handled = none) (c1 : s.heap.get? it = some o) (c3 : o.data = .fields #[first,.int i 0,.ref a,.int n 0,.int ep 0])
  (hQ : ∀ h',(∀ b o,b ≠ it->s.heap.get? b = some o->h'.get? b = some o)->Q none { s with heap:=h' }) {R : PySem.Fin->Shared->Prop} :
  wpAny (model P w) A.in1 (do ty5 (.ref it) 2 .none; raiseNew (<- newExc (.type "StopIteration") [])) R (fun e s'=>s'.TypeIs e "StopIteration" /\ Q none s') s:=by
 refine ay0 (jy9 c1 c3 (by simp) ?_);refine zk3 hh fun h' e k ty=>⟨ty,hQ h' fun b' o' hb q=>k _ _ ?_⟩
 exact (dy8 _ _ (fy4 hb)).trans q
theorem zI7 {Q : Option Value->Shared->Prop} (hh : A.handled = none) (hb : zr1 w = true) (hi : zi4 it a (.int 0 0) i n ep s.heap) (hs : setAt s.heap a es ep t) (hn : es.size = n) (hv : (zx0 w a ep es)[i]? = none)
  (hQ : ∀ h',(∀ b o,b ≠ it->s.heap.get? b = some o->h'.get? b = some o)->Q none { s with heap:=h' }) : wpAny (model P w) A (pyNext (.ref it)) Q E s:=by
 have hs0:=hs;refine za0 fun gG=>?_;obtain ⟨o,c1,c2,c3⟩:=hi;obtain ⟨b,b1,b2,b3,b4⟩:=hs;refine gG ?_;clear gG;refine zf6 c1 c2 c3 b1 b3 b4 hn ?_;dsimp only;refine ay0 ?_;unfold setNext;refine ay0 (zj4 b1 b3 b4 (ay0 (zk4 ?_)));rw [hb,if_pos rfl];dsimp only;rw [if_neg (by simp)];refine ay0 (zI5 hb hs0 (ay1 ?_));rw [hv];exact zI6 hh c1 c3 hQ
theorem zI8 {Q : Option Value->Shared->Prop} (hh : A.handled = none) (hb : zr1 w = false) (hi : zi4 it a (.int 0 0) i 0 ep s.heap) (hs : setAt s.heap a #[] ep t)
  (hQ : ∀ h',(∀ b o,b ≠ it->s.heap.get? b = some o->h'.get? b = some o)->Q none { s with heap:=h' }) : wpAny (model P w) A (pyNext (.ref it)) Q E s:=by
 refine za0 fun gG=>?_;obtain ⟨o,c1,c2,c3⟩:=hi;obtain ⟨b,b1,b2,b3,b4⟩:=hs;refine gG ?_;clear gG;refine zf6 c1 c2 c3 b1 b3 b4 rfl ?_;dsimp only;refine ay0 ?_;unfold setNext;refine ay0 (zj4 b1 b3 b4 (ay0 (zk4 ?_)));rw [hb,if_neg (by decide)];dsimp only;refine qy5 (fun z=>absurd (show (!t.plain && decide ((#[] : Array (Int × Value)).size > 1)) = true from z) (by simp)) fun _=>?_;refine ay0 (qy5 (fun z=>absurd (show (!t.led && !(#[] : Array (Int × Value)).isEmpty) = true from z) (by simp)) fun _=>ay1 (ay1 ?_));exact zI6 hh c1 c3 hQ
theorem zb68 {Q : Value->Shared->Prop} (hs : setAt s.heap a es ep t) (hz : es.size <= by0)
  (hD : zr1 w = false->t.plain = false->1 < es.size->∀ (ps : List Nat) (d : Drawn) (h' : Heap) (tp : Addr),ps.Perm (iy3 es.size)->(∀ b o,s.heap.get? b = some o->h'.get? b = some o)->s.heap.objs.size <= tp->tp < h'.objs.size->h'.IsTuple tp (ps.map zn4).toArray ->
   Q (.ref h'.objs.size) { s with heap:=h'.push { cls:=.type "set_iterator",data:=.fields #[.ref tp,.int (0 : Nat) 0,.ref a,.int es.size 0,.int ep 0] },drawn:=d })
  (hN : ¬ (zr1 w = false /\ t.plain = false /\ 1 < es.size)->Q (.ref s.heap.objs.size) { s with heap:=s.heap.push { cls:=.type "set_iterator",data:=.fields #[.int 0 0,.int (0 : Nat) 0,.ref a,.int es.size 0,.int ep 0] } }) :
  wpAny (model P w) A (pyIter (.ref a)) Q E s:=by
 refine za0 fun gG=>?_;obtain ⟨b,b1,b2,b3,b4⟩:=hs;refine gG ?_;clear gG;have hT : s.TypeIs (.ref a) "set" := ⟨b,b1,b2.1⟩
 refine qy6 hT slot_set_iter (dy6 slot_set_iter hT zy4 ?_ (zC7 _));unfold Builtin.«frozenset.__iter__»;refine ay0 (ay0 (ay1 (ay1 ?_)));refine ay0 (ay0 (wpAny_setEntries_of b1 b3 b4 (ay1 ?_)));refine ay0 ?_;unfold setDrawn;refine ay0 (zj4 b1 b3 b4 (ay0 (zk4 (ay1 ?_))));refine qy5 (fun z=>?_) fun z=>?_
 ·have z : (!zr1 w && (!t.plain && decide (es.size > 1))) = true:=z;simp at z;refine za0 fun gG=>?_;obtain ⟨z1,z2,z3⟩:=z;refine gG ?_;clear gG;refine ay0 (zp1 es.size (iy3 es.size) _ _ (by simp) fun ps d hp=>?_);have hl : ps.length = es.size:=by rw [hp.length_eq]; simp
  refine ay0 (wpAny_newTuple ?_ (by show (List.map _ ps).length <= _; rw [ay5,hl]; exact hz));refine ay0 ?_;unfold setEpoch;refine ay0 (zj4 (ay2 _ b1) b3 b4 (ay1 ?_));refine ay0 (ey3 (ay1 ⟨_,rfl, "set_iterator",_,⟨_,ay7 _ rfl,rfl⟩,ze2.lookup,?_⟩));exact hD z1 z2 z3 ps d _ s.heap.objs.size hp (fun b o q=>ay2 _ q) (ay6 _) (by rw [sy4]; exact ny8 _) ⟨_,ay7 _ rfl,rfl,0,rfl⟩
 ·refine ay0 (ay1 (ay0 ?_));unfold setEpoch;refine ay0 (zj4 b1 b3 b4 (ay1 ?_));refine ay0 (ey3 (ay1 ⟨_,rfl, "set_iterator",_,⟨_,ay7 _ rfl,rfl⟩,ze2.lookup,?_⟩));refine hN fun ⟨y1,y2,y3⟩=>z ?_;show (!zr1 w && (!t.plain && decide (es.size > 1))) = true;simp [y1,y2];omega
end
theorem zt2 : entryFor table "set_iterator.__iter__" = some qy4.«dict_keyiterator.__iter__»:=entryFor_alias (id' := "dict_keyiterator.__iter__") (by kernel_rfl) rfl (by decide +kernel) (by kernel_rfl)
theorem zx1 (a : Value) : argsOk "set_iterator.__iter__" ⟨[a],[]⟩:=by unfold argsOk; kernel_rfl
section
variable {P : cy6} {w : World} {A : Around} {E : Value->Shared->Prop} {s : Shared} {it a tp : Addr} {es : Array (Int × Value)} {ep n i : Nat} {t : SetTable}
theorem zD0 {first : Value} {Q : Value->Shared->Prop} (hi : zi4 it a first i n ep s.heap) (h : Q (.ref it) s) : wpAny (model P w) A (pyIter (.ref it)) Q E s:=by
 refine za0 fun gG=>?_;obtain ⟨o,c1,c2,c3⟩:=hi;refine gG ?_;clear gG;have hT : s.TypeIs (.ref it) "set_iterator" := ⟨o,c1,c2⟩
 refine qy6 hT zl7 (dy6 zl7 hT zt2 ?_ (zx1 _));show wpAny _ _ (ret (.ref it)) _ _ s;exact ay1 ⟨_,rfl, "set_iterator",_,hT,ze2.lookup,h⟩
theorem zi4.move {h h' : Heap} {first : Value} (x : zi4 it a first i n ep h) (k : ∀ o,h.get? it = some o->h'.get? it = some o) : zi4 it a first i n ep h':=by
 refine za0 fun gG=>?_;obtain ⟨o,c,r⟩:=x;refine gG ?_;clear gG;exact ⟨o,k o c,r⟩
theorem setAt.move {h h' : Heap} (x : setAt h a es ep t) (k : ∀ o,h.get? a = some o->h'.get? a = some o) : setAt h' a es ep t:=by
 refine za0 fun gG=>?_;obtain ⟨o,c,r⟩:=x;refine gG ?_;clear gG;exact ⟨o,k o c,r⟩
theorem zR2 {h h' : Heap} {its : Array Value} (x : h.IsTuple tp its) (k : ∀ o,h.get? tp = some o->h'.get? tp = some o) : h'.IsTuple tp its:=by
 refine za0 fun gG=>?_;obtain ⟨o,c,r⟩:=x;refine gG ?_;clear gG;exact ⟨o,k o c,r⟩
theorem zM5 (hh : A.handled = none) (ha : a ≠ it) (ht : tp ≠ it) {ps : List Nat} (hp : ps.Perm (iy3 es.size)) :
  PySem.Walks P w A it [it,a,tp] [it] es.size (fun i v=>(ps.map fun p=>(es.getD p (0,.none)).2)[i]? = some v) (fun i h=>zi4 it a (.ref tp) i es.size ep h /\ setAt h a es ep t /\ h.IsTuple tp (ps.map zn4).toArray) where
 sub:=fun b hb=>by simp at hb; simp [hb]
 frame:=fun _ _ _ st k=>⟨st.1.move fun o e=>k it (by simp) o e,st.2.1.move fun o e=>k a (by simp) o e,zR2 st.2.2 fun o e=>k tp (by simp) o e⟩
 item:=fun i s Q E hi st hQ=>by
  have hl : ps.length = es.size:=by rw [hp.length_eq]; simp
  obtain ⟨p,hpi⟩ : ∃ p,ps[i]? = some p:=⟨ps[i]'(by omega),by simp [hl,hi]⟩
  have hlt : p < es.size:=by have:=hp.mem_iff.mp (cy3 hpi); simpa using this
  refine zy5 st.1 st.2.1 rfl st.2.2 hpi (hx:=es[p].1) (v:=es[p].2) (by simp [hlt]) fun h' st' sb=>?_;exact hQ _ h' s.toks (by simp [hpi,hlt]) ⟨st',st.2.1.move fun o e=>(sb.2 a ha).trans e,zR2 st.2.2 fun o e=>(sb.2 tp ht).trans e⟩ fun b o hb e=>(sb.2 b fun z=>hb (by simp [z])).trans e
 done:=fun s Q E st hQ=>by
  have hl : ps.length = es.size:=by rw [hp.length_eq]; simp
  exact zC8 hh st.1 st.2.1 rfl st.2.2 (by simp [hl]) fun h' k=>hQ h' s.toks fun b o hb e=>k b o (fun z=>hb (by simp [z])) e
 self:=fun _ _ _ _ st q=>zD0 st.1 q
theorem zW7 (hh : A.handled = none) (hb : zr1 w = true) (ha : a ≠ it) :
  PySem.Walks P w A it [it,a] [it] es.size (fun i v=>((zx0 w a ep es).toList.map (·.2))[i]? = some v) (fun i h=>zi4 it a (.int 0 0) i es.size ep h /\ setAt h a es ep t) where
 sub:=fun b hb=>by simp at hb; simp [hb]
 frame:=fun _ _ _ st k=>⟨st.1.move fun o e=>k it (by simp) o e,st.2.move fun o e=>k a (by simp) o e⟩
 item:=fun i s Q E hi st hQ=>by
  have hl : (zx0 w a ep es).size = es.size:=by have:=(zw8 (w.params.setOrder a ep) es).length_eq; simpa using this
  have hlt : i < (zx0 w a ep es).size:=by rw [hl]; exact hi
  refine zC9 hb st.1 st.2 rfl (hx:=(zx0 w a ep es)[i].1) (v:=(zx0 w a ep es)[i].2) (by simp [hlt]) fun h' st' sb=>?_;exact hQ _ h' s.toks (by simp [hlt]) ⟨st',st.2.move fun o e=>(sb.2 a ha).trans e⟩ fun b o hb e=>(sb.2 b fun z=>hb (by simp [z])).trans e
 done:=fun s Q E st hQ=>by
  have hl : (zx0 w a ep es).size = es.size:=by have:=(zw8 (w.params.setOrder a ep) es).length_eq; simpa using this
  exact zI7 hh hb st.1 st.2 rfl (by simp [hl]) fun h' k=>hQ h' s.toks fun b o hb e=>k b o (fun z=>hb (by simp [z])) e
 self:=fun _ _ _ _ st q=>zD0 st.1 q
theorem zW8 (hh : A.handled = none) (hb : zr1 w = false) (ha : a ≠ it) :
  PySem.Walks P w A it [it,a] [it] 0 (fun i v=>([] : List Value)[i]? = some v) (fun i h=>zi4 it a (.int 0 0) i 0 ep h /\ setAt h a #[] ep t) where
 sub:=fun b hb=>by simp at hb; simp [hb]
 frame:=fun _ _ _ st k=>⟨st.1.move fun o e=>k it (by simp) o e,st.2.move fun o e=>k a (by simp) o e⟩
 item:=fun i s Q E hi st hQ=>absurd hi (by omega)
 done:=fun s Q E st hQ=>zI8 hh hb st.1 st.2 fun h' k=>hQ h' s.toks fun b o hb e=>k b o (fun z=>hb (by simp [z])) e
 self:=fun _ _ _ _ st q=>zD0 st.1 q
theorem zb69 {Q : Bool->Shared->Prop} (hT : s.TypeIs (.ref a) "set") (h : Q false s) : wpAny (model P w) A (uy4 (.ref a)) Q E s:=by
 unfold Builtin.List.listLengthHint;refine ay0 (wpAny_specialOf hT zI4 ?_);generalize hid : ("set.__len__" : String) = id0
 wp_delta
 rw [show splitId id0 = some ("set", "__len__") from by subst hid; decide +kernel];subst hid;refine ay0 (py0 (T := "set") (b:=true) hT (by rw [isSubtype_type]; kernel_rfl) ?_);refine qy5 (fun z=>absurd z (by decide)) fun _=>?_;refine qy5 (fun _=>?_) fun z=>absurd (by decide +kernel) z;exact ay0 (ty9 hT (ay1 h))
abbrev zd03 (first : Value) (a : Addr) (n ep : Nat) : Obj:={ cls:=.type "set_iterator",data:=.fields #[first,.int (0 : Nat) 0,.ref a,.int n 0,.int ep 0] }
theorem zD1 {R : Result->Shared->Prop} {I S : Addr} {fp : List Addr} {Pv : Nat->Value->Prop} {St : Nat->Heap->Prop} {res : Value} {c0 : Nat} {rz : Bool} (W : PySem.Walks P w A.in1 I fp [I] n Pv St) (hSf : S ∉ fp) (hSI : S ≠ I) (hn : n <= by0) (hT : s.TypeIs (.ref a) "set")
  (st : St 0 s.heap) (hS : s.heap.get? S = some { cls:=.type "list",data:=.seq #[] c0 })
  (hR : ∀ h' tk acc c,(∀ b o,b ≠ S->b ≠ I->s.heap.get? b = some o->h'.get? b = some o)->h'.get? S = some { cls:=.type "list",dict:=none,data:=.seq acc c,slots:=#[] }->ItemsOf Pv acc n->R (.ok (.ret res)) { s with heap:=h',toks:=tk }) :
  wpAny (model P w) A.in1 (do
    let room <- holding [.ref I] (uy4 (.ref a))
    if room || rz then rule "list.extend.makes-room"; Builtin.List.listTouch (.ref S)
    again (.builtin "list.extend.loop" ⟨[.ref S,.ref I,res],[]⟩))
   (fun fin s'=>match fin with | .done f=>R (.ok f) s' | .again c'=>c'.quiet = true /\ my2 (model P w) A c' R s') (fun e s'=>R (.error e) s') s:=by
 have go : ∀ (h : Heap) (c1 : Nat),St 0 h->(∀ b o,b ≠ S->s.heap.get? b = some o->h.get? b = some o)->h.get? S = some { cls:=.type "list",data:=.seq #[] c1 } ->
   my2 (model P w) A (.builtin "list.extend.loop" ⟨[.ref S,.ref I,res],[]⟩) R { s with heap:=h }:=by
  intro h c1 st1 k1 hS1;refine codeAny_extend_loopS W.toS hn S hSf res n 0 _ #[] c1 rfl (dy7 _) st1 hS1 (ItemsOf.nil _) fun s' acc c mv hS2 ac=>?_;rw [Moved.eq_with mv];refine hR s'.heap s'.toks acc c (fun b o hb hI e=>mv.heap b o ?_ (k1 b o hb e)) hS2 ac;simp only [by8,my1,or_false,not_or];exact ⟨hb,hI⟩
 refine ay0 (fy3 (zb69 hT ?_));refine qy5 (fun _=>?_) fun _=>ay1 ⟨ky3 iy5 _,go _ c0 st (fun b o _ e=>e) hS⟩;refine ay0 (ny4 ?_);refine ay0 ?_;show wpAny _ _ (updateSeq S (·.push .none) >>= fun _=>updateSeq S (·.pop)) _ _ _;refine ay0 (oy9 hS rfl ?_);have hS2:=fy6 (iy9 (·.push ey1)) hS rfl;refine oy9 (hz:=by seq_fits) hS2 rfl ?_;have hS3:=fy6 (iy9 (·.pop)) hS2 rfl
 have oth : ∀ b o,b ≠ S->s.heap.get? b = some o->((s.heap.update S (iy9 (·.push ey1))).update S (iy9 (·.pop))).get? b = some o:=fun b o hb e =>
  (dy8 _ _ (fy4 hb)).trans ((dy8 _ _ (fy4 hb)).trans e)
 exact ay1 ⟨ky3 iy5 _,go _ _ (W.frame 0 _ _ st fun b hb o e=>oth b o (fun z=>hSf (z ▸ hb)) e) oth hS3⟩
theorem zD2 {ws : List Value} {acc : Array Value} (h : ItemsOf (fun i v=>ws[i]? = some v) acc ws.length) : acc.toList = ws:=by
 obtain ⟨e,k⟩:=h;refine qy7 fun i=>?_
 by_cases hi : i < acc.size
 ·have a1 : acc.toList[i]? = some acc[i]:=by simp [hi]
  rw [a1];exact (k i acc[i] (by simp [hi])).symm
 ·rw [ny1 (by simp; omega),ny1 (by omega)]
theorem zy6 (f : Int × Value->Value) : (iy3 es.size).map (fun p=>f (es.getD p (0,.none))) = es.toList.map f:=by
 refine List.ext_getElem (by simp) fun i h1 h2=>?_;simp at h1;simp [h1]
theorem zW9 {R : Result->Shared->Prop} {S : Addr} {res : Value} {c0 : Nat} (hh : A.handled = none) (hs : setAt s.heap a es ep t) (hz : es.size <= by0) (hpl : es.size ≠ 0->t.plain = false) (h1 : es.size ≠ 1)
  (hSa : S ≠ a) (hS : s.heap.get? S = some { cls:=.type "list",data:=.seq #[] c0 })
  (hR : ∀ h' tk d acc c,(∀ b o,b ≠ S->s.heap.get? b = some o->h'.get? b = some o)->h'.get? S = some { cls:=.type "list",dict:=none,data:=.seq acc c,slots:=#[] }->acc.toList.Perm (es.toList.map (·.2))->R (.ok (.ret res)) { s with heap:=h',toks:=tk,drawn:=d }) :
  wpAny (model P w) A.in1 (jy4 (.ref S) (.ref a) res)
   (fun fin s'=>match fin with | .done f=>R (.ok f) s' | .again c'=>c'.quiet = true /\ my2 (model P w) A c' R s') (fun e s'=>R (.error e) s') s:=by
 have hs0:=hs;refine za0 fun gG=>?_;obtain ⟨b,b1,b2,b3,b4⟩:=hs;refine gG ?_;clear gG;have hT : s.TypeIs (.ref a) "set" := ⟨b,b1,b2.1⟩
 unfold Builtin.List.listExtendWith;refine ay0 (ty9 (T := "set") hT ?_);have e1 : qy8 (.ref S) (.ref a) = false:=by simp [qy8,hSa]
 have e2 : (sy3 "set" == sy3 "list") = false:=by decide
 have e3 : (sy3 "set" == sy3 "tuple") = false:=by decide
 simp only [e1,e2,e3,Bool.or_false,iy8,if_false];have hlS:=by6 hS;have hla:=by6 b1;refine ay0 (zb68 hs0 hz (fun z1 z2 z3 ps d h' tp hp k hge hlt ht=>?_) fun z=>?_)
 ·have hle : s.heap.objs.size <= h'.objs.size:=ey0 hge (ly8 hlt);have ka:=k _ _ b1;have hl : ps.length = es.size:=by rw [hp.length_eq]; simp
  refine zD1 (s:={ s with heap:=h'.push (zd03 (.ref tp) a es.size ep),drawn:=d }) (zM5 (A:=A.in1) hh (cy1 (by3 hla hle)) (cy1 hlt) hp) ?_ (cy1 (by3 hlS hle)) hz ⟨b,ay2 _ ka,b2.1⟩ ⟨⟨_,ay7 _ rfl,rfl,rfl⟩,⟨b,ay2 _ ka,b2,b3,b4⟩,ht.push _⟩ (ay2 _ (k _ _ hS)) fun h2 tk acc c kk hS2 ac=>?_
  ·simp only [by8,my1,or_false,not_or];exact ⟨cy1 (by3 hlS hle),hSa,cy1 (by3 hlS hge)⟩
  ·refine hR h2 tk d acc c (fun b' o hb e=>kk b' o hb (cy1 (by3 (by6 e) hle)) (ay2 _ (k _ _ e))) hS2 ?_;have q:=zD2 (ws:=ps.map fun p=>(es.getD p (0,.none)).2) (by rw [ay5,hl]; exact ac);rw [q];refine (hp.map _).trans ?_;rw [zy6 (fun e=>e.2)]
 ·by_cases hb : zr1 w = true
  ·refine zD1 (s:={ s with heap:=s.heap.push (zd03 (.int 0 0) a es.size ep) }) (zW7 (A:=A.in1) (ep:=ep) (es:=es) (t:=t) hh hb (cy1 hla)) ?_ (cy1 hlS) hz ⟨b,ay2 _ b1,b2.1⟩ ⟨⟨_,ay7 _ rfl,rfl,rfl⟩,⟨b,ay2 _ b1,b2,b3,b4⟩⟩ (ay2 _ hS) fun h2 tk acc c kk hS2 ac=>?_
   ·simp only [by8,my1,or_false,not_or];exact ⟨cy1 hlS,hSa⟩
   ·refine hR h2 tk s.drawn acc c (fun b' o hb e=>kk b' o hb (cy1 (by6 e)) (ay2 _ e)) hS2 ?_;have hp:=zw8 (w.params.setOrder a ep) es;have hl : (zx0 w a ep es).size = es.size:=by have:=hp.length_eq; simpa using this
    have q:=zD2 (ws:=(zx0 w a ep es).toList.map (·.2)) (by rw [ay5,iy0,hl]; exact ac);rw [q];exact hp.map _
  ·have hb : zr1 w = false:=by simpa using hb
   have h0 : es.size = 0:=by
    by_cases q : es.size = 0
    ·exact q
    ·exact absurd ⟨hb,hpl q,by omega⟩ z
   have : es = #[]:=Array.eq_empty_of_size_eq_zero h0;subst this;refine zD1 (n:=0) (s:={ s with heap:=s.heap.push (zd03 (.int 0 0) a 0 ep) }) (zW8 (A:=A.in1) (ep:=ep) (t:=t) hh hb (cy1 hla)) ?_ (cy1 hlS) (dy7 _) ⟨b,ay2 _ b1,b2.1⟩ ⟨⟨_,ay7 _ rfl,rfl,rfl⟩,⟨b,ay2 _ b1,b2,b3,b4⟩⟩ (ay2 _ hS) fun h2 tk acc c kk hS2 ac=>?_
   ·simp only [by8,my1,or_false,not_or];exact ⟨cy1 hlS,hSa⟩
   ·refine hR h2 tk s.drawn acc c (fun b' o hb e=>kk b' o hb (cy1 (by6 e)) (ay2 _ e)) hS2 ?_;have q:=zD2 (ws:=[]) ac;rw [q];exact xy0 _
theorem zM6 {R : List Value->Shared->Prop} (hh : A.handled = none) (hs : setAt s.heap a es ep t) (hz : es.size <= by0) (hpl : es.size ≠ 0->t.plain = false) (h1 : es.size ≠ 1)
  (h : ∀ h' tk d (ws : List Value),s.heap.objs.size <= h'.objs.size->(∀ b o,s.heap.get? b = some o->h'.get? b = some o)->ws.Perm (es.toList.map (·.2))->R ws { s with heap:=h',toks:=tk,drawn:=d }) :
  wpAny (model P w) A (collect (.ref a)) R E s:=by
 have hla : a < s.heap.objs.size:=by obtain ⟨b,b1,_⟩:=id hs; exact by6 b1
 unfold collect;refine ay0 (wpAny_runValue (jy5 entry_proto_collect' ?_));rw [gy3 PySem.F.plain_proto_collect _];show wpAny _ A.in1 (newList [] >>= fun l=>again (.builtin "list.__iadd__" ⟨[l,.ref a],[]⟩)) _ _ s;refine ay0 (ey3 (ay1 ⟨ky3 ry5 _,jy5 entry_list_iadd' ?_⟩));rw [gy3 ry5 _];have hS1 : (s.heap.push { cls:=.type "list",data:=.seq ([] : List Value).toArray }).get? s.heap.objs.size = some { cls:=.type "list",data:=.seq #[] }:=ay7 _ rfl;show wpAny _ A.in1 (jy4 (.ref s.heap.objs.size) (.ref a) (.ref s.heap.objs.size)) _ _ _
 have key:=zW9 (P:=P) (w:=w) (A:=A) (s:={ s with heap:=s.heap.push { cls:=.type "list",data:=.seq ([] : List Value).toArray } }) (S:=s.heap.objs.size) (res:=.ref s.heap.objs.size)
  (R:=fun (q : Result) (s' : Shared)=>∃ h' tk d acc c,q = .ok (.ret (.ref s.heap.objs.size)) /\ s' = { s with heap:=h',toks:=tk,drawn:=d } /\ (∀ b o,s.heap.get? b = some o->h'.get? b = some o) /\
   h'.get? s.heap.objs.size = some { cls:=.type "list",dict:=none,data:=.seq acc c,slots:=#[] } /\ acc.toList.Perm (es.toList.map (·.2)))
  hh (hs.move fun o e=>ay2 _ e) hz hpl h1 (oy3 hla) hS1
  fun h' tk d acc c k hS2 pm=>⟨h',tk,d,acc,c,rfl,rfl,fun b o e=>k b o (cy1 (by6 e)) (ay2 _ e),hS2,pm⟩
 refine fy2 key (fun fin s' x=>?_) fun e s' x=>?_
 ·cases fin with
  | done f =>
   refine za0 fun gG=>?_;obtain ⟨h',tk,d,acc,c,e,rfl,k,hS2,pm⟩:=x;refine gG ?_;clear gG;cases e;refine ay0 (wpAny_load hS2 ?_);exact ay1 (h h' tk d _ (ly8 (by6 hS2)) k pm)
  | again c1 =>
   refine ⟨x.1,codeAny_mono x.2 fun q s2 y=>?_⟩;refine za0 fun gG=>?_;obtain ⟨h',tk,d,acc,c,rfl,rfl,k,hS2,pm⟩:=y;refine gG ?_;clear gG;refine ay0 (wpAny_load hS2 ?_);exact ay1 (h h' tk d _ (ly8 (by6 hS2)) k pm)
 ·refine za0 fun gG=>?_;obtain ⟨_,_,_,_,_,e',_⟩:=x;refine gG ?_;clear gG;cases e'
end
def SetX (h : Heap) (a : Addr) (ks : List Str) : Prop :=
 ∃ o es ep t,h.get? a = some o /\ o.ExactSet /\ o.data = .set es ep t /\ es.size <= by0 /\ t.fits es.size = true /\ (es.size ≠ 0->t.plain = false) /\ StrsAre (es.toList.map (·.2)) (es.toList.map fun e=>strOf e.2) /\
  (es.toList.map fun e=>strOf e.2).Perm ks /\ ks.Nodup
theorem zu3.x {P : cy6} {w : World} {h : Heap} {a : Addr} {ks : List Str} (s : zu3 P w h a ks) : SetX h a ks:=by
 refine za0 fun gG=>?_;obtain ⟨o,es,ep,t,g1,g2,g3,g4,g5,g6,g7,g8,g9⟩:=s;refine gG ?_;clear gG;refine ⟨o,es,ep,t,g1,g2,g3,fits_of_scanBound g5,g6,g7,?_,g8,g9⟩
 have:=strsAre_map (es.toList.map (·.2)) fun v hv=>by
  refine za0 fun gG=>?_;obtain ⟨e,he,rfl⟩:=cy4.mp hv;obtain ⟨⟨k,hk,_⟩,_⟩:=g4 e he;obtain ⟨t,q⟩:=vy8 hk;refine gG ?_;clear gG;exact ⟨k,t,q⟩
 rwa [gy1] at this
def setO (a : Addr) (ks : List Str) : HO:=.ext fun h=>SetX h a ks
theorem zd04 {P : cy6} {w : World} {H : Hp} {h : Heap} {a : Addr} {ks : List Str} (x : SetX h a ks) : zb9 P w H h a (setO a ks):=by
 refine ⟨x,?_,fun h1 h2 y k=>?_⟩
 ·refine za0 fun gG=>?_;obtain ⟨o,es,ep,t,g1,_⟩:=x;refine gG ?_;clear gG;exact ⟨o,g1⟩
 ·refine za0 fun gG=>?_;obtain ⟨o,es,ep,t,g1,r⟩:=y;refine gG ?_;clear gG;exact ⟨o,es,ep,t,k o g1,r⟩
theorem Inv.drew {X : Cx} {pins : List (Addr × Obj)} {σ : St} {H : Hp} {s : Shared} (I : Inv X pins σ H s) (d : Drawn) : Inv X pins σ H { s with drawn:=d } :=
 ⟨I.ok,I.os,I.bare,I.base,I.loc,I.cell,I.free,I.freeC,I.pin,I.hok,I.len⟩
section
variable {P : cy6} {w : World} {A : Around} {E : Value->Shared->Prop} {s : Shared}
theorem za58 {vs ws : List Value} {ss : List Str} (h : StrsAre vs ss) (p : ws.Perm vs) : StrsAre ws (ws.map strOf) /\ (ws.map strOf).Perm ss:=by
 refine ⟨strsAre_map ws fun v hv=>h.all v (p.mem_iff.mp hv),?_⟩;rw [<- h.strs];exact p.map _
theorem za59 {vs : List Value} {ss : List Str} {l : Addr} {n : Nat} {Q : PySem.Fin->Shared->Prop} (hl : s.heap.get? l = some (seqObj "list" vs.toArray n)) (hS : StrsAre vs ss) (h64 : vs.length < 64)
  (h : ∀ (out : Array Value) (ss' : List Str),StrsAre out.toList ss'->ss'.Perm ss->sortedS ss' = true->Q (.done (.ret .none)) { s with heap:=sortedHeap s.heap l vs out }) :
  wpAny (model P w) A (qy4.«list.sort» ⟨[.ref l],[]⟩) Q E s:=by
 refine list_sort_treeK strKind_oneLt hl hS.keysOf (fun v1 v2 rest e=>keyKind_strs (by rw [<- e]; exact hS)) h64 fun st hp hs=>?_;refine za0 fun gG=>?_;obtain ⟨ss',a1,a2,a3⟩:=sorted_out_str hS hp hs;refine gG ?_;clear gG;exact h _ ss' a1 a2 a3
theorem zX0 {a : Addr} {ks : List Str} {Q : Value->Shared->Prop} (hh : A.handled = none) (x : SetX s.heap a ks) (h64 : ks.length < 64) (h1 : ks.length ≠ 1)
  (h : ∀ (l : Addr) (h' : Heap) (tk : Nat) (d : Drawn) (out : Array Value) (ss' : List Str) (e : Nat),StrsAre out.toList ss'->ss'.Perm ks->sortedS ss' = true->s.heap.objs.size <= l->(∀ b o,s.heap.get? b = some o->h'.get? b = some o) ->
   h'.get? l = some (seqObj "list" out e)->Q (.ref l) { s with heap:=h',toks:=tk,drawn:=d }) :
  wpAny (model P w) A (call (.builtin "sorted") [.ref a]) Q E s:=by
 refine za0 fun gG=>?_;obtain ⟨o,es,ep,t,g1,g2,g3,g5,g6,g7,g8,g9,g10⟩:=x;refine gG ?_;clear gG;have hn : es.size = ks.length:=by have:=g9.length_eq; simpa using this
 refine Calls.call_function_entry kind_sorted plain_sorted entry_sorted (args_sorted1 _) ?_;unfold Builtin.«sorted»;refine ay0 (m:=checkCount "sorted" 1 1 _) (ay1 ?_);refine ay0 (zM6 hh ⟨o,g1,g2,g3,g6⟩ g5 g7 (by omega) fun h' tk d ws hlt k pm=>?_);obtain ⟨q1,q2⟩:=za58 g8 pm;have q3:=q2.trans g9;have hwl : ws.length = ks.length:=by have:=q3.length_eq; simpa using this
 refine ay0 (wpAny_newList ?_ (by rw [hwl,ny6]; omega));have hL : (h'.push (seqObj "list" ws.toArray 0)).get? h'.objs.size = some (seqObj "list" ws.toArray 0):=ay7 _ rfl;refine ay0 (fy3 (dy6 slot_list_sort ⟨_,hL,rfl⟩ entry_list_sort (za59 hL q1 (by omega) fun out ss' a1 a2 a3=>⟨_,rfl,?_⟩) (args_list_sort _)));obtain ⟨e,he⟩:=sortedHeap_at (out:=out) hL;refine ay1 ⟨_,rfl,h h'.objs.size _ tk d out ss' e a1 (a2.trans q3) a3 hlt (fun b o' q=>?_) he⟩;have hb:=by6 (k _ _ q);rw [sortedHeap_old (cy1 hb) (by rw [size_push']; exact vy0 hb)];exact ay2 _ (k _ _ q)
end
section
variable {X : Cx}
theorem zI9 (hc : X.calm = true) : zj8 X (.builtin "sorted") (fun xs H Q=>∃ (p : Addr) (ks : List Str),xs = [.ref p] /\ H p = some (setO p ks) /\ ks.length < 64 /\ ks.length ≠ 1 /\ ∀ (l : Addr) (ss' : List Str),H l = none->ss'.Perm ks->sortedS ss' = true->Q (.ref l) (upd H l (.lst (ss'.map V.str)))):=by
 intro pins s σ H xs us Q I r h;refine za0 fun gG=>?_;obtain ⟨p,ks,rfl,hq,h64,h1,q⟩:=h;obtain ⟨u,rfl,rx⟩:=vals1 r;refine gG ?_;clear gG;cases rx;have x : SetX s.heap p ks:=(I.hok p _ hq).1;refine zX0 (I.ok.hd hc) x h64 h1 fun l h' tk d out ss' e a1 a2 a3 hl k he=>?_;refine ⟨.ref l,_,(I.laid (t':=tk) k hl (show zb9 X.prog X.w _ _ _ (.lst (ss'.map V.str)) from ⟨?_,out.toList,e,zb64 a1,?_⟩)).drew d,rfl,q _ _ (I.hok.fresh hl) a2 a3⟩
 ·rw [ay5,a2.length_eq,ny6]; omega
 ·simpa [seqObj] using he
end
section
variable {X : Bc} {S : Sl} {W : Wl} {k : KB}
end
section
variable {prog : cy6} {w : World} {A : Around} {E : Value->Shared->Prop} {h : Heap} {g : Array GenState} {d : Drawn} {t : Nat} {os : OsState} {a : Addr} {its : Array Value} {n : Nat}
end
section
variable {P : cy6} {w : World} {A : Around} {R : Result->Shared->Prop} {I d : Addr} {fp wr : List Addr} {G : Array GenState->Array GenState->Prop} {St : Nat->Shared->Prop} {ps : List Addr} {ys : List (Str × V)}
end
section
variable {X : Cx}
theorem zf31 (hu : X.A.units + 1 < cLine) : IxR X (fun x y H Q=>∃ a kvs k v,x = .ref a /\ y = kV k /\ H a = some (.dK kvs) /\ zz9 kvs k = some v /\ Q v H):=by
 intro value slice pins s σ H x y v u Q I rx ry h hs;refine za0 fun gG=>?_;obtain ⟨a,kvs,k,z,rfl,rfl,e,hv,q⟩:=h;refine gG ?_;clear gG;cases (show v = dy2 a from rx);refine za0 fun gG=>?_;obtain ⟨_,hd,vs,rel,dd⟩:=ze28 I.hok e;refine gG ?_;clear gG;obtain ⟨w',hw,rw'⟩:=zF4.some_of (v:=z) (o:=valueAt vs k) (by rw [<- hv]; exact rel.val k);exact ty0 (x:=w') dd.typeIs PySem.F.slot_dict_getitem.lookup (wpAny_getItem_of (Q:=fun r s'=>r = w' /\ EP X pins σ Q r s') (zc99 ry) dd.mapOf hw ⟨rfl,z,H,I.tok _,rw',q⟩) hs
end
def valK (kvs : List (Key × El)) (k : Key) : Option El:=(kvs.find? fun kv=>decide (kv.1 = k)).map (·.2)
section
variable {K : ay4} {F : Hp} {A : List Addr}
theorem ze36 {k : Key} {e : El} {kvs : List (Key × El)} {vs : List (Key × V)} (p : Paired (fun p q=>p.1 = q.1 /\ ElR K F A p.2 q.2) kvs vs) : valK kvs k = some e->∃ v,zz9 vs k = some v /\ ElR K F A e v:=by
 induction p with
 | nil=>intro h; simp [valK] at h
 | @cons ax bv kvs vs hh t ih =>
  refine za0 fun gG=>?_;obtain ⟨a,x⟩:=ax;obtain ⟨b,v⟩:=bv;obtain ⟨hk,he⟩:=hh;have hk : a = b:=hk;subst hk;refine gG ?_;clear gG;intro h
  by_cases q : a = k
  ·have : valK ((a,x) :: kvs) k = some x:=by simp [valK,q]
   rw [this] at h;cases h;exact ⟨v,zo8 q,he⟩
  ·have : valK ((a,x) :: kvs) k = valK kvs k:=by simp [valK,q]
   rw [this] at h;rw [zo9 (show ¬ (a,v).1 = k from q)];exact ih h
end
section
variable {X : Bc} {W : Wl} {k : KB}
theorem zf32 {j : Nat} {kvs : List (Key × El)} {x : Str} {e : El} (hu : X.A.units + 64 < cLine) (hj : W[j]? = some (.dK kvs)) (he : valK kvs (.inr x) = some e) (h : k e W) : IB X (.o j) (.d (.str x)) W k:=.of (zf31 (by omega)) fun F A H Q vx vy r zx zy q=>by
 refine za0 fun gG=>?_;obtain ⟨a,ha,rfl⟩:=zx;obtain ⟨u,hH,ws,rfl,p⟩:=r.obj j a _ ha hj;refine gG ?_;clear gG;obtain rfl:=Rq.zg9 zy;refine za0 fun gG=>?_;obtain ⟨v,h1,h2⟩:=ze36 p he;refine gG ?_;clear gG;exact ⟨a,ws,.inr x,v,rfl,rfl,hH,h1,q.same r h2 h⟩
end
def zJ0 (h : Heap) (d : Addr) (es : Array my9) (ep : Nat) : Prop:=∃ o,h.get? d = some o /\ o.ExactDict /\ o.data = .dict es ep
section
variable {P : cy6} {w : World} {A : Around} {E : Value->Shared->Prop} {s : Shared} {it d : Addr} {i ep : Nat} {es : Array my9}
theorem zJ0.move {h h' : Heap} (x : zJ0 h d es ep) (k : ∀ o,h.get? d = some o->h'.get? d = some o) : zJ0 h' d es ep:=by
 refine za0 fun gG=>?_;obtain ⟨o,c,r⟩:=x;refine gG ?_;clear gG;exact ⟨o,k o c,r⟩
theorem zb70 {Q : Option Value->Shared->Prop} {en : my9} (hit : s.heap.IsKeyIter it d i es.size ep) (hm : zJ0 s.heap d es ep) (hx : es[i]? = some en)
  (hQ : ∀ h',h'.IsKeyIter it d (i + 1) es.size ep->fy0 it s.heap h'->Q (some en.key) { s with heap:=h' }) : wpAny (model P w) A (pyNext (.ref it)) Q E s:=by
 refine za0 fun gG=>?_;obtain ⟨o,c1,c2,c3⟩:=id hit;obtain ⟨b,b1,b2,b3⟩:=hm;refine gG ?_;clear gG;have ty:=hit.typeIs
 have lt : i < es.size:=by
  rcases Nat.lt_or_ge i es.size with z | z
  ·exact z
  ·rw [my4 z] at hx; cases hx
 unfold pyNext;refine ay0 (py3 (ey5 (name:=ly9 "__next__") ty ly3 (dy6 ly3 ty F.entry_dict_keyiterator_next ?_ (F.args_dict_keyiterator_next_1 _))));refine ay0 (ay1 (ay0 (ay0 ?_)))
 first | refine ay0 (ny9 ty (ay1 ?_)) | refine ay0 (qy9 ty (ay1 ?_))
 refine ay0 (sy9 c1 c3 ?_);have own : gy4 "dict_keyiterator" = false:=by decide
 simp only [own,iy8,if_false];show wpAny _ _ (if (dy2 d == ey1) = true then _ else _) _ _ s;rw [if_neg (show ¬ ((dy2 d == ey1) = true) from by9)];refine ay0 (ay1 (ay0 (ky1 b1 b3 ?_)));rw [if_neg (by simp)];refine ay0 (ay1 (ay0 (ny2 b1 b3 ?_)));rw [if_neg (by simp)];refine ay1 ?_;simp only [show ¬ ((i : Int) < 0) from by omega,if_false,ky0,hx];refine ay0 ?_
 first | refine ay0 (ny9 ty (ay1 ?_)) | refine ay0 (qy9 ty (ay1 ?_))
 refine ay0 (wpAny_isOneOf_keyiter ty ?_);show wpAny _ _ (ty5 (.ref it) 1 (rawInt ((i : Int) + 1)) >>= _) _ _ s;refine ay0 (jy9 c1 c3 (by simp) ?_)
 have hit' : (s.heap.update it (uy9 (·.setIfInBounds 1 (rawInt ((i : Int) + 1))))).IsKeyIter it d (i + 1) es.size ep :=
  ⟨_,fy6 _ c1 (ny0 (hy1 c3 _)),(uy8 ..).trans c2,by rw [hy1 c3]; simp [rawInt]⟩
 refine ay0 (fy3 (ay0 (wpAny_isOneOf_keyiter (s:={ s with heap:=s.heap.update it (uy9 (·.setIfInBounds 1 (rawInt ((i : Int) + 1)))) }) hit'.typeIs ?_)));show wpAny _ _ (pure en.key) _ _ _;exact ay1 (ay1 ⟨_,rfl,ay1 (hQ _ hit' (hy4 ..))⟩)
theorem zd05 {Q : Option Value->Shared->Prop} (hh : A.handled = none) (hit : s.heap.IsKeyIter it d i es.size ep) (hm : zJ0 s.heap d es ep) (hx : es.size <= i)
  (hQ : ∀ h',Heap.ExtBut it s.heap h'->Q none { s with heap:=h' }) : wpAny (model P w) A (pyNext (.ref it)) Q E s:=by
 refine za0 fun gG=>?_;obtain ⟨o,c1,c2,c3⟩:=id hit;obtain ⟨b,b1,b2,b3⟩:=hm;refine gG ?_;clear gG;have ty:=hit.typeIs;unfold pyNext;refine ay0 (py3 (ey5 (name:=ly9 "__next__") ty ly3 (dy6 ly3 ty F.entry_dict_keyiterator_next ?_ (F.args_dict_keyiterator_next_1 _))));refine ay0 (ay1 (ay0 (ay0 ?_)))
 first | refine ay0 (ny9 ty (ay1 ?_)) | refine ay0 (qy9 ty (ay1 ?_))
 refine ay0 (sy9 c1 c3 ?_);have own : gy4 "dict_keyiterator" = false:=by decide
 simp only [own,iy8,if_false];show wpAny _ _ (if (dy2 d == ey1) = true then _ else _) _ _ s;rw [if_neg (show ¬ ((dy2 d == ey1) = true) from by9)];refine ay0 (ay1 (ay0 (ky1 b1 b3 ?_)));rw [if_neg (by simp)];refine ay0 (ay1 (ay0 (ny2 b1 b3 ?_)));rw [if_neg (by simp)];refine ay1 ?_;simp only [show ¬ ((i : Int) < 0) from by omega,if_false,ky0,my4 hx];refine ay0 ?_
 first | refine ay0 (ny9 ty (ay1 ?_)) | refine ay0 (qy9 ty (ay1 ?_))
 show wpAny _ _ (ty5 (.ref it) 0 .none >>= _) _ _ s;refine ay0 (jy9 c1 c3 (by simp) ?_);refine zk3 (by simpa using hh) fun h' e k te=>?_;refine ay0 (py0 te isSubtype_stop ?_);exact ay1 (hQ _ fun b' o' hb q=>k _ _ ((dy8 _ _ (fy4 hb)).trans q))
theorem zb71 {Q : Value->Shared->Prop} (hd : (d == ly6) = false) (hm : zJ0 s.heap d es ep)
  (hQ : Q (.ref s.heap.objs.size) { s with heap:=s.heap.push { cls:=.type "dict_keyiterator",data:=.fields #[.ref d,.int 0 0,.int es.size 0,.int ep 0] } }) : wpAny (model P w) A (pyIter (.ref d)) Q E s:=by
 refine za0 fun gG=>?_;obtain ⟨b,b1,b2,b3⟩:=hm;refine gG ?_;clear gG;have ty : s.TypeIs (.ref d) "dict" := ⟨b,b1,b2.1⟩
 refine qy6 ty F.slot_dict_iter (dy6 F.slot_dict_iter ty F.entry_dict_iter ?_ (F.args_dict_iter_1 _));unfold Builtin.«dict.__iter__»;refine ay0 ?_;unfold Builtin.Dict.dictSlotNone;refine ay0 (py1 ty (ay1 ?_));show wpAny _ _ (jy6 d >>= _) _ _ s;unfold Builtin.Dict.showsAll;rw [if_neg (by rw [hd]; exact by9)];refine ay0 (ay1 (ay0 (ky1 b1 b3 (ay0 (ny2 b1 b3 ?_)))));refine ay0 (ey3 (ay1 ⟨_,rfl, "dict_keyiterator",_,⟨_,ay7 _ rfl,rfl⟩,ly3.lookup,?_⟩));simpa [rawInt] using hQ
end
section
variable {X : Cx} {tg : Expr}
theorem Inv.frz {pins : List (Addr × Obj)} {σ : St} {H : Hp} {s : Shared} {d : Addr} {kvs : List (List Key × V)} (I : Inv X pins σ H s) (e : H d = some (.dT kvs)) : ∃ o,KeysIn H o (kvs.map (·.1)) /\ Inv X pins σ (upd H d (.frz o (.dT kvs))) s:=by
 refine za0 fun gG=>?_;obtain ⟨z,hs,xs,pr,o,es,ep,h1,h2,h3,h4,h5⟩:=I.hok d _ e;refine gG ?_;clear gG;refine ⟨o,⟨es,ep,h2,h3,?_,fun i k hk=>?_⟩,?_⟩
 ·have:=congrArg vy9 h4;rw [ay5,iy0] at this;rw [this,ay5];exact pr.length.symm
 ·rw [ay9] at hk;cases hi : kvs[i]? with
  | none=>rw [hi] at hk; cases hk
  | some p =>
   rw [hi] at hk;cases hk;refine za0 fun gG=>?_;obtain ⟨q,hq,e1,e2,e3⟩:=zi8 pr hi;refine gG ?_;clear gG;refine ⟨entryOfKey (tupleKind (zc5 X.prog X.w)) q,q.2.1,?_,rfl,e2⟩;rw [<- my8,h4,ay9,hq];rfl
 ·have ht : ∀ b ys,H b = some (.tup ys)->upd H d (.frz o (.dT kvs)) b = some (.tup ys):=fun b ys hb=>by
   rw [za8 (zK8 hb e (by simp))]; exact hb
  refine I.write (x:=d) (e:=d) (h':=s.heap) (t':=s.toks) (o:=.frz o (.dT kvs)) (by rw [e]; trivial) (.inl rfl) (fun _ _ _ q=>q) ⟨o,h1⟩ ⟨h1,?_⟩;exact zb9.zU0 (I.hok d _ e) (fun _ _ _ q=>q) (fun b hb=>by rw [za8 (zK8 hb e (by simp))]; exact hb) ht
theorem Inv.zX1 {pins : List (Addr × Obj)} {σ : St} {H : Hp} {s : Shared} {d : Addr} {o : Obj} {u : HO} (I : Inv X pins σ H s) (e : H d = some (.frz o u)) (h0 : ∀ o' u',X.H₀ d ≠ some (.frz o' u')) : Inv X pins σ (upd H d u) s:=by
 have hn : ∀ b,H b = none->upd H d u b = none:=fun b hb=>by rw [za8 (fun z=>by subst z; rw [e] at hb; cases hb)]; exact hb
 have hne : ∀ b v,H b = some v->v ≠ .frz o u->upd H d u b = some v:=fun b v hb hv=>by rw [za8 (zK8 hb e hv)]; exact hb
 refine ⟨I.ok,I.os,I.bare,⟨I.base.keep,I.base.slot,fun b ob q n hx=>hn b (I.base.free b ob q n hx),I.base.there,fun b xs q=>hne b _ (I.base.tups b xs q) (by simp),fun b ob u' q=>?_,fun b ps q=>?_⟩,I.loc,I.cell,hn _ I.free,fun x c h=>hn _ (I.freeC x c h),fun p hp=>?_,fun b v q=>?_,I.len⟩
 ·have hb : b ≠ d:=fun z=>by subst z; exact h0 _ _ q
  rw [za8 hb];exact I.base.frzs b ob u' q
 ·obtain ⟨more,z⟩:=I.base.tbls b ps q;exact ⟨more,hne b _ z (by simp)⟩
 ·refine za0 fun gG=>?_;obtain ⟨a1,a2,a3⟩:=I.pin p hp;refine gG ?_;clear gG;exact ⟨a1,hn _ a2,a3⟩
 ·have st : ∀ {c v},zb9 X.prog X.w H s.heap c v->zb9 X.prog X.w (upd H d u) s.heap c v:=fun {c v} x =>
   x.zU0 (fun _ _ _ q=>q) (fun b' hb=>hne _ _ hb (by simp)) fun b' ys hb=>hne _ _ hb (by simp)
  by_cases hb : b = d
  ·subst hb;rw [zb3] at q;cases q;exact st (show zb9 X.prog X.w H s.heap b (.frz o u) from I.hok b _ e).2
  ·rw [za8 hb] at q;exact st (I.hok b v q)
theorem ze37 {e : Expr} {t : TE} (h : PE X e t) : PE X e fun σ H Q=>∃ d kvs,H d = some (.dT kvs) /\ ∀ o,KeysIn H o (kvs.map (·.1))->t σ (upd H d (.frz o (.dT kvs))) fun v H'=>∃ kvs',H' d = some (.frz o (.dT kvs')) /\ Q v (upd H' d (.dT kvs')):=by
 intro pins s σ H Q I ⟨d,kvs,hd,q⟩;refine za0 fun gG=>?_;obtain ⟨o,ki,I1⟩:=I.frz hd;refine gG ?_;clear gG
 have h0 : ∀ o' u',X.H₀ d ≠ some (.frz o' u'):=fun o' u' z=>by
  have:=I.base.frzs d o' u' z;rw [hd] at this;cases this
 refine thn (h pins s σ _ _ I1 (q o ki)) fun v s1 zR=>?_;refine za0 fun gG=>?_;obtain ⟨y,H1,I2,r,kvs',e1,q1⟩:=zR;refine gG ?_;clear gG;exact ⟨y,_,I2.zX1 e1 h0,r,q1⟩
end
theorem RW.zM7 {K : ay4} {A : List Addr} {W : Wl} {H : Hp} : ∀ (l : List (Addr × List V)) {F : Hp},RW K F A W H->(∀ p∈l,H p.1 = some (.tup p.2))->∃ F',zm1 F F' /\ (∀ p∈l,F' p.1 = some (.tup p.2)) /\ RW K F' A W H
 | [],F,r,_=>⟨F,.refl _,(fun p hp=>absurd hp (by simp)),r⟩
 | p :: l,F,r,h=>by
  refine za0 fun gG=>?_;obtain ⟨F1,s1,e1,r1⟩:=r.grew (.refl H) (h p by2);obtain ⟨F2,s2,e2,r2⟩:=RW.zM7 l r1 fun q hq=>h q (by1 _ hq);refine gG ?_;clear gG;exact ⟨F2,s1.trans s2,fun q hq=>(by8.mp hq).elim (fun z=>by subst z; exact s2 _ _ e1) (e2 q),r2⟩
section
variable {X : Bc} {S : Sl} {W : Wl} {k : KB}
theorem ze38 {e : Expr} {j : Nat} {kvs : List (List Key × El)} (hj : W[j]? = some (.dT kvs)) (h : ∀ o,BE X S (W.set j (.fT o kvs)) e fun y W1=>W1[j]? = some (.fT o kvs) /\ k y (W1.set j (.dT kvs))) : BE X S W e k :=
 .of (ze37 zi7) fun F A σ H Q x0 r sr q=>by
  classical
  have hlW : j < W.length:=(ay3.mp hj).1;have hlA : j < A.length:=by rw [r.len]; exact hlW
  have hjA : A[j]? = some A[j]:=by simp [hlA]
  refine za0 fun gG=>?_;obtain ⟨ho,eH,vs,rfl,p⟩:=r.obj j _ _ hjA hj;refine gG ?_;clear gG
  have hkeys : vs.map (·.1) = kvs.map (·.1):=by
   clear eH hj h
   induction p with
   | nil=>rfl
   | cons a _ ih=>simp [ih,a.1]
  refine ⟨A[j],vs,eH,fun o ki=>?_⟩;rw [hkeys] at ki;refine za0 fun gG=>?_;obtain ⟨es,ep,k1,k2,k3,k4⟩:=id ki
  obtain ⟨F1,s1,e1,r1⟩:=r.zM7 ((es.toList.zip (kvs.map (·.1))).filterMap fun p=>match p.1.key with | .ref b=>if H b = some (.tup (p.2.map kV)) then some (b,p.2.map kV) else none | _=>none) fun q hq=>by
   obtain ⟨⟨en,kk⟩,_,hq⟩:=List.mem_filterMap.mp hq;simp only at hq
   split at hq
   ·split at hq
    ·cases hq; assumption
    ·cases hq
   ·cases hq
  refine gG ?_;clear gG
  have ki1 : KeysIn F1 o (kvs.map (·.1)):=by
   refine ⟨es,ep,k1,k2,k3,fun i kk hk=>?_⟩;refine za0 fun gG=>?_;obtain ⟨en,b,h1,h2,h3⟩:=k4 i kk hk;refine gG ?_;clear gG;refine ⟨en,b,h1,h2,e1 (b,kk.map kV) (List.mem_filterMap.mpr ⟨(en,kk),?_,?_⟩)⟩
   ·refine gy5.mpr ⟨i,?_⟩;rw [List.getElem?_zip_eq_some];exact ⟨by rw [my8]; exact h1,hk⟩
   ·simp [h2,h3]
  have x1 : Ext F A F1 A:=⟨s1,ry7 _⟩
  have r2 : RW X.K F1 A (W.set j (.fT o kvs)) (upd H A[j] (.frz o (.dT vs))):=r1.put hjA ⟨vs,⟨rfl,ki1⟩,zg1 (fun _ _ z=>⟨z.1,z.2.ext x1⟩) p⟩;refine (h o).use (x0.trans x1) r2 (sr.ext x1) fun F2 A2 W2 H2 y v x2 r3 z3 zR=>?_;refine za0 fun gG=>?_;obtain ⟨hw,hk⟩:=zR;have hjA2 : A2[j]? = some A[j]:=zv4 x2.pre hjA;obtain ⟨h',e',vs',⟨rfl,_⟩,p'⟩:=r3.obj j _ _ hjA2 hw;refine gG ?_;clear gG;exact ⟨vs',e',q F2 A2 _ _ y v (x1.trans x2) (r3.put (o:=.dT kvs) hjA2 ⟨vs',rfl,p'⟩) z3 hk⟩
end
end L2
namespace L2
open PySem PySem.Spec PyProof.Rows
open PySem.W
def Pm (n : Nat) (p : Array Nat) : Prop:=p.Perm (iy3 n).toArray
theorem Pm.lt {n : Nat} {p : Array Nat} (h : Pm n p) (hn : 0 < n) (x : Nat) : Array.getD p x 0 < n:=by
 unfold Array.getD
 split
 ·rename_i hx
  have : p[x]∈p:=Array.getElem_mem hx;have:=h.mem_iff.mp this;simpa using this
 ·exact hn
theorem Pm.rev {n : Nat} {p : Array Nat} (h : Pm n p) (i j : Nat) : Pm n (kas_rev p i j):=(mirror_perm p i j _).trans h
section
variable {n : Nat} (hn : 0 < n)
include hn
end
section
variable {prog : cy6} {w : World} {A : Around} {E : Value->Shared->Prop} {s : Shared} {a : Addr} {vs : List Value} {n : Nat}
theorem zd06 (vs : List Value) : (Array.map (fun x : Keyed=>x.snd) (vs.toArray.zip vs.toArray)).toList = vs:=by
 simp only [List.zip_toArray,List.map_toArray];exact List.map_snd_zip (ay6 _)
end
section
variable {X : Cx}
end
section
variable {X : Bc} {W : Wl} {k : KB}
end
end L2
namespace L2
open PySem PySem.Spec PyProof.Rows
section
variable {prog : cy6} {w : World} {A : Around} {E : Value->Shared->Prop} {s : Shared}
theorem zM8 {a : Addr} {ks : List Str} {k : Str} {tk : Tok} {Q : Value->Shared->Prop} (hS : zu3 prog w s.heap a ks) (hr : ks.length + 1 < scanBound)
  (h : ∀ h',fy0 a s.heap h'->zu3 prog w h' a (zw7 ks k)->Q .none { s with heap:=h',toks:=s.toks + 1 }) :
  wpAny (model prog w) A (call (.builtin "set.add") [.ref a,.str k tk]) Q E s:=by
 have hT : s.TypeIs (.ref a) "set" := by
  refine za0 fun gG=>?_;obtain ⟨o,es,ep,t,g1,g2,_⟩:=hS;refine gG ?_;clear gG;exact ⟨o,g1,g2.1⟩
 refine dy6 F.slot_set_add hT F.entry_set_add ?_ (F.args_set_add_2 _ _);unfold Builtin.«set.add»;refine ay0 (ay1 ?_);dsimp only;unfold setAdd;refine ay0 (fy3 (ay0 ((hy3 prog w).pyHash (k:=k) (PySem.strKind_is prog w k tk) ?_)));refine zb67 (s:={ s with toks:=s.toks + 1 }) hS hr fun b h' sb hs2=>?_;exact ay1 ⟨_,rfl,h h' sb hs2⟩
variable {R : Result->Shared->Prop}
theorem zh1 {elt : Expr} {gens : List Comprehension} {scope : Scope} {pos : Pos} {it acc : Value} {env : Env} {d : Nat} {g : Comprehension} (hg : gens[d]? = some g) (ha : g.is_async = 0)
  (h1 : my2 (model prog w) A (.compLoop (.SetComp elt gens scope pos) d it acc env) R s)
  (h2 : wpAny (model prog w) A (pyIter it) (fun it' s'=>my2 (model prog w) A (.compLoop (.SetComp elt gens scope pos) d it' acc env) R s') (fun _ _=>False) s) :
  my2 (model prog w) A (.compStart (.SetComp elt gens scope pos) d it acc env) R s:=by
 refine codeAny_of_tree ?_;show wpAny _ A ((compStart (.SetComp elt gens scope pos) d it acc env).onRaise (fun x=>do noteFrame x env; standAt theWindowsPlace)) _ _ s;refine wpAny_notedAt ?_;unfold compStart;have e1 : (clausesOf (.SetComp elt gens scope pos))[d]? = some g:=hg;have e2 : ((some g).elim false (·.is_async != 0)) = false:=by simp [ha]
 rw [e1,e2];refine ay0 (wpAny_askSetting (wpAny_ite ?_))
 by_cases hq : ((model prog w).w.params.followText "comprehension-iter-twice") = true
 ·rw [if_pos hq];exact ay0 (ay1 (ay1 ⟨rfl,h1⟩))
 ·rw [if_neg hq];refine ay0 (ny4 (ay0 (ly4 (ay0 (fy2 h2 (fun it' s' h'=>ay1 ⟨rfl,h'⟩) fun _ _ h=>h.elim)))))
theorem zb72 {led : Bool} : zu3 prog w (s.heap.push { cls:=.type "set",dict:=none,data:=.set #[] 0 (.fresh 0 0 led) }) s.heap.objs.size [] :=
 ⟨_,#[],0,_,ay7 _ rfl,⟨rfl,rfl,rfl⟩,rfl,fun e he=>by simp at he,by decide,rfl,fun z=>absurd rfl z,by simp,by simp⟩
theorem zX2 {Q : Value->Shared->Prop} (h : ∀ led : Bool,Q (.ref s.heap.objs.size) { s with heap:=s.heap.push { cls:=.type "set",dict:=none,data:=.set #[] 0 (.fresh 0 0 led) } }) : wpAny (model prog w) A (newSet (.type "set")) Q E s :=
 wpAny_newSet_of (knd:=hy3 prog w) fun led _=>h led
theorem zJ1 {elt t1 i1 t2 i2 : Expr} {scope : Scope} {pos : Pos} {it acc : Value} {env : Env} (hf : ∀ x,ey2 i2 env x = pure x) (J : Nat->Shared->Prop)
  (turn : ∀ n s,J n s->wpAny (model prog w) A (pyNext it) (fun r s1=>match r with
   | none=>R (.ok .next) s1
   | some v=>wpAny (model prog w) A (oy4 t1 it v) (fun _ s1'=>wpAny (model prog w) A (assign t1 env v) (fun _ s2 =>
     wpAny (model prog w) A (eval i2 env) (fun x s3=>wpAny (model prog w) A (pyIter x) (fun it2 s4 =>
      my2 (model prog w) (A.mark none) (.compStart (.SetComp elt [⟨t1,i1,[],0⟩,⟨t2,i2,[],0⟩] scope pos) 1 it2 acc env) (fun r s5=>match r with | .ok _=>∃ m,m < n /\ J m s5 | .error _=>False) s4)
      (fun _ _=>False) s3) (fun _ _=>False) s2) (fun _ _=>False) s1') (fun _ _=>False) s1) (fun _ _=>False) s)
  (n : Nat) (h : J n s) : my2 (model prog w) A (.compLoop (.SetComp elt [⟨t1,i1,[],0⟩,⟨t2,i2,[],0⟩] scope pos) 0 it acc env) R s:=by
 refine codeAny_loop rfl J (fun n s hI=>?_) n h;show wpAny _ A ((compTurn (.SetComp elt [⟨t1,i1,[],0⟩,⟨t2,i2,[],0⟩] scope pos) 0 it acc env).onRaise (fun x=>do noteFrame x env; theTreesLotGoes x)) _ _ s;refine wpAny_noted ?_;unfold compTurn;refine ay0 (ly4 (ay0 (fy2 (turn n s hI) (fun r s1 h1=>?_) fun _ _ h'=>h'.elim)));cases r with
 | none=>exact ay1 h1
 | some v =>
  refine ay0 (fy2 h1 (fun _ s1' h1'=>?_) fun _ _ h'=>h'.elim);refine ay0 (fy2 h1' (fun _ s2 h2=>?_) fun _ _ h'=>h'.elim);refine ay0 (ay1 ?_);refine ay0 (fy2 h2 (fun x s3 h3=>?_) fun _ _ h'=>h'.elim);refine ay0 (ly4 ?_);show wpAny _ A (ey2 i2 env x >>= _) _ _ s3;rw [hf x];refine ay0 (ay1 (ay0 (fy3 (fy2 h3 (fun it2 s4 h4=>?_) fun _ _ h'=>h'.elim))));refine ay0 (wpAny_runOwn (codeAny_mono h4 fun r s5 h5=>?_));cases r with
  | error e=>exact h5.elim
  | ok f=>exact ay1 ⟨rfl,h5⟩
theorem zM9 {elt t1 i1 t2 i2 : Expr} {scope : Scope} {pos : Pos} {it acc : Value} {env : Env} (J : Nat->Shared->Prop)
  (turn : ∀ n s,J n s->wpAny (model prog w) A (pyNext it) (fun r s1=>match r with
   | none=>R (.ok .next) s1
   | some v=>wpAny (model prog w) A (oy4 t2 it v) (fun _ s1'=>wpAny (model prog w) A (assign t2 env v) (fun _ s2 =>
     wpAny (model prog w) A (eval elt env) (fun x s3=>wpAny (model prog w) A (call (.builtin "set.add") [acc,x]) (fun _ s5=>∃ m,m < n /\ J m s5)
      (fun _ _=>False) s3) (fun _ _=>False) s2) (fun _ _=>False) s1') (fun _ _=>False) s1) (fun _ _=>False) s)
  (n : Nat) (h : J n s) : my2 (model prog w) A (.compLoop (.SetComp elt [⟨t1,i1,[],0⟩,⟨t2,i2,[],0⟩] scope pos) 1 it acc env) R s:=by
 refine codeAny_loop rfl J (fun n s hI=>?_) n h;show wpAny _ A ((compTurn (.SetComp elt [⟨t1,i1,[],0⟩,⟨t2,i2,[],0⟩] scope pos) 1 it acc env).onRaise (fun x=>do noteFrame x env; theTreesLotGoes x)) _ _ s;refine wpAny_noted ?_;unfold compTurn;refine ay0 (ly4 (ay0 (fy2 (turn n s hI) (fun r s1 h1=>?_) fun _ _ h'=>h'.elim)));cases r with
 | none=>exact ay1 h1
 | some v =>
  refine ay0 (fy2 h1 (fun _ s1' h1'=>?_) fun _ _ h'=>h'.elim);refine ay0 (fy2 h1' (fun _ s2 h2=>?_) fun _ _ h'=>h'.elim);refine ay0 (ay1 ?_);refine ay0 (ay0 (fy2 h2 (fun x s3 h3=>?_) fun _ _ h'=>h'.elim));refine ay0 (ly4 ?_);exact ay0 (fy2 h3 (fun _ s5 h5=>ay1 (ay1 ⟨rfl,h5⟩)) fun _ _ h'=>h'.elim)
end
section
variable {X : Cx} {scope : Scope}
theorem Inv.za60 {pins : List (Addr × Obj)} {σ σ' : St} {H H' : Hp} {s s4 : Shared} {N : List Str} {cl : List (Str × Addr)} {fp : List Addr} {C D : Addr} {h0 h' : Heap} {u0 : HO} (I : Inv X pins σ H s)
  (hf : ∀ b∈fp,zr8 X pins H b) (hs : s.heap.objs.size <= C) (hD : s.heap.objs.size <= D) (hDC : D < C)
  (k0 : ∀ b o,s.heap.get? b = some o->h0.get? b = some o)
  (I4 : Inv (zb8 X N scope cl C (D :: fp) { s with heap:=h0 } H) [] σ' H' s4) (fD : H' D = none) (new : zb9 X.prog X.w (upd H' D u0) h' D u0)
  (sb : fy0 C s4.heap h') : Inv X pins σ (upd H' D u0) { s4 with heap:=h' }:=by
 have kC : ∀ b o,b ≠ C->s4.heap.get? b = some o->h'.get? b = some o:=fun b o hb e=>(sb.2 b hb).trans e;have lt : ∀ b o,s.heap.get? b = some o->b < s.heap.objs.size:=fun b o e=>by6 e;have neD : ∀ b o,s.heap.get? b = some o->b ≠ D:=fun b o e=>cy1 (by3 (lt b o e) hD);have neC : ∀ b o,s.heap.get? b = some o->b ≠ C:=fun b o e=>cy1 (by3 (lt b o e) hs);have nin : ∀ b o,s.heap.get? b = some o->b ∉ fp->b ∉ D :: fp:=fun b o e h hb=>(by8.mp hb).elim (neD b o e) h;have HD : H D = none:=I.hok.fresh hD;have neDH : ∀ b u,H b = some u->b ≠ D:=fun b u e=>za6 e HD;have fC : H' C = none:=I4.free;have un : Un (frs X.stack) (D :: fp) H H' h0 s4.heap:=I4.base;refine I.zb28 (ch:=fp) (s':={ s4 with heap:=h' }) (H':=upd H' D u0) I4.os ⟨fun b o e n hb hx=>?_,fun b o e n hb hx=>?_,fun b o e n hx=>?_,fun b o e hx=>?_,fun b xs e=>?_,fun b o u e=>?_,fun b ps e=>?_⟩ (fun b u e=>?_) I4.bare (fun b hb=>?_)
 ·exact kC b o (neC b o e) (un.keep b o (k0 b o e) n hb (nin b o e hx))
 ·obtain ⟨sl,q⟩:=un.slot b o (k0 b o e) n hb (nin b o e hx);exact ⟨sl,kC b _ (neC b o e) q⟩
 ·rw [za8 (neD b o e)];exact un.free b o (k0 b o e) n (nin b o e hx)
 ·obtain ⟨o',q⟩:=un.there b o (k0 b o e) (nin b o e hx);exact ⟨o',kC b _ (neC b o e) q⟩
 ·rw [za8 (neDH b _ e)];exact un.tups b xs e
 ·rw [za8 (neDH b _ e)];exact un.frzs b o u e
 ·rw [za8 (neDH b _ e)];exact un.tbls b ps e
 ·by_cases hb : b = D
  ·subst hb;rw [zb3] at e;cases e;exact new
  ·rw [za8 hb] at e;refine (I4.hok b u e).zU0 (fun c v hc q=>kC c v ?_ q) (fun c q=>by rw [za8 (za6 q fD)]; exact q) fun c xs q=>by rw [za8 (za6 q fD)]; exact q
   rcases hc with q | q
   ·rw [q]; exact za6 e fC
   ·exact za6 q fC
 ·refine za0 fun gG=>?_;obtain ⟨_,h1,_,h2,h3,h4⟩:=hf b hb;refine gG ?_;clear gG;exact ⟨h2,h1,h3,h4⟩
end
section
variable {X : Cx} {t1 i1 i2 elt : Expr} {x2 : Str} {p2 : Pos} {scope : Scope} {pos : Pos} {te : TE} {j2 : Nat}
theorem zu3.obj {P : cy6} {w : World} {h : Heap} {a : Addr} {ks : List Str} (x : zu3 P w h a ks) : ∃ o,h.get? a = some o /\ ∀ v,o.data ≠ .cell v:=by
 refine za0 fun gG=>?_;obtain ⟨o,es,ep,t,g1,g2,g3,_⟩:=x;refine gG ?_;clear gG;exact ⟨o,g1,fun v z=>by rw [g3] at z; cases z⟩
theorem zr8.more {pins more : List (Addr × Obj)} {H : Hp} {b : Addr} (f : zr8 X pins H b) (h : ∀ p∈more,p.1 ≠ b) : zr8 X (pins++more) H b:=by
 refine za0 fun gG=>?_;obtain ⟨f0,f1,f2,f3,f4,f5⟩:=f;refine gG ?_;clear gG;refine ⟨f0,f1,f2,f3,f4,fun p hp=>?_⟩;rcases dy9.mp hp with z | z
 ·exact f5 p (iy6 _ z)
 ·rcases dy9.mp z with z | z
  ·exact f5 p (dy0 _ z)
  ·exact h p z
theorem Inv.zD3 {pins more : List (Addr × Obj)} {σ : St} {H : Hp} {s : Shared} (I : Inv X (pins++more) σ H s) : Inv X pins σ H s :=
 I.zl5 fun p hp=>I.pin p (dy0 _ (iy6 _ hp))
theorem Inv.zn5 {pins : List (Addr × Obj)} {fp : List Addr} {h : Heap} {σ : St} {H : Hp} {s : Shared} (I : Inv X (pins++ze6 fp h) σ H s) {b : Addr} {o : Obj} (hb : b∈fp) (e : h.get? b = some o) : s.heap.get? b = some o /\ H b = none:=by
 have:=I.pin (b,o) (dy0 _ (dy0 _ (ze3 hb e)));exact ⟨this.1,this.2.1⟩
theorem zX3 (hxe : X.xe = fun _ _=>False) (hcm : X.calm = true) (hg : PG X (.Name x2 p2) (zm8 j2)) (he : PE X elt te)
  {P0 : List (Addr × Obj)} {σ2 : St} {D it : Addr} {fp : List Addr} {tn : Nat->Heap->Prop} {J : It} (T : Turn X.prog X.w X.K (.Name x2 p2) J fp it tn)
  (fD : ∀ H,H D = none->zr8 X P0 H D) (ff : ∀ b∈fp,b ≠ D /\ ∀ H,H b = none->zr8 X P0 H b) (hσ : σ2[j2]? = some none)
  {W2 : Nat->Nat->List Str->Hp->Prop} {Fin : List Str->Hp->Prop}
  (hW : ∀ i m ks H,W2 i m ks H->ks.length + 1 < scanBound /\ ((J.stop i H /\ Fin ks H) \/ (J.go i H /\ ∀ y H5,J.yld i H y H5->te (σ2.set j2 (some y)) H5 fun z H7=>∃ k,z = .str k /\ ∃ m',m' < m /\ W2 (i + 1) m' (ks++[k]) H7)))
  {R : Result->Shared->Prop} (hR : ∀ ks H s',Inv X P0 σ2 H s'->zu3 X.prog X.w s'.heap D (zf1 ks)->H D = none->Fin ks H->R (.ok .next) s')
  {m : Nat} {ks : List Str} {H : Hp} {s : Shared} (I : Inv X P0 σ2 H s) (st : tn 0 s.heap) (hS : zu3 X.prog X.w s.heap D (zf1 ks)) (h0 : H D = none) (hf : ∀ b∈fp,H b = none) (w : W2 0 m ks H) :
  my2 (model X.prog X.w) X.A (.compLoop (.SetComp elt [⟨t1,i1,[],0⟩,⟨.Name x2 p2,i2,[],0⟩] scope pos) 1 (.ref it) (.ref D) X.env) R s:=by
 refine zM9 (fun n s=>∃ i ks H,Inv X P0 σ2 H s /\ tn i s.heap /\ zu3 X.prog X.w s.heap D (zf1 ks) /\ H D = none /\ (∀ b∈fp,H b = none) /\ W2 i n ks H) ?_ m ⟨0,ks,H,I,st,hS,h0,hf,w⟩;clear I st hS h0 hf w;intro n s gX;refine za0 fun gG=>?_;obtain ⟨i,ks,H,I,st,hS,h0,hf,w⟩:=gX;obtain ⟨hlen,step⟩:=hW i n ks H w;obtain ⟨oD,gD,cD⟩:=hS.obj;refine gG ?_;clear gG;have I1 : Inv X (P0++ze6 [D] s.heap) σ2 H s:=I.pinned (fp:=[D]) (fun b hb=>by simp at hb; subst hb; exact fD H h0) fun b hb=>by simp at hb; subst hb; exact ⟨oD,gD,cD⟩
 have f1 : ∀ b∈fp,zr8 X (P0++ze6 [D] s.heap) H b:=fun b hb=>((ff b hb).2 H (hf b hb)).more fun p hp=>by
  have:=(zg8 hp).1;simp at this;rw [this];exact (ff b hb).1.symm
 rcases step with ⟨stop,fin⟩ | ⟨go,step⟩
 ·refine thn (T.done X rfl rfl rfl hcm i _ s σ2 H _ I1 f1 st stop) fun r s1 zR=>?_;refine za0 fun gG=>?_;obtain ⟨hr,I2⟩:=zR;subst hr;refine gG ?_;clear gG;have g2:=I2.zn5 (b:=D) (by simp) gD;exact hR ks H s1 I2.zD3 (hS.move fun o e=>by rw [gD] at e; cases e; exact g2.1) h0 fin
 ·refine thn (T.item X rfl rfl rfl hcm i _ s σ2 H _ I1 f1 st go) fun r s1 zR=>?_;refine za0 fun gG=>?_;obtain ⟨u,hr,h1⟩:=zR;subst hr;refine gG ?_;clear gG;refine thn h1 fun _ s5 zR=>?_;refine za0 fun gG=>?_;obtain ⟨x,H5,I5,r5,y5,st5,fr5⟩:=zR;refine gG ?_;clear gG;have g5:=I5.zn5 (b:=D) (by simp) gD;have hS5 : zu3 X.prog X.w s5.heap D (zf1 ks):=hS.move fun o e=>by rw [gD] at e; cases e; exact g5.1
  have I6 : Inv X (P0++ze6 (D :: fp) s5.heap) σ2 H5 s5:=I5.zD3.pinned (fp:=D :: fp) (fun b hb=>by
   rcases by8.mp hb with e | hb
   ·subst e; exact fD H5 g5.2
   ·exact (ff b hb).2 H5 (fr5 b hb)) fun b hb=>by
   rcases by8.mp hb with e | hb
   ·subst e; exact ⟨oD,g5.1,cD⟩
   ·exact T.obj _ _ st5 b hb
  have a6:=hg _ s5 σ2 H5 x u (fun σ' H'=>σ' = σ2.set j2 (some x) /\ H' = H5) I6 r5 ⟨rfl,rfl⟩;rw [hxe] at a6;refine thn a6 fun _ s6 zR=>?_;refine za0 fun gG=>?_;obtain ⟨σ6,H6,I7,e1,e2⟩:=zR;refine gG ?_;clear gG;subst e1 e2;have a7:=he _ s6 _ H6 _ I7 (step x H6 y5);rw [hxe] at a7;refine thn a7 fun y s7 zR=>?_;refine za0 fun gG=>?_;obtain ⟨z,H7,I8,r7,k,hz,m',hm',w'⟩:=zR;subst hz;obtain ⟨t,rfl⟩:=r7;refine gG ?_;clear gG;have g8:=I8.zn5 (b:=D) by2 g5.1;have hS8 : zu3 X.prog X.w s7.heap D (zf1 ks):=hS5.move fun o e=>by rw [g5.1] at e; cases e; exact g8.1
  have hlen' : (zf1 ks).length + 1 < scanBound:=ny5 (Nat.succ_le_succ (za56 ks)) hlen;refine zM8 hS8 hlen' fun h' sb hS9=>?_;rw [<- zW5] at hS9
  have I9 : Inv X P0 σ2 H7 s7:=I8.zD3.weak (by simp) fun j v e=>by
   have : j ≠ j2:=fun z=>by subst z; rw [hσ] at e; cases e
   rw [cy8 (fy4 this)];exact e
  refine za0 fun gG=>?_;obtain ⟨q0,q1,q2,q3,q4,q5⟩:=fD H7 g8.2;refine gG ?_;clear gG;refine ⟨m',hm',i + 1,ks++[k],H7,I9.turned (t':=s7.toks + 1) (fun b o hb e=>(sb.2 b hb).trans e) q0 q1 q3 q4 q5,?_,hS9,g8.2,fun b hb=>?_,w'⟩
  ·refine T.keep _ _ _ st5 fun b hb o e=>(sb.2 b (ff b hb).1).trans (I8.zn5 (by1 _ hb) e).1
  ·refine za0 fun gG=>?_;obtain ⟨o,e,_⟩:=T.obj _ _ st5 b hb;refine gG ?_;clear gG;exact (I8.zn5 (by1 _ hb) e).2
end
def tSC2 (wi : TI) (O : List Str) (cap : List Nat) (j1 : Nat) (wi2 : TI) (j2 : Nat) (te : TE) : TE:=fun σ H Q=>wi σ H fun J1 H1=>∃ W : Nat->Nat->List Str->Hp->Prop,(∃ m,W 0 m [] H1) /\ ∀ i m ks H,W i m ks H ->
  ((J1.stop i H /\ ∀ l,H l = none->Q (.ref l) (upd H l (setO l (zf1 ks)))) \/
   (J1.go i H /\ ∀ x H',J1.yld i H x H'->wi2 ((zc0 O cap σ).set j1 (some x)) H' fun J2 H3=>∃ W2 : Nat->Nat->List Str->Hp->Prop,(∃ m',W2 0 m' ks H3) /\ ∀ i2 m2 ks2 H4,W2 i2 m2 ks2 H4->ks2.length + 1 < scanBound /\
     ((J2.stop i2 H4 /\ ∃ m',m' < m /\ W (i + 1) m' ks2 H4) \/ (J2.go i2 H4 /\ ∀ y H5,J2.yld i2 H4 y H5->te (((zc0 O cap σ).set j1 (some x)).set j2 (some y)) H5 fun z H7=>∃ k,z = .str k /\ ∃ m',m' < m2 /\ W2 (i2 + 1) m' (ks2++[k]) H7))))
section
variable {X : Cx} {iter i2 elt : Expr} {x1 x2 : Str} {p1 p2 : Pos} {scope : Scope} {pos : Pos} {wi wi2 : TI} {te : TE} {O F : List Str} {cap : List Nat} {j1 j2 : Nat}
theorem za61 (hc : X.calm = true) (S : zb7 X.N X.env.scope O F cap scope) (hj1 : j1 < O.length) (hj2 : j2 < O.length) (hj : j1 ≠ j2) (hi : PI X (.Name x1 p1) iter wi)
  (hg1 : ∀ cl C ex s H,PG (zb8 X (O++F) scope cl C ex s H) (.Name x1 p1) (zm8 j1)) (hg2 : ∀ cl C ex s H,PG (zb8 X (O++F) scope cl C ex s H) (.Name x2 p2) (zm8 j2))
  (hi2 : ∀ cl C ex s H,PI (zb8 X (O++F) scope cl C ex s H) (.Name x2 p2) i2 wi2) (he : ∀ cl C ex s H,PE (zb8 X (O++F) scope cl C ex s H) elt te)
  (hs : ∀ x,ey2 iter X.env x = pure x:=by intro _; rfl) (hs2 : ∀ env x,ey2 i2 env x = pure x:=by intro _ _; rfl) :
  PE X (.SetComp elt [⟨.Name x1 p1,iter,[],0⟩,⟨.Name x2 p2,i2,[],0⟩] scope pos) (tSC2 wi O cap j1 wi2 j2 te):=by
 intro pins s σ H Q I h;have hfr : ∀ y∈scope.names,y.2 = .free->∃ c,X.env.cells.lookup y.1 = some c:=fun y hy e=>I.ok.has y.1 (S.frees y hy e);rw [arm_eval_SetComp];refine wpAny_comprehension_free (use:=none) rfl hs (zq2 hfr) S.kind S.names (thn (hi pins s σ H _ I h) fun v s1 h1=>thn h1 fun itv s2 h2=>?_);refine zF8 h2 fun it fp tn J H2 e I2 T st2 f2 qR=>?_;refine za0 fun gG=>?_;obtain ⟨W,⟨m0,w0⟩,turn⟩:=qR;subst e;refine gG ?_;clear gG;refine zX2 fun led=>wpAny_newFunctionEnv S.nocell (by intro y hy; simp at hy) (fun h1 hns1 hsb1=>?_) S.kind;dsimp only at hns1 hsb1 ⊢;have hS0 : zu3 X.prog X.w (s2.heap.push { cls:=.type "set",dict:=none,data:=.set #[] 0 (.fresh 0 0 led) }) s2.heap.objs.size []:=zb72;generalize hH0 : s2.heap.push { cls:=.type "set",dict:=none,data:=.set #[] 0 (.fresh 0 0 led) } = h0 at hns1 hsb1 hS0 ⊢;have h0s : h0.objs.size = s2.heap.objs.size + 1:=by rw [<- hH0,sy4]
 have k0 : ∀ b o,s2.heap.get? b = some o->h0.get? b = some o:=fun b o e=>hH0 ▸ ay2 _ e;have k1 : ∀ b o,h0.get? b = some o->h1.get? b = some o:=fun b o e=>hsb1.extBut b o (cy1 (by6 e)) (ay2 _ e);have hDC : s2.heap.objs.size < h0.objs.size:=by rw [h0s]; exact ny8 _
 have hsC : s2.heap.objs.size <= h0.objs.size:=ly8 hDC
 have flt : ∀ b∈fp,b < s2.heap.objs.size:=fun b hb=>by
  refine za0 fun gG=>?_;obtain ⟨o,e,_⟩:=T.obj _ _ st2 b hb;refine gG ?_;clear gG;exact by6 e
 have Dfp : s2.heap.objs.size ∉ fp:=fun z=>my5 _ (flt _ z)
 have I3 : Inv (zb8 X (O++F) scope (zt7 X.env.cells scope.names []) h0.objs.size (s2.heap.objs.size :: fp) { s2 with heap:=h0 } H2) [] (zc0 O cap σ) H2 { s2 with heap:=h1,toks:=s2.toks + ([] : List (Str × Value)).length } :=
  I2.comp S f2 (T.obj _ _ st2) hsC s2.heap.objs.size (ay6 _) hDC rfl k0 k1 hns1
 generalize hX' : zb8 X (O++F) scope (zt7 X.env.cells scope.names []) h0.objs.size (s2.heap.objs.size :: fp) { s2 with heap:=h0 } H2 = X' at I3;have hg1' : PG X' (.Name x1 p1) (zm8 j1):=hX' ▸ hg1 _ _ _ _ _;have hg2' : PG X' (.Name x2 p2) (zm8 j2):=hX' ▸ hg2 _ _ _ _ _;have hi2' : PI X' (.Name x2 p2) i2 wi2:=hX' ▸ hi2 _ _ _ _ _;have he' : PE X' elt te:=hX' ▸ he _ _ _ _ _;have epn : X'.pn = []:=by rw [<- hX']; rfl
 have fpok : ∀ {H' : Hp} {b : Addr},b∈s2.heap.objs.size :: fp->H' b = none->zr8 X' [] H' b:=fun {H' b} hb hn=>by
  have hex : b∈X'.ex:=by rw [<- hX']; exact hb
  refine ⟨hn,(I3.ok.exf b hex).1,I3.ok.exfs b hex,.inl hex,(I3.ok.exf b hex).2,fun p hp=>?_⟩;rw [epn] at hp;exact absurd (show p∈([] : List (Addr × Obj)) from hp) (by simp)
 have eP : X'.prog = X.prog:=by rw [<- hX']; rfl
 have eW : X'.w = X.w:=by rw [<- hX']; rfl
 have eK : X'.K = X.K:=by rw [<- hX']; rfl
 have eA : X'.A = X.A:=by rw [<- hX']; rfl
 have eC : X'.calm = true:=by rw [<- hX']; exact hc
 have eE : X'.env = compEnvC scope (zt7 X.env.cells scope.names []) h0.objs.size X.env:=by rw [<- hX']; rfl
 have eX : X'.xe = fun _ _=>False:=by rw [<- hX']; rfl
 have loop : ∀ s3 : Shared,s3 = { s2 with heap:=h1,toks:=s2.toks + ([] : List (Str × Value)).length } ->
   my2 (model X.prog X.w) X.A (.compLoop (.SetComp elt [⟨.Name x1 p1,iter,[],0⟩,⟨.Name x2 p2,i2,[],0⟩] scope pos) 0 (.ref it) (.ref s2.heap.objs.size) (compEnvC scope (zt7 X.env.cells scope.names []) h0.objs.size X.env))
    (compPost (model X.prog X.w) X.A X.xe none (EP X pins σ Q) (.ref s2.heap.objs.size) h0.objs.size) s3:=by
  rintro s3 rfl
  refine zJ1 (hs2 _) (fun n s'=>∃ i ks H',Inv X' [] (zc0 O cap σ) H' s' /\ tn i s'.heap /\ (∀ b∈s2.heap.objs.size :: fp,H' b = none) /\ zu3 X.prog X.w s'.heap s2.heap.objs.size (zf1 ks) /\ W i n ks H') ?_ m0
   ⟨0,[],H2,I3,T.keep _ _ _ st2 (fun b _ o e=>k1 b o (k0 b o e)),fun b hb=>?_,hS0.move fun o e=>k1 _ _ e,w0⟩
  ·intro n s3 gX;refine za0 fun gG=>?_;obtain ⟨i,ks,H3,I3',st3,fr3,hS3,w3⟩:=gX;have step:=turn i n ks H3 w3;obtain ⟨oD,gD,cD⟩:=hS3.obj;refine gG ?_;clear gG;have hD3 : H3 s2.heap.objs.size = none:=fr3 _ by2
   have J3 : Inv X' ([]++ze6 [s2.heap.objs.size] s3.heap) (zc0 O cap σ) H3 s3:=I3'.pinned (fp:=[s2.heap.objs.size]) (fun b hb=>by
    have e : b = s2.heap.objs.size:=by simpa using hb
    subst e; exact fpok by2 hD3) fun b hb=>by
    have e : b = s2.heap.objs.size:=by simpa using hb
    subst e; exact ⟨oD,gD,cD⟩
   have fpJ : ∀ b∈fp,zr8 X' ([]++ze6 [s2.heap.objs.size] s3.heap) H3 b:=fun b hb=>(fpok (by1 _ hb) (fr3 b (by1 _ hb))).more fun p hp=>by
    have:=(zg8 hp).1;have e : p.1 = s2.heap.objs.size:=by simpa using this
    rw [e];exact fun z=>Dfp (z ▸ hb)
   rcases step with ⟨stop,q⟩ | ⟨go,step⟩
   ·have fin:=T.done X' eP eW eK eC i _ s3 (zc0 O cap σ) H3 (fun _ _=>False) J3 fpJ st3 stop;rw [eA] at fin;refine thn fin fun r s4 zR=>?_;refine za0 fun gG=>?_;obtain ⟨hr,J4⟩:=zR;subst hr;refine gG ?_;clear gG;have g4:=J4.zn5 (b:=s2.heap.objs.size) (by simp) gD;have hS4 : zu3 X.prog X.w s4.heap s2.heap.objs.size (zf1 ks):=hS3.move fun o e=>by rw [gD] at e; cases e; exact g4.1
    have I4 : Inv X' [] (zc0 O cap σ) H3 s4:=J4.zD3;refine za0 fun gG=>?_;obtain ⟨m,hm,_⟩:=id I4.loc;refine gG ?_;clear gG;rw [eE] at hm;refine ⟨m,hm,fun h' sb=>⟨.ref s2.heap.objs.size,upd H3 s2.heap.objs.size (setO s2.heap.objs.size (zf1 ks)),?_,rfl,q _ hD3⟩⟩;rw [<- hX'] at I4;refine I2.za60 f2 hsC (ay6 _) hDC k0 I4 hD3 (zd04 (hS4.move fun o e=>?_).x) sb;exact (sb.2 _ (cy1 hDC)).trans e
   ·have it3:=T.item X' eP eW eK eC i _ s3 (zc0 O cap σ) H3 (fun _ _=>False) J3 fpJ st3 go;rw [eA] at it3;refine thn it3 fun r s4 zR=>?_;refine za0 fun gG=>?_;obtain ⟨u,hr,h4⟩:=zR;subst hr;refine gG ?_;clear gG;refine thn h4 fun _ s5 zR=>?_;refine za0 fun gG=>?_;obtain ⟨x,H5,I5,r5,y5,st5,fr5⟩:=zR;refine gG ?_;clear gG;have g5:=I5.zn5 (b:=s2.heap.objs.size) (by simp) gD;have hS5 : zu3 X.prog X.w s5.heap s2.heap.objs.size (zf1 ks):=hS3.move fun o e=>by rw [gD] at e; cases e; exact g5.1
    have fr5' : ∀ b∈s2.heap.objs.size :: fp,H5 b = none:=fun b hb=>(by8.mp hb).elim (fun z=>by rw [z]; exact g5.2) (fr5 b)
    have ob5 : ∀ b∈s2.heap.objs.size :: fp,∃ o,s5.heap.get? b = some o /\ ∀ v,o.data ≠ .cell v:=fun b hb=>by
     rcases by8.mp hb with e | hb
     ·subst e; exact ⟨oD,g5.1,cD⟩
     ·exact T.obj _ _ st5 b hb
    have I5' : Inv X' ([]++ze6 (s2.heap.objs.size :: fp) s5.heap) (zc0 O cap σ) H5 s5:=I5.zD3.pinned (fp:=s2.heap.objs.size :: fp) (fun b hb=>fpok hb (fr5' b hb)) ob5;have a5:=hg1' _ s5 (zc0 O cap σ) H5 x u (fun σ' H'=>σ' = (zc0 O cap σ).set j1 (some x) /\ H' = H5) I5' r5 ⟨rfl,rfl⟩;rw [eP,eW,eA,eE,eX] at a5;refine thn a5 fun _ s6 zR=>?_;refine za0 fun gG=>?_;obtain ⟨σ6,H6,I6,e1,e2⟩:=zR;refine gG ?_;clear gG;subst e1 e2;have a6:=hi2' _ s6 _ H6 _ I6 (step x H6 y5);rw [eP,eW,eA,eE,eX] at a6;refine thn a6 fun v s7 h7=>thn h7 fun itv s8 h8=>?_;refine zF8 h8 fun it2 fp2 tn2 J2 H8 e I8 T2 st8 f8 qR=>?_;refine za0 fun gG=>?_;obtain ⟨W2,⟨m2,w8⟩,turn2⟩:=qR;subst e;refine gG ?_;clear gG
    have none_cmp : (zc0 O cap σ)[j2]? = some none:=by
     unfold zc0;rw [ay8 (by simpa using hj2),ay9,cy0 hj2];rfl
    have wk : ∀ (j : Nat) v,(zc0 O cap σ)[j]? = some (some v)->((zc0 O cap σ).set j1 (some x))[j]? = some (some v):=fun j v e=>by
     by_cases hjj : j1 = j
     ·subst hjj;exfalso;unfold zc0 at e;rw [ay8 (by simpa using hj1),ay9,cy0 hj1] at e;cases e
     ·rw [cy8 hjj]; exact e
    have I8' : Inv X' ([]++ze6 fp s5.heap) ((zc0 O cap σ).set j1 (some x)) H8 s8:=I8.zl5 fun p hp=>by
     obtain ⟨hb,e⟩:=zg8 (show p∈ze6 fp s5.heap from by simpa using hp);exact I8.pin p (dy0 _ (dy0 _ (ze3 (by1 _ hb) e)))
    have g8:=I8.zn5 (b:=s2.heap.objs.size) by2 g5.1;have hS8 : zu3 X.prog X.w s8.heap s2.heap.objs.size (zf1 ks):=hS5.move fun o e=>by rw [g5.1] at e; cases e; exact g8.1
    have inner : ∀ {s9 : Shared},s9 = s8->my2 (model X'.prog X'.w) X'.A (.compLoop (.SetComp elt [⟨.Name x1 p1,iter,[],0⟩,⟨.Name x2 p2,i2,[],0⟩] scope pos) 1 (.ref it2) (.ref s2.heap.objs.size) X'.env)
      (fun r s5=>match r with | .ok _=>∃ m,m < n /\ ∃ i ks H',Inv X' [] (zc0 O cap σ) H' s5 /\ tn i s5.heap /\ (∀ b∈s2.heap.objs.size :: fp,H' b = none) /\ zu3 X.prog X.w s5.heap s2.heap.objs.size (zf1 ks) /\ W i m ks H' | .error _=>False) s9:=by
     rintro s9 rfl;refine zX3 eX eC hg2' he' T2 (fun H' hn=>(fpok by2 hn).more fun p hp=>?_) (fun b hb=>⟨fun z=>?_,fun H' hn=>?_⟩) ?_ turn2 (fun ks2 H9 s9 I9 hS9 hD9 fin=>?_) I8' st8 (by rw [eP,eW]; exact hS8) g8.2 (fun b hb=>(f8 b hb).1) w8
     ·have:=(zg8 hp).1;exact fun z=>Dfp (z ▸ this)
     ·refine za0 fun gG=>?_;obtain ⟨_,_,_,_,_,q⟩:=f8 b hb;refine gG ?_;clear gG;exact q (s2.heap.objs.size,oD) (dy0 _ (dy0 _ (ze3 by2 g5.1))) z.symm
     ·refine za0 fun gG=>?_;obtain ⟨_,q1,q2,q3,q4,q5⟩:=f8 b hb;refine gG ?_;clear gG;refine ⟨hn,q1,q2,q3,q4,fun p hp=>?_⟩;rcases dy9.mp hp with z | z
      ·exact q5 p (iy6 _ z)
      ·obtain ⟨hb,e⟩:=zg8 (show p∈ze6 fp s5.heap from by simpa using z);exact q5 p (dy0 _ (dy0 _ (ze3 (by1 _ hb) e)))
     ·rw [cy8 hj]; exact none_cmp
     ·refine za0 fun gG=>?_;obtain ⟨m',hm',w9⟩:=fin;refine gG ?_;clear gG;rw [eP,eW] at hS9;refine ⟨m',hm',i + 1,ks2,H9,I9.zD3.weak (by simp) wk,T.keep _ _ _ st5 fun b hb o e=>(I9.zn5 hb e).1,fun b hb=>?_,hS9,w9⟩;rcases by8.mp hb with e | hb'
      ·rw [e]; exact hD9
      ·refine za0 fun gG=>?_;obtain ⟨o,e,_⟩:=T.obj _ _ st5 b hb';refine gG ?_;clear gG;exact (I9.zn5 hb' e).2
    rw [Around.mark_none];have in1:=inner (s9:=s8) rfl;rw [eP,eW,eA,eE] at in1;refine zh1 (g:=⟨.Name x2 p2,i2,[],0⟩) rfl rfl in1 ?_;have sf:=T2.self X.A 0 s8 (fun it' s'=>my2 (model X.prog X.w) X.A (.compLoop (.SetComp elt [⟨.Name x1 p1,iter,[],0⟩,⟨.Name x2 p2,i2,[],0⟩] scope pos) 1 it' (.ref s2.heap.objs.size) (compEnvC scope (zt7 X.env.cells scope.names []) h0.objs.size X.env)) _ s') (fun _ _=>False) st8 in1;rw [eP,eW] at sf;exact sf
  ·rcases by8.mp hb with e | hb
   ·rw [e]; exact I2.hok.fresh (ay6 _)
   ·exact (f2 b hb).1
 exact zh1 (g:=⟨.Name x1 p1,iter,[],0⟩) rfl rfl (loop _ rfl) (T.self _ 0 _ _ _ (T.keep _ _ _ st2 (fun b _ o e=>k1 b o (k0 b o e))) (loop _ rfl))
end
theorem za62 {K : ay4} {F1 : Hp} {A1 : List Addr} {a : Addr} {vs : List V} {ds : List PyData} (hv : SqT K F1 a vs) (z : Paired (fun d v=>Rq K F1 v d) ds vs) : Walks K 0 F1 A1 GT (Itt K a) ds:=by
 have hl : ∀ {F' A' W' H'},Ex1 0 F1 A1 F' A'->RW K F' A' W' H'->SqT K H' a vs:=fun x r'=>r'.sub.zt9 (x.same.zt9 hv);refine ⟨fun i F' A' W' H' hi x r' _=>?_,fun i F' A' W' H' y H'' hi x r' _ hy=>?_,fun F' A' W' H' x r' _=>?_⟩
 ·have hi' : i < vs.length:=by rw [<- zb2 z]; exact hi
  exact ⟨vs,vs[i],hl x r',by simp [hi']⟩
 ·refine za0 fun gG=>?_;obtain ⟨e,hy⟩:=hy;obtain ⟨d,h1,h2⟩:=zf3 z (hy vs (hl x r'));refine gG ?_;clear gG;exact ⟨e,d,h1,Rq.same x.same _ h2⟩
 ·exact ⟨vs,hl x r',by rw [<- zb2 z]; exact ay6 _⟩
section
variable {X : Bc} {S : Sl} {W : Wl} {k : KB} {iter i2 elt : Expr} {x1 x2 : Str} {p1 p2 : Pos} {scope : Scope} {O Fv : List Str} {cap : List Nat} {j1 j2 : Nat}
theorem zX4 {pn pos1 pos2 : Pos} (hc : X.calm = true) (hg : Gl X "sorted") (hm : X.mg "sorted" = none) (hv : ey9 "sorted" = some (.builtin "sorted")) (cs : zb7 X.N X.env.scope O Fv cap scope) (hN : (O++Fv).Nodup)
  (n1 : (O++Fv)[j1]? = some x1) (n2 : (O++Fv)[j2]? = some x2) (hj1 : j1 < O.length) (hj2 : j2 < O.length) (hj : j1 ≠ j2)
  (l1 : ∀ cl C ex s H,(zb8 X (O++Fv) scope cl C ex s H).env.scope.names.lookup x1 = some .local) (l2 : ∀ cl C ex s H,(zb8 X (O++Fv) scope cl C ex s H).env.scope.names.lookup x2 = some .local)
  (h : BI X S W (.Name x1 p1) iter fun m G ds W1=>G W1 /\ ∃ f : PyData->List Str,(∀ d∈ds,BEc X (O++Fv) scope ((zQ1 O cap S).set j1 (some (.d d))) W1 i2 fun y W2=>W2 = W1 /\ y = .d (.tuple ((f d).map .str))) /\
   (∀ d∈ds,∀ z∈f d,BEc X (O++Fv) scope (((zQ1 O cap S).set j1 (some (.d d))).set j2 (some (.d (.str z)))) W1 elt fun y W2=>W2 = W1 /\ y = .d (.str z)) /\ (ds.flatMap f).length + 1 < scanBound /\
   (zf1 (ds.flatMap f)).length < 64 /\ (zf1 (ds.flatMap f)).length ≠ 1 /\ ∀ ss' : List Str,ss'.Perm (zf1 (ds.flatMap f))->sortedS ss' = true->k (.o W1.length) (W1++[.lst (zb6 (ss'.map .str))]))
  (hs : ∀ x,ey2 iter X.env x = pure x:=by intro _; rfl) (hs2 : ∀ env x,ey2 i2 env x = pure x:=by intro _ _; rfl)
  (he : ey8 [.SetComp elt [⟨.Name x1 p1,iter,[],0⟩,⟨.Name x2 p2,i2,[],0⟩] scope pos2] X.env = [(false,eval (.SetComp elt [⟨.Name x1 p1,iter,[],0⟩,⟨.Name x2 p2,i2,[],0⟩] scope pos2) X.env)]:=by rfl) :
  BE X S W (.Call (.Name "sorted" pn) [.SetComp elt [⟨.Name x1 p1,iter,[],0⟩,⟨.Name x2 p2,i2,[],0⟩] scope pos2] [] pos1) k :=
 .of (zt6 (zI9 hc) hg hm hv (zm9 (za61 (wi2:=iTup X.K (zL9 X (O++Fv) scope i2)) (te:=zL9 X (O++Fv) scope elt) hc cs hj1 hj2 hj pi_U
   (fun cl C ex s H=>zu8 hN n1 (.inl (l1 cl C ex s H)) (.inr (l1 cl C ex s H))) (fun cl C ex s H=>zu8 hN n2 (.inl (l2 cl C ex s H)) (.inr (l2 cl C ex s H)))
   (fun cl C ex s H=>zc22 fun pins s' σ' H' Q I zR=>by obtain ⟨t,h,q⟩:=zR; exact h cl C ex s H pins s' σ' H' Q I q) (fun cl C ex s H=>fun pins s' σ' H' Q I zR=>by obtain ⟨t,h,q⟩:=zR; exact h cl C ex s H pins s' σ' H' Q I q) hs hs2) zz1 he) (by decide) (by decide) he rfl) fun F A σ H Q x0 r sr q=>by
  refine h F A σ H _ x0 r sr fun m G F1 A1 W1 H1 ds J e1 r1 hm1 wk zR=>?_;refine za0 fun gG=>?_;obtain ⟨hG,f,hi2,hel,few,h64,hn1,hk⟩:=zR;refine gG ?_;clear gG
  have flen : ∀ i,((ds.take i).flatMap f).length <= (ds.flatMap f).length:=fun i=>by
   conv=>rhs; rw [<- py4 i ds,List.flatMap_append,by5]
   omega
  refine ⟨fun i μ ks H'=>μ = ds.length - i /\ i <= ds.length /\ ks = (ds.take i).flatMap f /\ ∃ F' A',Ext F1 A1 F' A' /\ RW X.K F' A' W1 H',⟨_,rfl,dy7 _,rfl,F1,A1,.refl,r1⟩,?_⟩;intro i μ ks H' gX;refine za0 fun gG=>?_;obtain ⟨rfl,hi,rfl,F',A',x,r'⟩:=gX;refine gG ?_;clear gG
  by_cases hlt : i < ds.length
  ·refine .inr ⟨wk.go i F' A' W1 H' hlt (x.ex1 hm1) r' hG,fun v H'' hy=>?_⟩;refine za0 fun gG=>?_;obtain ⟨rfl,d,hd',zd⟩:=wk.yld i F' A' W1 H' v H'' hlt (x.ex1 hm1) r' hG hy;refine gG ?_;clear gG;have hdm : d∈ds:=cy3 hd';have sr1 : SR X.K F' A' ((zQ1 O cap S).set j1 (some (.d d))) ((zc0 O cap σ).set j1 (some v)):=((sr.ext (e1.trans x)).cmp).set (ElR.dd zd) j1;refine ⟨tD X _ W1 _,fun cl C ex s H=>hi2 d hdm cl C ex s H,F',A',(x0.trans e1).trans x,r',sr1,fun F2 A2 W2 H2 y vy e2 r2 z2 ⟨hW2,hy2⟩=>?_⟩;subst hW2 hy2;refine za0 fun gG=>?_;obtain ⟨a,vs,rfl,hq,zz⟩:=Rq.zh6 z2;refine gG ?_;clear gG;have wk2 : Walks X.K 0 F2 A2 GT (Itt X.K a) ((f d).map .str):=za62 hq zz;refine ⟨a,rfl,⟨vs,r2.sub.zt9 hq⟩,fun i2 μ2 ks2 H4=>μ2 = (f d).length - i2 /\ i2 <= (f d).length /\ ks2 = (ds.take i).flatMap f++(f d).take i2 /\ ∃ F' A',Ext F2 A2 F' A' /\ RW X.K F' A' W2 H4,⟨_,rfl,dy7 _,by simp,F2,A2,.refl,r2⟩,?_⟩;intro i2 μ2 ks2 H4 gX;refine za0 fun gG=>?_;obtain ⟨rfl,hi2',rfl,F4,A4,x4,r4⟩:=gX;refine gG ?_;clear gG
   have hsn : (ds.take (i + 1)).flatMap f = (ds.take i).flatMap f++f d:=by
    rw [ey7,hd',List.flatMap_append];simp
   refine ⟨?_,?_⟩
   ·have:=flen (i + 1);rw [hsn,by5] at this;rw [by5,dy3];omega
   ·by_cases hlt2 : i2 < (f d).length
    ·refine .inr ⟨wk2.go i2 F4 A4 W2 H4 (by simpa using hlt2) (x4.ex1 (dy7 _)) r4 trivial,fun u H5 hu=>?_⟩;refine za0 fun gG=>?_;obtain ⟨rfl,d2,hd2,zd2⟩:=wk2.yld i2 F4 A4 W2 H4 u H5 (by simpa using hlt2) (x4.ex1 (dy7 _)) r4 trivial hu;refine gG ?_;clear gG;rw [ay9,cy0 hlt2] at hd2;cases hd2;have sr2:=(sr1.ext (e2.trans x4)).set (ElR.dd zd2) j2;refine ⟨tD X _ W2 _,fun cl C ex s H=>hel d hdm _ (ry9 hlt2) cl C ex s H,F4,A4,(((x0.trans e1).trans x).trans e2).trans x4,r4,sr2,fun F6 A6 W6 H6 y vy e6 r6 z6 ⟨hW6,hy6⟩=>?_⟩;subst hW6 hy6;obtain rfl:=Rq.zg9 z6;refine ⟨(f d)[i2],rfl,_,by omega,rfl,hlt2,?_,F6,A6,x4.trans e6,r6⟩;rw [ey7,cy0 hlt2,ky2];rfl
    ·have hie : i2 = (f d).length:=by omega
     subst hie;refine .inl ⟨?_,_,?_,rfl,hlt,?_,F4,A4,(x.trans e2).trans x4,r4⟩
     ·have:=wk2.stop F4 A4 W2 H4 (x4.ex1 (dy7 _)) r4 trivial;simpa using this
     ·omega
     ·rw [hsn,gy0]
  ·have hie : i = ds.length:=by omega
   subst hie;refine .inl ⟨wk.stop F' A' W1 H' (x.ex1 hm1) r' hG,fun p hp=>?_⟩;rw [gy0];obtain ⟨r2,e2⟩:=r'.newF hp (setO p (zf1 (ds.flatMap f)));refine ⟨p,_,rfl,zb3,h64,hn1,fun l ss' hl p1 p2=>?_⟩;exact (((q.ext e1).ext x).ext e2).newO r2 hl (o:=.lst (zb6 (ss'.map .str))) ⟨_,rfl,zi2 zQ0⟩ (hk ss' p1 p2)
end
section
variable {X : Cx}
theorem set_dict (hu : X.A.units + 1 < cLine) : PSet X fun o i v H Q=>∃ a H',o = .ref a /\ DPut H a i v H' /\ Q H':=by
 intro pins s σ H o i v ov iv u Q I r1 r2 r3 ⟨a,H',e,g,q⟩;subst e;obtain rfl : ov = dy2 a:=r1;exact za51 hu I g r2 r3 fun s' I'=>⟨H',I',q⟩
theorem Inv.zf33 {pins : List (Addr × Obj)} {σ : St} {H : Hp} {s : Shared} {h' : Heap} {a : Addr} {o : HO} {t' : Nat} (I : Inv X pins σ H s) (k : ∀ b u,s.heap.get? b = some u->h'.get? b = some u) (hn : s.heap.get? a = none) (new : zb9 X.prog X.w (upd H a o) h' a o) :
  H a = none /\ Inv X pins σ (upd H a o) { s with heap:=h',toks:=t' }:=by
 have hH : H a = none:=by
  cases e : H a with
  | none=>rfl
  | some u =>
   obtain ⟨ob,z⟩:=zb9.at (I.hok a u e)
   rw [hn] at z;cases z
 have ne : ∀ b u,s.heap.get? b = some u->b ≠ a:=fun b u q z=>by rw [z,hn] at q; cases q
 refine ⟨hH,I.un ⟨fun b u q _ _ _=>k b u q,fun b u q _ _ _=>⟨u.slots,k b u q⟩,fun b u q n _=>by rw [za8 (ne b u q)]; exact n,fun b u q _=>⟨u,k b u q⟩,fun b xs q=>by rw [za8 (za6 q hH)]; exact q,fun b u xs q=>by rw [za8 (za6 q hH)]; exact q,fun b ps q=>⟨#[],by rw [za8 (za6 q hH),q]; simp⟩⟩ fun b u e=>?_⟩
 by_cases hb : b = a
 ·subst hb; rw [zb3] at e; cases e; exact new
 ·rw [za8 hb] at e;exact (I.hok b u e).zU0 (fun c v _ q=>k c v q) (fun c q=>by rw [za8 (za6 q hH)]; exact q) fun c xs q=>by rw [za8 (za6 q hH)]; exact q
end
def zF5 {κ : Type} [DecidableEq κ] (kvs : List (κ × El)) (k : κ) (e : El) : List (κ × El):=if (kvs.any fun kv=>decide (kv.1 = k)) = true then kvs.map (fun kv=>if kv.1 = k then (kv.1,e) else kv) else kvs++[(k,e)]
section
variable {K : ay4} {F : Hp} {A : List Addr} {κ : Type} [DecidableEq κ]
theorem ze39 {k : κ} {kvs : List (κ × El)} {vs : List (κ × V)} (p : Paired (fun p q=>p.1 = q.1 /\ ElR K F A p.2 q.2) kvs vs) : (kvs.any fun kv=>decide (kv.1 = k)) = (vs.any fun kv=>decide (kv.1 = k)):=by
 induction p with
 | nil=>rfl
 | cons h t ih=>simp only [ry3]; rw [ih,h.1]
theorem ze40 {k : κ} {e : El} {v : V} (he : ElR K F A e v) {kvs : List (κ × El)} {vs : List (κ × V)} (p : Paired (fun p q=>p.1 = q.1 /\ ElR K F A p.2 q.2) kvs vs) : Paired (fun p q=>p.1 = q.1 /\ ElR K F A p.2 q.2) (kvs.map fun kv=>if kv.1 = k then (kv.1,e) else kv) (vs.map fun kv=>if kv.1 = k then (kv.1,v) else kv):=by
 induction p with
 | nil=>exact .nil
 | @cons p q _ _ h t ih =>
  refine .cons ?_ ih
  by_cases hk : p.1 = k
  ·have hq : q.1 = k:=h.1 ▸ hk;simp only [hk,hq,if_true];exact ⟨trivial,he⟩
  ·have hq : ¬ q.1 = k:=h.1 ▸ hk;simp only [hk,hq,if_false];exact h
theorem za63 {k : κ} {e : El} {v : V} (he : ElR K F A e v) {kvs : List (κ × El)} {vs : List (κ × V)} (h : Paired (fun p q=>p.1 = q.1 /\ ElR K F A p.2 q.2) kvs vs) : Paired (fun p q=>p.1 = q.1 /\ ElR K F A p.2 q.2) (zF5 kvs k e) (putK vs k v):=by
 unfold zF5 putK;rw [ze39 h]
 split
 ·exact ze40 he h
 ·exact zo0 h (.cons ⟨rfl,he⟩ .nil)
end
section
variable {X : Bc} {S : Sl} {W : Wl} {k : KB}
theorem zb73 {j : Nat} {kvs : List (List Key × El)} {ks : List Key} {v : El} {k : Wl->Prop} (hu : X.A.units + 64 < cLine) (hj : W[j]? = some (.dT kvs)) (hl : kvs.length < by0) (h : k (W.set j (.dT (zF5 kvs ks v)))) : SB X (.o j) (.p ks) v W k :=
 fun F A H vo vi vv Q r zo zi zv q=>by
  refine za0 fun gG=>?_;obtain ⟨a,ha,rfl⟩:=zo;obtain ⟨u,e,ws,rfl,p⟩:=r.obj j a _ ha hj;obtain ⟨b,rfl,hb⟩:=zi;refine gG ?_;clear gG;exact ⟨_,set_dict (by omega),a,_,rfl,DPut.t (k:=ks) e (r.sub _ _ hb) (by rw [<- zb2 p]; exact hl),q F A _ _ .refl (r.put ha (o:=.dT (zF5 kvs ks v)) ⟨_,rfl,za63 zv p⟩) h⟩
end
section
variable {X : Bc} {n : Nat} {S : Sl} {W : Wl} {D : DB}
end
section
variable {X : Bc} {S : Sl} {W : Wl} {k : KB}
end
section
variable {X : Bc} {n : Nat} {S : Sl} {W : Wl} {D : DB} {tg : Expr}
end
section
variable {X : Cx} {e st : Expr} {te ts : TE} {p2 pos : Pos}
end
section
variable {X : Bc} {S : Sl} {W : Wl} {k : KB}
end
section
variable {X : Cx}
end
section
variable {X : Bc} {S : Sl} {W : Wl} {k : KB}
end
theorem zR3 (k j : List Key) (v : El) : ∀ kvs : List (List Key × El),zm6 (kvs.map fun kv=>if kv.1 = k then (kv.1,v) else kv) j = (zm6 kvs j).map fun x=>if j = k then v else x
 | []=>rfl
 | a :: kvs=>by
  have ih:=zR3 k j v kvs;unfold zm6 at ih ⊢;rw [ey6,hy0,hy0]
  by_cases ha : a.1 = k
  ·rw [if_pos ha]
   by_cases hj : a.1 = j
   ·have hjk : j = k:=hj.symm.trans ha;have d1 : decide ((a.1,v).1 = j) = true:=decide_eq_true hj;have d2 : decide (a.1 = j) = true:=decide_eq_true hj;rw [d1];show some v = some (if j = k then v else a.2);rw [if_pos hjk]
   ·simp only [hj,decide_false];exact ih
  ·rw [if_neg ha]
   by_cases hj : a.1 = j
   ·have : ¬ j = k:=fun z=>ha (hj.trans z);simp [hj,this]
   ·simp only [hj,decide_false];exact ih
theorem zR4 (k : List Key) : ∀ kvs : List (List Key × El),(kvs.any fun kv=>decide (kv.1 = k)) = (zm6 kvs k).isSome
 | []=>rfl
 | a :: kvs=>by
  have ih:=zR4 k kvs;unfold zm6 at ih ⊢;rw [ry3,hy0,ih]
  by_cases ha : a.1 = k
  ·simp [ha]
  ·simp [ha]
theorem zR5 (kvs : List (List Key × El)) (k j : List Key) (v : El) : zm6 (zF5 kvs k v) j = if j = k then some v else zm6 kvs j:=by
 unfold zF5;rw [zR4]
 split
 ·rename_i h
  rw [zR3]
  by_cases hj : j = k
  ·subst hj;obtain ⟨x,hx⟩:=Option.isSome_iff_exists.mp h;rw [hx]; simp
  ·simp [hj]
 ·rename_i h
  have hn : zm6 kvs k = none:=by
   cases e : zm6 kvs k with
   | none=>rfl
   | some x=>rw [e] at h; exact absurd rfl h
  by_cases hj : j = k
  ·subst hj;rw [if_pos rfl];unfold zm6 at hn ⊢;rw [List.find?_append];cases e : kvs.find? fun kv=>decide (kv.1 = j) with
   | none=>simp
   | some x=>rw [e] at hn; cases hn
  ·rw [if_neg hj];unfold zm6;rw [List.find?_append];have : ([(k,v)] : List (List Key × El)).find? (fun kv=>decide (kv.1 = j)) = none:=by simp [fy4 hj]
   rw [this];simp
theorem zb74 (kvs : List (List Key × El)) (k : List Key) (v : El) : (zF5 kvs k v).length <= kvs.length + 1:=by
 unfold zF5
 split <;> simp
end L2
namespace L2
open PySem PySem.Spec PyProof.Rows
open PySem.W
def Lr {α : Type} (n : Nat) (lt : Nat->Nat->Bool) : KasT α->(α->Prop)->Prop
 | .ret a,P=>P a
 | .ask i j k,P=>i < n /\ j < n /\ i ≠ j /\ Lr n lt (k (lt i j)) P
theorem Lr.mono {α : Type} {n : Nat} {lt : Nat->Nat->Bool} : ∀ {t : KasT α} {P Q : α->Prop},Lr n lt t P->(∀ a,P a->Q a)->Lr n lt t Q
 | .ret a,P,Q,h,f=>f a h
 | .ask i j k,P,Q,h,f=>⟨h.1,h.2.1,h.2.2.1,h.2.2.2.mono f⟩
theorem Lr.bind {α β : Type} {n : Nat} {lt : Nat->Nat->Bool} {f : α->KasT β} {Q : β->Prop} : ∀ {t : KasT α},Lr n lt t (fun a=>Lr n lt (f a) Q)->Lr n lt (KasT.bind t f) Q
 | .ret a,h=>h
 | .ask i j k,h=>⟨h.1,h.2.1,h.2.2.1,h.2.2.2.bind⟩
theorem Lr.wp {α : Type} {n : Nat} {lt : Nat->Nat->Bool} {cmp : Nat->Nat->(Bool->Shared->Prop)->Shared->Prop} {s : Shared} (hc : ∀ i j C,i < n->j < n->i ≠ j->C (lt i j) s->cmp i j C s) : ∀ {t : KasT α} {G : α->Shared->Prop},Lr n lt t (fun a=>G a s)->KasT.kasWp cmp t G s
 | .ret a,G,h=>h
 | .ask i j k,G,h=>by
  rw [KasT.kasWp.eq_2];exact hc i j _ h.1 h.2.1 h.2.2.1 (h.2.2.2.wp hc)
structure Ord (n : Nat) (lt : Nat->Nat->Bool) : Prop where
 asym : ∀ i j,i < n->j < n->lt i j = true->lt j i = false
 trans : ∀ i j k,i < n->j < n->k < n->lt i j = true->lt j k = true->lt i k = true
 tot : ∀ i j,i < n->j < n->i ≠ j->lt i j = false->lt j i = true
section
variable {n : Nat} {lt : Nat->Nat->Bool} {p : Array Nat}
abbrev gp (p : Array Nat) (x : Nat) : Nat:=Array.getD p x 0
theorem zn6 (p : Array Nat) (x : Nat) : gp p x = (p[x]?).getD 0:=by simp [gp,Array.getD_eq_getD_getElem?]
theorem Pm.size (h : Pm n p) : p.size = n:=by
 have:=h.size_eq;simpa using this
theorem Pm.inj (h : Pm n p) {x y : Nat} (hx : x < n) (hy : y < n) (e : gp p x = gp p y) : x = y:=by
 have hz:=h.size;have nd : p.toList.Nodup:=(Array.perm_iff_toList_perm.mp h).nodup_iff.mpr (by simpa using List.nodup_range);have e1 : ∀ z (hz' : z < n),gp p z = p.toList[z]'(by simpa [hz] using hz'):=fun z hz'=>by simp [gp,Array.getD,hz,hz']
 rw [e1 x hx,e1 y hy] at e;exact (jy8 nd).mp e
def Up (lt : Nat->Nat->Bool) (p : Array Nat) (m : Nat) : Prop:=∀ i j,i < j->j < m->lt (gp p i) (gp p j) = true
def Dn (lt : Nat->Nat->Bool) (p : Array Nat) (m : Nat) : Prop:=∀ i j,i < j->j < m->lt (gp p j) (gp p i) = true
theorem zc48 (h : Pm n p) {m : Nat} (hm : m <= n) (x : Nat) : gp (kas_rev p 0 m) x = if x < m then gp p (m - 1 - x) else gp p x:=by
 rw [zn6,zn6,zn6];unfold kas_rev;rw [getElem?_mirror_all (by rw [h.size]; exact hm)]
 by_cases hx : x < m
 ·rw [if_pos ⟨dy7 _,hx⟩,if_pos hx,show 0 + m - 1 - x = m - 1 - x by omega]
 ·rw [if_neg (fun z=>hx z.2),if_neg hx]
variable (hn : 0 < n) (O : Ord n lt)
include hn O
theorem za64 (h : Pm n p) : ∀ f x,1 <= x->x + f = n->Up lt p x->Lr n lt (kas_asc p f x) fun m=>x <= m /\ m <= n /\ Up lt p m /\ (m < n->lt (gp p m) (gp p (m - 1)) = true)
 | 0,x,h1,h2,hu=>by
  rw [kas_asc.eq_1];exact ⟨ay6 _,by omega,hu,fun z=>by omega⟩
 | f + 1,x,h1,h2,hu=>by
  rw [kas_asc.eq_2];have hne : gp p x ≠ gp p (x - 1):=fun z=>by have:=h.inj (by omega) (by omega) z; omega
  refine ⟨h.lt hn _,h.lt hn _,hne,?_⟩;dsimp only;cases hc : lt (gp p x) (gp p (x - 1)) with
  | true =>
   rw [if_pos rfl];exact ⟨ay6 _,by omega,hu,fun _=>hc⟩
  | false =>
   rw [if_neg (by decide)];have hup : lt (gp p (x - 1)) (gp p x) = true:=O.tot _ _ (h.lt hn _) (h.lt hn _) hne hc;refine (za64 h f (x + 1) (by omega) (by omega) fun i j a b=>?_).mono fun m zR=>by obtain ⟨m1,m2,m3,m4⟩:=zR; exact ⟨by omega,m2,m3,m4⟩
   by_cases hj : j < x
   ·exact hu i j a hj
   ·obtain rfl : j = x:=by omega
    by_cases hi : i = j - 1
    ·rw [hi]; exact hup
    ·exact O.trans _ _ _ (h.lt hn _) (h.lt hn _) (h.lt hn _) (hu i (j - 1) (by omega) (by omega)) hup
theorem za65 (h : Pm n p) : ∀ f x,2 <= x->x + f = n->Dn lt p x->Lr n lt (kas_desc f p x 0) fun r=>r.1 = p /\ r.2.2 = 0 /\ x <= r.2.1 /\ r.2.1 <= n /\ Dn lt p r.2.1
 | 0,x,h1,h2,hu=>by
  rw [kas_desc.eq_1];exact ⟨rfl,rfl,ay6 _,by show x <= n; omega,hu⟩
 | f + 1,x,h1,h2,hu=>by
  rw [kas_desc.eq_2];have hne : gp p x ≠ gp p (x - 1):=fun z=>by have:=h.inj (by omega) (by omega) z; omega
  refine ⟨h.lt hn _,h.lt hn _,hne,?_⟩;dsimp only;cases hc : lt (gp p x) (gp p (x - 1)) with
  | true =>
   rw [if_pos rfl,if_neg (by decide)];refine (za65 h f (x + 1) (by omega) (by omega) fun i j a b=>?_).mono fun r zR=>by obtain ⟨r1,r2,r3,r4,r5⟩:=zR; exact ⟨r1,r2,by omega,r4,r5⟩
   by_cases hj : j < x
   ·exact hu i j a hj
   ·obtain rfl : j = x:=by omega
    by_cases hi : i = j - 1
    ·rw [hi]; exact hc
    ·exact O.trans _ _ _ (h.lt hn _) (h.lt hn _) (h.lt hn _) hc (hu i (j - 1) (by omega) (by omega))
  | false =>
   rw [if_neg (by decide)];have hup : lt (gp p (x - 1)) (gp p x) = true:=O.tot _ _ (h.lt hn _) (h.lt hn _) hne hc;refine ⟨h.lt hn _,h.lt hn _,fy4 hne,?_⟩;dsimp only;rw [if_pos hup];exact ⟨rfl,rfl,ay6 _,by show x <= n; omega,hu⟩
theorem zb75 (h : Pm n p) {m : Nat} (hm : m <= n) (h1 : 1 <= m) (hd : Dn lt p m) : Lr n lt (kas_tail3 m n p) fun q=>Pm n q.2 /\ 1 <= q.1 /\ q.1 <= n /\ Up lt q.2 q.1:=by
 unfold kas_tail3;have hp:=h.rev 0 m;refine ((za64 hn O hp (n - m) m h1 (by omega) fun i j a b=>?_).mono fun l zR=>by obtain ⟨l1,l2,l3,_⟩:=zR; exact ⟨hp,by show 1 <= l; omega,l2,l3⟩).bind;rw [zc48 h hm,zc48 h hm,if_pos (by omega),if_pos b];exact hd _ _ (by omega) (by omega)
theorem zb76 (h : Pm n p) : Lr n lt (kas_count n p) fun q=>Pm n q.2 /\ 1 <= q.1 /\ q.1 <= n /\ Up lt q.2 q.1:=by
 unfold kas_count;refine ((za64 hn O h (n - 1) 1 (ay6 _) (by omega) fun i j a b=>by omega).mono fun m ⟨m1,m2,m3,m4⟩=>?_).bind
 split
 ·exact ⟨h,m1,m2,m3⟩
 ·rename_i hmn
  have hmn : m ≠ n:=by simpa using hmn
  split
  ·rename_i hm1
   refine ⟨h.lt hn _,h.lt hn _,fun z=>by have:=h.inj (by omega) (by omega) z; omega,?_⟩;dsimp only;rw [if_pos (m3 0 (m - 1) (by omega) (by omega))];exact ⟨h,m1,m2,m3⟩
  ·rename_i hm1
   obtain rfl : m = 1:=by omega
   unfold kas_descPart;refine ((za65 hn O h (n - (1 + 1)) (1 + 1) (by omega) (by omega) fun i j a b=>?_).mono fun r ⟨r1,r2,r3,r4,r5⟩=>?_).bind
   ·obtain rfl : i = 0:=by omega
    obtain rfl : j = 1:=by omega
    exact m4 (by omega)
   ·rw [if_neg (by rw [r2]; decide),r1];exact zb75 hn O h r4 (by omega) r5
theorem zD4 (h : Pm n p) {k : Nat} (hk : k < n) (hu : Up lt p k) : ∀ f l r,l <= r->r <= k->r - l <= f->(∀ i,i < l->lt (gp p i) (gp p k) = true)->(∀ i,r <= i->i < k->lt (gp p k) (gp p i) = true) ->
  Lr n lt (kas_place p k f l r) fun m=>m <= k /\ (∀ i,i < m->lt (gp p i) (gp p k) = true) /\ ∀ i,m <= i->i < k->lt (gp p k) (gp p i) = true
 | 0,l,r,h1,h2,h3,h4,h5=>by
  rw [kas_place.eq_1];obtain rfl : l = r:=by omega
  exact ⟨h2,h4,h5⟩
 | f + 1,l,r,h1,h2,h3,h4,h5=>by
  rw [kas_place.eq_2]
  split
  ·obtain rfl : l = r:=by omega
   exact ⟨h2,h4,h5⟩
  ·have hmid : l <= (l + r) / 2 /\ (l + r) / 2 < r:=by omega
   have hne : gp p k ≠ gp p ((l + r) / 2):=fun z=>by have:=h.inj hk (by omega) z; omega
   refine ⟨h.lt hn _,h.lt hn _,hne,?_⟩;dsimp only;cases hc : lt (gp p k) (gp p ((l + r) / 2)) with
   | true =>
    rw [if_pos rfl];refine zD4 h hk hu f l _ hmid.1 (by omega) (by omega) h4 fun i hi hik=>?_
    by_cases e : i = (l + r) / 2
    ·rw [e]; exact hc
    ·exact O.trans _ _ _ (h.lt hn _) (h.lt hn _) (h.lt hn _) hc (hu _ i (by omega) hik)
   | false =>
    rw [if_neg (by decide)];have hup : lt (gp p ((l + r) / 2)) (gp p k) = true:=O.tot _ _ (h.lt hn _) (h.lt hn _) hne hc;refine zD4 h hk hu f _ r (by omega) h2 (by omega) (fun i hi=>?_) h5
    by_cases e : i = (l + r) / 2
    ·rw [e]; exact hup
    ·exact O.trans _ _ _ (h.lt hn _) (h.lt hn _) (h.lt hn _) (hu i _ (by omega) (by omega)) hup
theorem zc49 : ∀ f {p : Array Nat} k,Pm n p->k + f = n->Up lt p k->Lr n lt (kas_bin f p k) fun q=>Pm n q /\ Up lt q n
 | 0,p,k,h,hk,hu=>by
  rw [kas_bin.eq_1];exact ⟨h,by rw [<- hk]; exact hu⟩
 | f + 1,p,k,h,hk,hu=>by
  rw [kas_bin.eq_2];have hkn : k < n:=by omega
  refine ((zD4 hn O h hkn hu k 0 k (dy7 _) (ay6 _) (by omega) (fun i hi=>by omega) (fun i a b=>by omega)).mono fun l ⟨l1,l2,l3⟩=>?_).bind;have hq : Pm n (bubble p k (k - l)):=(bubble_perm _ _ _).trans h
  have gb : ∀ x,gp (bubble p k (k - l)) x = if x = l then gp p k else if l < x /\ x <= k then gp p (x - 1) else gp p x:=fun x=>by
   rw [zn6,zn6,zn6,zn6,getElem?_bubble (by rw [h.size]; exact hkn) (k - l) (by omega)];rw [show k - (k - l) = l by omega]
   split
   ·rfl
   ·split <;> rfl
  refine zc49 f (k + 1) hq (by omega) fun i j a b=>?_;rw [gb,gb]
  by_cases e1 : i = l
  ·rw [if_pos e1,if_neg (show ¬ j = l by omega),if_pos (show l < j /\ j <= k by omega)];exact l3 (j - 1) (by omega) (by omega)
  ·rw [if_neg e1]
   by_cases e2 : l < i
   ·rw [if_pos (show l < i /\ i <= k by omega),if_neg (show ¬ j = l by omega),if_pos (show l < j /\ j <= k by omega)];exact hu _ _ (by omega) (by omega)
   ·rw [if_neg (show ¬ (l < i /\ i <= k) by omega)]
    by_cases e3 : j = l
    ·rw [if_pos e3];exact l2 i (by omega)
    ·rw [if_neg e3]
     by_cases e4 : l < j
     ·rw [if_pos (show l < j /\ j <= k by omega)];exact hu _ _ (by omega) (by omega)
     ·rw [if_neg (show ¬ (l < j /\ j <= k) by omega)];exact hu _ _ a (by omega)
theorem zd07 : Lr n lt (kas_sort n) fun q=>Pm n q /\ Up lt q n:=by
 unfold kas_sort;refine ((zb76 hn O (Array.Perm.refl _)).mono fun q ⟨q1,q2,q3,q4⟩=>?_).bind
 split
 ·rw [Nat.max_eq_left q2];exact zc49 hn O _ _ q1 (by omega) q4
 ·rename_i hq
  exact ⟨q1,by rw [show n = q.1 by omega]; exact q4⟩
end
section
variable {prog : cy6} {w : World} {A : Around} {E : Value->Shared->Prop} {s : Shared} {a : Addr} {vs : List Value} {n : Nat}
theorem za66 (vs : List Value) : (iy3 vs.length).map (fun i=>vs.getD i ey1) = vs:=by
 refine qy7 fun i=>?_;rw [ay9]
 by_cases h : i < vs.length
 ·rw [List.getElem?_range h,cy0 h];simp [sy1,h]
 ·rw [ny1 (by simpa using h),ny1 (by omega)];rfl
theorem zf34 {lt : Nat->Nat->Bool} {p : Array Nat} {n : Nat} (hz : p.size = n) (h : Up lt p n) : p.toList.Pairwise fun i j=>lt i j = true:=by
 rw [List.pairwise_iff_getElem];intro i j hi hj hij;have:=h i j hij (by rw [<- hz]; simpa using hj)
 have e : ∀ k (hk : k < p.toList.length),gp p k = p.toList[k]:=fun k hk=>by
  have hk' : k < p.size:=by simpa using hk
  simp [gp,Array.getD,hk']
 rw [e i hi,e j hj] at this;exact this
theorem zX5 {κ : SortKind} {lt : Nat->Nat->Bool} {P : PySem.Fin->Shared->Prop} (O : Ord vs.length lt) (ho : s.heap.get? a = some (seqObj "list" vs.toArray n)) (h64 : vs.length < 64)
    (hk : 2 <= vs.length->∀ (s' : Shared) (Q : SortKind->Shared->Prop),(∀ b o,b ≠ a->s.heap.get? b = some o->s'.heap.get? b = some o)->Q κ s'->wpAny (model prog w) A (keyKind' vs.toArray) Q E s')
    (hc : 2 <= vs.length->∀ (s' : Shared) i j (C : Bool->Shared->Prop),(∀ b o,b ≠ a->s.heap.get? b = some o->s'.heap.get? b = some o)->i < vs.length->j < vs.length->i ≠ j->C (lt i j) s'->kas_ask prog w A κ vs i j C s')
    (h : ∀ q : List Nat,q.Perm (iy3 vs.length)->q.Pairwise (fun i j=>lt i j = true)->P (Fin.done (Flow.ret ey1)) { s with heap:=sortedHeap s.heap a vs (q.map fun i=>vs.getD i ey1).toArray }) :
    wpAny (model prog w) A (qy4.«list.sort» { pos:=[dy2 a] }) P E s:=by
  rw [list_sort_plain a];have ha:=by6 ho;refine ay0 (listItems_at ho rfl (ay0 (listUpdate_at ho rfl ?_ (by rw [ny6]; simp; omega))));obtain ⟨e1,ho1⟩ : ∃ e1,(s.heap.update a (iy9 fun _=>#[])).get? a = some (seqObj "list" #[] e1):=⟨_,get?_update_seq ho fun _=>#[]⟩
  refine ay0 (seqEpoch_at ho1 rfl (ay0 (wpAny_newTuple (ay0 (wpAny_newList (fy3 ?_))))))
  have ho6 : (((s.heap.update a (iy9 fun x=>#[])).push (seqObj "tuple" vs.toArray 0)).push (seqObj "list" #[] 0)).get? a = some (seqObj "list" #[] e1):=by
    rw [Heap.get?_push_ne _ _ _ (by rw [size_push',Heap.size_update]; exact cy1 (vy0 ha)),Heap.get?_push_ne _ _ _ (by rw [Heap.size_update]; exact cy1 ha)];exact ho1
  have hkp : ∀ b o,b ≠ a->s.heap.get? b = some o->(((s.heap.update a (iy9 fun x=>#[])).push (seqObj "tuple" vs.toArray 0)).push (seqObj "list" #[] 0)).get? b = some o:=fun b o hb q =>
    ay2 _ (ay2 _ ((dy8 _ _ (fy4 hb)).trans q))
  generalize hS : ({ s with heap:=((s.heap.update a (iy9 fun x=>#[])).push (seqObj "tuple" vs.toArray 0)).push (seqObj "list" #[] 0) } : Shared) = S
  have last : ∀ (st' : SortSt) (R : PySem.Fin->Shared->Prop),failedOf st' = none->(arrOf st').size = vs.length->R (Fin.done (Flow.ret ey1)) { s with heap:=sortedHeap s.heap a vs (Array.map (fun x=>x.snd) (arrOf st')) } ->
     wpAny (model prog w) A (do
         let __do_lift <- seqEpoch a
         Builtin.List.listUpdate (dy2 a) fun x=>Array.map (fun x=>x.snd) (arrOf st')
         match failedOf st' with
           | some e=>do
             rule "list.sort.comparison-raised"
             throw e
             if (__do_lift != e1) = true then do
                 rule "list.sort.modified"
                 raiseErrorWords "ValueError" "list modified during sort"
                 ret ey1
               else ret ey1
           | x =>
             if (__do_lift != e1) = true then do
               rule "list.sort.modified"
               raiseErrorWords "ValueError" "list modified during sort"
               ret ey1
             else ret ey1) R E S:=by
    intro st' R hf hsz hR;subst hS;refine ay0 (seqEpoch_at ho6 rfl (ay0 (listUpdate_at ho6 rfl ?_ (by simp) (by rw [Array.size_map,hsz,ny6]; omega))));rw [hf];simp only [bne_self_eq_false,iy8,if_false];exact ay1 hR
  have hkp' : ∀ b o,b ≠ a->s.heap.get? b = some o->S.heap.get? b = some o:=by subst hS; exact hkp
  by_cases h2 : vs.toArray.size < 2
  · show wpAny _ _ (if vs.toArray.size < 2 then _ else _) _ _ S
    rw [if_pos h2];refine ay0 (ay1 ?_);rw [if_pos h2];show wpAny _ _ (StateT.run (pure ()) (SortSt.mk' general' (vs.toArray.zip vs.toArray) #[] 7 none) >>= _) _ _ S;rw [StateT.run_pure];refine ay0 (ay1 ?_);refine last (SortSt.mk' general' (vs.toArray.zip vs.toArray) #[] 7 none) _ rfl ?_ ?_
    · show (vs.toArray.zip vs.toArray).size = _
      simp
    · have e : Array.map (fun x : Keyed=>x.snd) (vs.toArray.zip vs.toArray) = ((iy3 vs.length).map fun i=>vs.getD i ey1).toArray:=by
        rw [za66];have:=congrArg List.toArray (zd06 vs)
        rwa [Array.toArray_toList] at this
      show P _ { s with heap:=sortedHeap s.heap a vs (Array.map (fun x : Keyed=>x.snd) (vs.toArray.zip vs.toArray)) };rw [e];refine h _ (.refl _) ?_;have h2' : vs.length < 2:=by simpa using h2
      rw [List.pairwise_iff_getElem];intro i j hi hj hij;simp at hj;omega
  · have h2' : 2 <= vs.length:=by simpa using h2
    show wpAny _ _ (if vs.toArray.size < 2 then _ else _) _ _ S;rw [if_neg h2];refine ay0 (hk h2' S _ hkp' ?_);rw [if_neg h2];refine ay0 (thn (kat_run (ks:=vs) (Q:=fun st' s'=>s' = S /\ failedOf st' = none /\ (arrOf st').size = vs.length /\ ∃ q : List Nat,q.Perm (iy3 vs.length) /\ q.Pairwise (fun i j=>lt i j = true) /\ Array.map (fun x=>x.snd) (arrOf st') = (q.map fun i=>vs.getD i ey1).toArray) (G:=fun p s'=>s' = S /\ Pm vs.length p /\ Up lt p vs.length) rfl h2' h64 (fun p st' s' hp harr hf hG=>?_) ((zd07 (by omega) O).mono (fun p hp=>⟨rfl,hp⟩) |>.wp fun i j C hi hj hij hC=>hc h2' S i j C hkp' hi hj hij hC)) fun r s' q=>?_)
    rotate_left
    · refine za0 fun gG=>?_
      obtain ⟨⟨⟩,st'⟩:=r;obtain ⟨rfl,q1,q2,q,q3,q4,q5⟩:=q;refine gG ?_;clear gG;refine last st' _ q1 q2 ?_;rw [q5];exact h q q3 q4
    refine za0 fun gG=>?_;obtain ⟨rfl,hG,hU⟩:=hG;refine gG ?_;clear gG;refine ⟨rfl,hf,by rw [harr,Array.size_map,hp],p.toList,by simpa using Array.perm_iff_toList_perm.mp hG,zf34 hp hU,?_⟩;rw [harr]
    have e : (Array.map (fun x=>x.snd) (Array.map (kas_item (vs.toArray.zip vs.toArray)) p)).toList = p.toList.map fun i=>vs.getD i ey1:=by
      simp only [Array.toList_map,gy1];refine ky7 fun i _=>?_;show (kas_item (vs.toArray.zip vs.toArray) i).2 = _;rw [kat_item rfl]
    rw [<- e]
end
def ltS (a b : Str) : Bool:=decide (a.cps.toList < b.cps.toList)
def ltQ (a b : Str × Str) : Bool:=if a.1 = b.1 then ltS a.2 b.2 else ltS a.1 b.1
theorem zD5 {a b : Str} (h : ltS a b = true) : ltS b a = false:=by
 unfold ltS at *;exact decide_eq_false fun z=>List.lt_asymm (of_decide_eq_true h) z
theorem zx2 {a b c : Str} (h : ltS a b = true) (h' : ltS b c = true) : ltS a c = true:=by
 unfold ltS at *;exact decide_eq_true (List.lt_trans (of_decide_eq_true h) (of_decide_eq_true h'))
theorem zN0 {a b : Str} (h : a ≠ b) (h' : ltS a b = false) : ltS b a = true:=by
 unfold ltS at *;have h1 : b.cps.toList <= a.cps.toList:=wy9.mp (of_decide_eq_false h')
 by_cases h2 : b.cps.toList < a.cps.toList
 ·exact decide_eq_true h2
 ·exact absurd (zQ8 (a:=a) (b:=b) h2 (of_decide_eq_false h')) h
theorem za67 (a : Str) : ltS a a = false:=by
 cases h : ltS a a with
 | false=>rfl
 | true=>rw [zD5 h] at h; cases h
theorem zb77 {a b : Str × Str} (h : ltQ a b = true) : ltQ b a = false:=by
 unfold ltQ at *
 by_cases e : a.1 = b.1
 ·rw [if_pos e] at h; rw [if_pos e.symm]; exact zD5 h
 ·rw [if_neg e] at h; rw [if_neg (fy4 e)]; exact zD5 h
theorem za68 {a b c : Str × Str} (h : ltQ a b = true) (h' : ltQ b c = true) : ltQ a c = true:=by
 unfold ltQ at *
 by_cases e : a.1 = b.1
 ·rw [if_pos e] at h
  by_cases e' : b.1 = c.1
  ·rw [if_pos e'] at h'; rw [if_pos (e.trans e')]; exact zx2 h h'
  ·rw [if_neg e'] at h'; rw [if_neg (by rw [e]; exact e'),e]; exact h'
 ·rw [if_neg e] at h
  by_cases e' : b.1 = c.1
  ·rw [if_pos e'] at h'; rw [if_neg (by rw [<- e']; exact e),<- e']; exact h
  ·rw [if_neg e'] at h';have h3:=zx2 h h';have : a.1 ≠ c.1:=fun z=>by rw [z,za67] at h3; cases h3
   rw [if_neg this]; exact h3
theorem zd08 {a b : Str × Str} (h : a ≠ b) (h' : ltQ a b = false) : ltQ b a = true:=by
 unfold ltQ at *
 by_cases e : a.1 = b.1
 ·rw [if_pos e] at h'; rw [if_pos e.symm];exact zN0 (fun z=>h (Prod.ext e z)) h'
 ·rw [if_neg e] at h'; rw [if_neg (fy4 e)];exact zN0 e h'
theorem zd09 {ks : List (Str × Str)} (nd : ks.Nodup) : Ord ks.length fun i j=>ltQ (ks.getD i default) (ks.getD j default) where
 asym:=fun i j _ _ h=>zb77 h
 trans:=fun i j k _ _ _ h h'=>za68 h h'
 tot:=fun i j hi hj hij h=>zd08 (fun z=>hij (by
  have e : ∀ k (hk : k < ks.length),ks.getD k default = ks[k]:=fun k hk=>by simp [sy1,hk]
  rw [e i hi,e j hj] at z
  exact (jy8 nd).mp z)) h
section
variable {prog : cy6} {w : World} {A : Around} {E : Value->Shared->Prop} {s : Shared}
theorem zd10 {x1 x2 y1 y2 : Str} {t1 t2 u1 u2 : Tok} {fin : Bool} {r : List (Value × Value)} {Q : Bool->Shared->Prop} (hne : (x1,x2) ≠ (y1,y2)) (h : Q (ltQ (x1,x2) (y1,y2)) s) : KatLex prog w A true fin Q ((.str x1 t1,.str y1 u1) :: (.str x2 t2,.str y2 u2) :: r) 0 s:=by
 rw [KatLex.eq_2];refine vy5 ?_
 by_cases e : x1 = y1
 ·rw [decide_eq_true e,if_pos rfl,KatLex.eq_2];refine vy5 ?_;have e2 : x2 ≠ y2:=fun z=>hne (by rw [e,z]);rw [decide_eq_false e2,if_neg (by decide)];refine kat_one _ _ (PySem.P.lt_str ?_);unfold ltQ at h;rw [if_pos e] at h;exact h
 ·rw [decide_eq_false e,if_neg (by decide)];refine strKind_oneLt prog w A _ s _ _ x1.cps.toList y1.cps.toList rfl rfl ?_;unfold ltQ at h;rw [if_neg e] at h;have : strKind.blt x1.cps.toList y1.cps.toList = ltS x1 y1:=rfl;rw [this];exact h
end
section
variable {P : cy6} {w : World} {A : Around} {E : Value->Shared->Prop} {s : Shared} {it d : Addr} {i ep : Nat} {es : Array my9}
def ItAt (h : Heap) (it d S : Addr) (i n ep : Nat) : Prop :=
 (∃ ok ov,IsItemIter h it d i n ep ok ov) \/ ∃ ok ov a f oa,KdxIt h it d i n ep ok ov a f /\ h.get? a = some oa /\ a ≠ it /\ a ≠ S
theorem zb78 {S : Addr} {Q : Option Value->Shared->Prop} (hh : A.handled = none) (hit : ItAt s.heap it d S i es.size ep) (hm : zJ0 s.heap d es ep) (hx : es.size <= i)
  (hQ : ∀ h',Heap.ExtBut it s.heap h'->Q none { s with heap:=h' }) : wpAny (model P w) A (pyNext (.ref it)) Q E s:=by
 refine za0 fun gG=>?_;obtain ⟨ob,b1,b2,b3⟩:=hm;refine gG ?_;clear gG
 obtain ⟨f0,f1,ok,ov,hI⟩ : ∃ f0 f1 ok ov,s.heap.get? it = some { cls:=.type "dict_itemiterator",dict:=none,data:=.fields #[f0,f1,.ref d,.int i 0,.int es.size 0,.int ep 0,ok,ov],slots:=#[] }:=by
  rcases hit with ⟨ok,ov,x⟩ | ⟨ok,ov,a,f,oa,x,y,z,u⟩
  ·exact ⟨_,_,ok,ov,x⟩
  ·exact ⟨_,_,ok,ov,x⟩
 have ty : s.TypeIs (.ref it) "dict_itemiterator" := ⟨_,hI,rfl⟩
 have own : gy4 "dict_itemiterator" = true:=by decide
 unfold pyNext;refine ay0 (py3 (ey5 (name:=ly9 "__next__") ty iy2 (dy6 iy2 ty F.entry_dict_itemiterator_next ?_ (F.args_dict_itemiterator_next_1 _))));refine ay0 (ay1 (ay0 (ay0 ?_)))
 first | refine ay0 (ny3 ty (ay1 ?_)) | refine ay0 (py8 ty (ay1 ?_))
 refine ay0 (sy9 hI rfl ?_);simp only [own,if_true];show wpAny _ _ (if (dy2 d == ey1) = true then _ else _) _ _ s;rw [if_neg (show ¬ ((dy2 d == ey1) = true) from by9)];refine ay0 (ay1 (ay0 (ky1 b1 b3 ?_)));rw [if_neg (by simp)];refine ay0 (ay1 (ay0 (ny2 b1 b3 ?_)));rw [if_neg (by simp)];refine ay1 ?_;simp only [show ¬ ((i : Int) < 0) from by omega,if_false,ky0,my4 hx];refine ay0 ?_
 first | refine ay0 (ny3 ty (ay1 ?_)) | refine ay0 (py8 ty (ay1 ?_))
 show wpAny _ _ (ty5 (.ref it) 2 .none >>= _) _ _ s;refine ay0 (jy9 hI rfl (by simp) ?_);refine zk3 (by simpa using hh) fun h' e k te=>?_;refine ay0 (py0 te isSubtype_stop ?_);exact ay1 (hQ _ fun b' o' hb q=>k _ _ ((dy8 _ _ (fy4 hb)).trans q))
theorem za69 {v : Addr} {Q : Value->Shared->Prop} (hv : s.heap.IsItemsView v d) (hm : zJ0 s.heap d es ep)
  (hQ : Q (.ref s.heap.objs.size) { s with heap:=s.heap.push { cls:=.type "dict_itemiterator",data:=.fields #[.none,.bool false,.ref d,.int 0 0,.int es.size 0,.int ep 0,.none,.none] } }) : wpAny (model P w) A (pyIter (.ref v)) Q E s:=by
 refine za0 fun gG=>?_;obtain ⟨vo,v1,v2,v3⟩:=id hv;obtain ⟨ob,b1,b2,b3⟩:=hm;refine gG ?_;clear gG;refine qy6 hv.typeIs F.slot_dict_items_iter (dy6 F.slot_dict_items_iter hv.typeIs F.entry_dict_items_iter ?_ (F.args_dict_items_iter_1 _));unfold Builtin.«dict_items.__iter__»;refine ay0 (ay1 (ay0 ?_));unfold Builtin.Dict_items.dictOf;refine ay0 (jy3 v1 v3 (x:=.ref d) rfl (ay1 (ay0 ?_)));unfold Builtin.Dict_items.newIterator;refine ay0 (ky1 b1 b3 (ay0 (ny2 b1 b3 ?_)));have own : gy4 "dict_itemiterator" = true:=by decide
 simp only [own,if_true];refine ey3 (ay1 ⟨_,rfl, "dict_itemiterator",_,⟨_,ay7 _ rfl,rfl⟩,iy2.lookup,?_⟩) (by simp only [sizeOk,wy1,by7,by5,hy8,List.length_nil,ny6]; omega);simpa [rawInt,wy1] using hQ
end
section
variable {P : cy6} {w : World} {A : Around} {E : Value->Shared->Prop} {s : Shared} {d : Addr} {ep : Nat} {es : Array my9}
abbrev zp2 (acc : Array Value) (c : Nat) : Obj:={ cls:=.type "list",dict:=none,data:=.seq acc c,slots:=#[] }
end
def za70 (v d : Addr) : HO:=.ext fun h=>h.IsItemsView v d
def IsT2 (h : Heap) (b : Addr) (p : Str × Str) : Prop:=∃ o n t u,h.get? b = some o /\ o.cls = .type "tuple" /\ o.data = .seq #[.str p.1 t,.str p.2 u] n
theorem IsT2.move {h h' : Heap} {b : Addr} {p : Str × Str} (x : IsT2 h b p) (k : ∀ o,h.get? b = some o->h'.get? b = some o) : IsT2 h' b p:=by
 refine za0 fun gG=>?_;obtain ⟨o,n,t,u,e,r⟩:=x;refine gG ?_;clear gG;exact ⟨o,n,t,u,k o e,r⟩
section
variable {prog : cy6} {w : World} {A : Around} {E : Value->Shared->Prop} {s : Shared}
end
section
variable {X : Cx}
end
section
variable {X : Cx}
end
section
variable {α : Type}
theorem zX6 [Inhabited α] {L : List α} {q : List Nat} (h : q.Perm (iy3 L.length)) : (q.map fun i=>L.getD i default).Perm L:=by
 have e : (iy3 L.length).map (fun i=>L.getD i default) = L:=by
  refine qy7 fun i=>?_;rw [ay9]
  by_cases hi : i < L.length
  ·rw [List.getElem?_range hi,cy0 hi];simp [sy1,hi]
  ·rw [ny1 (by simpa using hi),ny1 (by omega)];rfl
 exact (h.map _).trans (.of_eq e)
end
instance : Inhabited PyData:=⟨.none⟩
section
variable {X : Bc} {S : Sl} {W : Wl} {k : KB}
theorem RW.grown {K : ay4} {F : Hp} {A : List Addr} {W : Wl} {H H1 : Hp} (r : RW K F A W H) (s : zm1 H H1) : RW K F A W H1:=⟨r.sub.trans s,r.len,r.nd,r.out,fun k a o hk ho=>by
 refine za0 fun gG=>?_;obtain ⟨u,e,q⟩:=r.obj k a o hk ho;refine gG ?_;clear gG
 exact ⟨u,s _ _ e,q⟩⟩
end
end L2
namespace L2
open PySem PySem.Spec PyProof.Rows
section
variable {K : ay4} {F : Hp} {A : List Addr} {W : Wl} {H : Hp}
end
section
variable {X : Bc} {n : Nat} {S : Sl} {W : Wl} {D : DB}
end
section
variable {X : Bc} {S : Sl} {W : Wl} {scope : Scope}
end
section
variable {X : Bc} {S : Sl} {W : Wl} {k : KB}
theorem zN1 {a : Expr} {pos : Pos} (h : BE X S W a fun x W1=>∃ i,x = .d (.int i) /\ k (.d (.int (-i))) W1) : BE X S W (.UnaryOp .USub a pos) k :=
 .of (zf05 zd87 zi7) fun F A σ H Q x0 r sr q=>h.use x0 r sr fun F1 A1 W1 H1 x vx e1 r1 z1 zR=>by
  refine za0 fun gG=>?_;obtain ⟨i,hi,h1⟩:=zR;subst hi;refine gG ?_;clear gG;obtain rfl:=Rq.zd1 z1;exact ⟨i,rfl,(q.ext e1).same r1 (.dd (Rq.int _)) h1⟩
end
section
variable {prog : cy6} {w : World} {A : Around} {E : Value->Shared->Prop} {s : Shared}
end
section
variable {X : Cx} {e st : Expr} {te ts : TE} {p2 pos : Pos}
end
section
variable {X : Bc} {S : Sl} {W : Wl} {k : KB}
end
end L2
namespace L2
open PySem PySem.Spec PyProof.Rows
open PySem.W
section
variable {P : cy6} {w : World} {A : Around} {E : Value->Shared->Prop} {s : Shared} {it d : Addr} {i ep : Nat} {es : Array my9}
theorem zD6 {Q : Option Value->Shared->Prop} {en : my9} (hit : s.heap.IsValIter it d i es.size ep) (hm : zJ0 s.heap d es ep) (hx : es[i]? = some en)
  (hQ : ∀ h',h'.IsValIter it d (i + 1) es.size ep->fy0 it s.heap h'->Q (some en.val) { s with heap:=h' }) : wpAny (model P w) A (pyNext (.ref it)) Q E s:=by
 refine za0 fun gG=>?_;obtain ⟨o,c1,c2,c3⟩:=id hit;obtain ⟨b,b1,b2,b3⟩:=hm;refine gG ?_;clear gG;have ty:=hit.typeIs;unfold pyNext;refine ay0 (py3 (ey5 (name:=ly9 "__next__") ty ky5 (dy6 ky5 ty F.entry_dict_valueiterator_next ?_ (F.args_dict_valueiterator_next_1 _))));refine ay0 (ay1 (ay0 (ay0 ?_)))
 first | refine ay0 (oy0 ty (ay1 ?_)) | refine ay0 (ry0 ty (ay1 ?_))
 refine ay0 (sy9 c1 c3 ?_);have own : gy4 "dict_valueiterator" = false:=by decide
 simp only [own,iy8,if_false];show wpAny _ _ (if (dy2 d == ey1) = true then _ else _) _ _ s;rw [if_neg (show ¬ ((dy2 d == ey1) = true) from by9)];refine ay0 (ay1 (ay0 (ky1 b1 b3 ?_)));rw [if_neg (by simp)];refine ay0 (ay1 (ay0 (ny2 b1 b3 ?_)));rw [if_neg (by simp)];refine ay1 ?_;simp only [show ¬ ((i : Int) < 0) from by omega,if_false,ky0,hx];refine ay0 ?_
 first | refine ay0 (oy0 ty (ay1 ?_)) | refine ay0 (ry0 ty (ay1 ?_))
 refine ay0 (wpAny_isOneOf_valiter ty ?_);show wpAny _ _ (ty5 (.ref it) 1 (rawInt ((i : Int) + 1)) >>= _) _ _ s;refine ay0 (jy9 c1 c3 (by simp) ?_)
 have hit' : (s.heap.update it (uy9 (·.setIfInBounds 1 (rawInt ((i : Int) + 1))))).IsValIter it d (i + 1) es.size ep :=
  ⟨_,fy6 _ c1 (ny0 (hy1 c3 _)),(uy8 ..).trans c2,by rw [hy1 c3]; simp [rawInt]⟩
 have ty' : Shared.TypeIs { s with heap:=s.heap.update it (uy9 (·.setIfInBounds 1 (rawInt ((i : Int) + 1)))) } (.ref it) "dict_valueiterator" := hit'.typeIs;refine ay0 (fy3 (ay0 (wpAny_isOneOf_valiter ty' (ay0 (wpAny_isOneOf_valiter ty' ?_)))));show wpAny _ _ (pure en.val) _ _ _;exact ay1 (ay1 ⟨_,rfl,ay1 (hQ _ hit' (hy4 ..))⟩)
theorem zN2 {Q : Option Value->Shared->Prop} (hh : A.handled = none) (hit : s.heap.IsValIter it d i es.size ep) (hm : zJ0 s.heap d es ep) (hx : es.size <= i)
  (hQ : ∀ h',Heap.ExtBut it s.heap h'->Q none { s with heap:=h' }) : wpAny (model P w) A (pyNext (.ref it)) Q E s:=by
 refine za0 fun gG=>?_;obtain ⟨o,c1,c2,c3⟩:=id hit;obtain ⟨b,b1,b2,b3⟩:=hm;refine gG ?_;clear gG;have ty:=hit.typeIs;unfold pyNext;refine ay0 (py3 (ey5 (name:=ly9 "__next__") ty ky5 (dy6 ky5 ty F.entry_dict_valueiterator_next ?_ (F.args_dict_valueiterator_next_1 _))));refine ay0 (ay1 (ay0 (ay0 ?_)))
 first | refine ay0 (oy0 ty (ay1 ?_)) | refine ay0 (ry0 ty (ay1 ?_))
 refine ay0 (sy9 c1 c3 ?_);have own : gy4 "dict_valueiterator" = false:=by decide
 simp only [own,iy8,if_false];show wpAny _ _ (if (dy2 d == ey1) = true then _ else _) _ _ s;rw [if_neg (show ¬ ((dy2 d == ey1) = true) from by9)];refine ay0 (ay1 (ay0 (ky1 b1 b3 ?_)));rw [if_neg (by simp)];refine ay0 (ay1 (ay0 (ny2 b1 b3 ?_)));rw [if_neg (by simp)];refine ay1 ?_;simp only [show ¬ ((i : Int) < 0) from by omega,if_false,ky0,my4 hx];refine ay0 ?_
 first | refine ay0 (oy0 ty (ay1 ?_)) | refine ay0 (ry0 ty (ay1 ?_))
 show wpAny _ _ (ty5 (.ref it) 0 .none >>= _) _ _ s;refine ay0 (jy9 c1 c3 (by simp) ?_);refine zk3 (by simpa using hh) fun h' e k te=>?_;refine ay0 (py0 te isSubtype_stop ?_);exact ay1 (hQ _ fun b' o' hb q=>k _ _ ((dy8 _ _ (fy4 hb)).trans q))
theorem zD7 {v : Addr} {Q : Value->Shared->Prop} (hv : s.heap.IsValuesView v d) (hm : zJ0 s.heap d es ep)
  (hQ : Q (.ref s.heap.objs.size) { s with heap:=s.heap.push { cls:=.type "dict_valueiterator",data:=.fields #[.ref d,.int 0 0,.int es.size 0,.int ep 0] } }) : wpAny (model P w) A (pyIter (.ref v)) Q E s:=by
 refine za0 fun gG=>?_;obtain ⟨vo,v1,v2,v3⟩:=id hv;obtain ⟨b,b1,b2,b3⟩:=hm;refine gG ?_;clear gG;refine qy6 hv.typeIs F.slot_dict_values_iter (dy6 F.slot_dict_values_iter hv.typeIs F.entry_dict_values_iter ?_ (F.args_dict_values_iter_1 _));unfold Builtin.«dict_values.__iter__»;refine ay0 (ay1 (ay0 ?_));unfold Builtin.Dict_items.dictOf;refine ay0 (jy3 v1 v3 (x:=.ref d) rfl (ay1 (ay0 ?_)));unfold Builtin.Dict_items.newIterator;refine ay0 (ky1 b1 b3 (ay0 (ny2 b1 b3 ?_)));have own : gy4 "dict_valueiterator" = false:=by decide
 simp only [own,iy8,if_false];refine ey3 (ay1 ⟨_,rfl, "dict_valueiterator",_,⟨_,ay7 _ rfl,rfl⟩,ky5.lookup,?_⟩);simpa [rawInt] using hQ
end
def zj5 (v d : Addr) : HO:=.ext fun h=>h.IsValuesView v d
def ItV (d : Addr) (o : Obj) : It:=⟨fun i H=>∃ vs,H d = some (.frz o (.dT vs)) /\ i < vs.length,fun i H x H'=>H' = H /\ ∀ vs,H d = some (.frz o (.dT vs))->∃ p,vs[i]? = some p /\ x = p.2,fun i H=>∃ vs,H d = some (.frz o (.dT vs)) /\ vs.length <= i⟩
theorem zk8 {P : cy6} {w : World} {H : Hp} {h : Heap} {d : Addr} {o : Obj} {vs : List (List Key × V)} (x : zb9 P w H h d (.frz o (.dT vs))) : h.get? d = some o /\ (d == ly6) = false /\ ∃ es ep,o.ExactDict /\ o.data = .dict es ep /\ es.size = vs.length /\ ∀ (i : Nat) p,vs[i]? = some p->∃ en,es[i]? = some en /\ RelV p.2 en.val:=by
 refine za0 fun gG=>?_;obtain ⟨hg,_,hs,xs,pr,o',es,ep,h1,h2,h3,h4,h5⟩:=x;refine gG ?_;clear gG;rw [hg] at h1;cases h1;refine ⟨hg,hs,es,ep,h2,h3,by rw [size_of_entries h4,pr.length],fun i p hp=>?_⟩;refine za0 fun gG=>?_;obtain ⟨q,hq,_,_,e3⟩:=zi8 pr hp;refine gG ?_;clear gG;exact ⟨_,by rw [entry_at h4,hq]; rfl,e3⟩
theorem za71 {P : cy6} {w : World} {K : ay4} {tg : Expr} {d : Addr} {o : Obj} {es : Array my9} {ep : Nat} (it : Addr) (hd : o.data = .dict es ep) :
  Turn P w K tg (ItV d o) [it] it (fun i h=>h.IsValIter it d i es.size ep) where
 mem:=by simp
 obj:=fun i h st b hb=>by
  have e : b = it:=by simpa using hb
  subst e;refine za0 fun gG=>?_;obtain ⟨o,e,c,d⟩:=st;refine gG ?_;clear gG;exact ⟨o,e,fun v z=>by rw [d] at z; cases z⟩
 keep:=fun i h h' st k=>by
  refine za0 fun gG=>?_;obtain ⟨o,e,r⟩:=st;refine gG ?_;clear gG;exact ⟨o,k it (by simp) o e,r⟩
 item:=by
  intro X hP hw hK hcm i pins s σ H E I hf st hg;subst hP hw hK;refine za0 fun gG=>?_;obtain ⟨f0,f1,f2,f3,f4,f5⟩:=hf it (by simp);obtain ⟨vs,hu,hi⟩:=hg;obtain ⟨hget,hs,es',ep',g1,g2,g3,g4⟩:=zk8 (show zb9 X.prog X.w H s.heap d (.frz o (.dT vs)) from I.hok d _ hu);refine gG ?_;clear gG;rw [hd] at g2;cases g2;refine za0 fun gG=>?_;obtain ⟨en,hen,rv⟩:=g4 i vs[i] (cy0 hi);refine gG ?_;clear gG;refine zD6 st ⟨o,hget,g1,hd⟩ hen fun h' hit' hs'=>?_;have I1 : Inv X pins σ H { s with heap:=h' }:=I.turned (t':=s.toks) (fun b o hb e=>hs'.extBut b o hb e) f0 f1 f3 f4 f5;refine za0 fun gG=>?_;obtain ⟨o',e,c,dd⟩:=id hit';refine gG ?_;clear gG
  exact ⟨_,rfl,zU3 (s:={ s with heap:=h' }) e c dd (by decide) ⟨vs[i].2,H,I1,rv,⟨rfl,fun vs' hv'=>by
   rw [hu] at hv';cases hv'
   exact ⟨_,cy0 hi,rfl⟩⟩,hit',fun b hb=>(hf b hb).1⟩⟩
 done:=by
  intro X hP hw hK hcm i pins s σ H E I hf st hg;subst hP hw hK;refine za0 fun gG=>?_;obtain ⟨f0,f1,f2,f3,f4,f5⟩:=hf it (by simp);obtain ⟨vs,hu,hi⟩:=hg;obtain ⟨hget,hs,es',ep',g1,g2,g3,g4⟩:=zk8 (show zb9 X.prog X.w H s.heap d (.frz o (.dT vs)) from I.hok d _ hu);refine gG ?_;clear gG;rw [hd] at g2;cases g2;exact zN2 (I.ok.hd hcm) st ⟨o,hget,g1,hd⟩ (by omega) fun h' eb=>⟨rfl,I.turned (t':=s.toks) (fun b o hb e=>eb b o hb e) f0 f1 f3 f4 f5⟩
 self:=fun _ _ _ _ _ st h=>wpAny_pyIter_valiter st h
section
variable {X : Cx} {tg : Expr}
theorem zd12 {o : Expr} {to : TE} {apos cpos : Pos} (ho : PE X o to) (hbase : oy1 o "values" X.env (eval o X.env) = eval o X.env:=by rfl) (hline : (apos.endLine == cpos.line) = true:=by rfl) :
  PE X (.Call (.Attribute o "values" apos) [] [] cpos) (fun σ H Q=>to σ H fun x H1=>∃ d ob vs,x = .ref d /\ H1 d = some (.frz ob (.dT vs)) /\ ∀ v,H1 v = none->Q (.ref v) (upd H1 v (zj5 v d))):=by
 intro pins s σ H Q I h;refine wpAny_Call_method0_late hbase hline (thn (ho pins s σ H _ I h) fun v s1 ⟨x,H1,I1,r1,d,ob,vs,hx,hd,q⟩=>?_);subst hx;cases r1;refine za0 fun gG=>?_;obtain ⟨hget,hs,es,ep,g1,g2,_⟩:=zk8 (show zb9 X.prog X.w H1 s1.heap d (.frz ob (.dT vs)) from I1.hok d _ hd);refine gG ?_;clear gG;have ty : s1.TypeIs (.ref d) "dict" := ⟨ob,hget,g1.1⟩
 refine ⟨"dict", "dict.values",iy1,ry1,PySem.F.type_dict_values,ty,fun a e=>by cases e; exact ⟨ob,hget,g1.2.1⟩,ty2 rfl (PySem.evalArgs_none ?_)⟩;refine dy6 ry1 ty PySem.F.entry_dict_values ?_ (PySem.F.args_dict_values_1 _);refine ay0 ?_;unfold Builtin.Dict.noArgs;refine ay0 (py1 ty ?_);show wpAny _ _ (pure d) _ _ s1;refine ay1 ?_;show wpAny _ _ (jy6 d >>= _) _ _ s1;unfold Builtin.Dict.showsAll;rw [if_neg (by rw [hs]; exact by9)];refine ay0 (ay1 (ay0 (ey3 (ay1 ⟨_,rfl,?_⟩))));refine ⟨.ref s1.heap.objs.size,_,I1.laid (t':=s1.toks) (o:=zj5 s1.heap.objs.size d) (fun b u q=>ay2 _ q) (ay6 _) ?_,rfl,q _ (I1.hok.fresh (ay6 _))⟩;exact ⟨⟨_,ay7 _ rfl,rfl,rfl⟩,⟨_,ay7 _ rfl⟩,fun h1 h2 ⟨o,a,b,c⟩ k=>⟨o,k o a,b,c⟩⟩
theorem zd13 {l : Expr} {tl : TE} (hl : PE X l tl) : PI X tg l (fun σ H R=>tl σ H fun v H1=>∃ vw d o vs,v = .ref vw /\ H1 vw = some (zj5 vw d) /\ H1 d = some (.frz o (.dT vs)) /\ R (ItV d o) H1):=by
 intro pins s σ H R I h;refine thn (hl pins s σ H _ I h) fun v s1 zR=>?_;refine za0 fun gG=>?_;obtain ⟨y,H1,I1,r1,vw,d,o,vs,hy,hv,hd,q⟩:=zR;subst hy;refine gG ?_;clear gG;cases r1;refine za0 fun gG=>?_;obtain ⟨hvw,_,_⟩:=(show zb9 X.prog X.w H1 s1.heap vw (zj5 vw d) from I1.hok vw _ hv)
 obtain ⟨hget,hs,es,ep,g1,g2,_⟩:=zk8 (show zb9 X.prog X.w H1 s1.heap d (.frz o (.dT vs)) from I1.hok d _ hd);refine gG ?_;clear gG;refine zD7 hvw ⟨o,hget,g1,g2⟩ ?_;refine ⟨s1.heap.objs.size,[s1.heap.objs.size],_,_,H1,rfl,I1.kept (t':=s1.toks) fun b o e=>ay2 _ e,za71 _ g2,⟨_,ay7 _ rfl,rfl,rfl⟩,fun b hb=>?_,q⟩;have e : b = s1.heap.objs.size:=by simpa using hb
 subst e;exact I1.fpOk (ay6 _) (I1.hok.fresh (ay6 _))
end
section
variable {X : Bc} {S : Sl} {W : Wl} {k : KB}
theorem zd14 {tg o : Expr} {apos cpos : Pos} {ki : Nat->(Wl->Prop)->List PyData->Wl->Prop} (h : BE X S W o fun y W1=>∃ (j : Nat) (ob : Obj) (L : List (List Key × PyData)),y = .o j /\ W1[j]? = some (.fT ob (L.map fun e=>(e.1,El.d e.2))) /\ ki (j + 1) (fun W'=>W'[j]? = some (.fT ob (L.map fun e=>(e.1,El.d e.2)))) (L.map (·.2)) W1)
  (hbase : oy1 o "values" X.env (eval o X.env) = eval o X.env:=by rfl) (hline : (apos.endLine == cpos.line) = true:=by rfl) : BI X S W tg (.Call (.Attribute o "values" apos) [] [] cpos) ki:=fun F A σ H R x0 r sr q =>
 ⟨_,zd13 (zd12 zi7 hbase hline),h.use x0 r sr fun F1 A1 W1 H1 y vy e1 r1 z1 zR=>by
  refine za0 fun gG=>?_;obtain ⟨j,ob,L,hy,hj,h1⟩:=zR;subst hy;obtain ⟨a,ha,rfl⟩:=z1;have hja : j < A1.length:=(ay3.mp ha).1
  have ha' : ∀ {F' A'},Ex1 (j + 1) F1 A1 F' A'->A'[j]? = some a:=fun {F' A'} x=>by
   have e:=zo4 x.pre (by omega);have:=congrArg (fun l=>l[j]?) e;simp only [gy9 (ny8 j)] at this;rw [this]; exact ha
  obtain ⟨u0,e0,vs0,⟨rfl,ki0⟩,p0⟩:=r1.obj j a _ ha hj;refine gG ?_;clear gG;refine ⟨a,ob,vs0,rfl,e0,fun v hv=>⟨v,a,ob,vs0,rfl,zb3,by rw [za8 (za6 e0 hv)]; exact e0,?_⟩⟩;have r2 : RW X.K F1 A1 W1 (upd H1 v (zj5 v a)):=r1.grown (zk0 hv)
  have key : ∀ {F' A' W' H'},Ex1 (j + 1) F1 A1 F' A'->RW X.K F' A' W' H'->W'[j]? = some (.fT ob (L.map fun e=>(e.1,El.d e.2)))->∃ vs,H' a = some (.frz ob (.dT vs)) /\ Paired (fun p q=>p.1 = q.1 /\ ElR X.K F' A' p.2 q.2) (L.map fun e=>(e.1,El.d e.2)) vs:=fun x r' hG=>by
   refine za0 fun gG=>?_;obtain ⟨u,e,vs,⟨rfl,_⟩,p⟩:=r'.obj j a _ (ha' x) hG;refine gG ?_;clear gG;exact ⟨vs,e,p⟩
  refine q (j + 1) _ F1 A1 W1 _ _ _ e1 r2 hja ⟨fun i F' A' W' H' hi x r' hG=>?_,fun i F' A' W' H' y H'' hi x r' hG hy=>?_,fun F' A' W' H' x r' hG=>?_⟩ h1
  ·refine za0 fun gG=>?_;obtain ⟨vs,e,p⟩:=key x r' hG;refine gG ?_;clear gG;refine ⟨vs,e,?_⟩;have:=zb2 p;rw [ay5] at this hi;omega
  ·refine za0 fun gG=>?_;obtain ⟨vs,e,p⟩:=key x r' hG;obtain ⟨e',hy⟩:=hy;obtain ⟨pp,hp,rfl⟩:=hy vs e;obtain ⟨b,hb,zb⟩:=zf3 p hp;rw [ay9] at hb;obtain ⟨l,hl,rfl⟩:=gy8.mp hb;refine gG ?_;clear gG;exact ⟨e',l.2,by rw [ay9,hl]; rfl,zb.2⟩
  ·refine za0 fun gG=>?_;obtain ⟨vs,e,p⟩:=key x r' hG;refine gG ?_;clear gG;refine ⟨vs,e,?_⟩;have:=zb2 p;rw [ay5] at this ⊢
   omega⟩
end
section
variable {P : cy6} {w : World} {A : Around} {E : Value->Shared->Prop} {s : Shared} {d : Addr} {ep : Nat} {es : Array my9}
theorem zb79 {S I : Addr} {R : Result->Shared->Prop} (hh : A.handled = none) (hSI : S ≠ I) (hSd : d ≠ S) (hId : d ≠ I) (hn : es.size <= by0) (res : Value) {h1 : Heap}
  (hR : ∀ h' tk c,(∀ b o,b ≠ S->b ≠ I->h1.get? b = some o->h'.get? b = some o)->h'.get? S = some (zp2 (es.toList.map (·.key)).toArray c)->R (.ok (.ret res)) { s with heap:=h',toks:=tk }) :
  ∀ (k i : Nat) (h : Heap) (tk c : Nat),i + k = es.size->h.IsKeyIter I d i es.size ep->zJ0 h d es ep->(∀ b o,b ≠ S->b ≠ I->h1.get? b = some o->h.get? b = some o) ->
   h.get? S = some (zp2 ((es.toList.take i).map (·.key)).toArray c)->my2 (model P w) A (.builtin "list.extend.loop" ⟨[.ref S,.ref I,res],[]⟩) R { s with heap:=h,toks:=tk }:=by
 intro k
 induction k with
 | zero =>
  intro i h tk c hk hst hD hkeep hS;refine jy5 PySem.F.entry_extend_loop ?_;rw [gy3 iy5 _];show wpAny _ A.in1 (pyNext (.ref I) >>= _) _ _ _;refine ay0 (zd05 (s:={ s with heap:=h,toks:=tk }) (A:=A.in1) hh hst hD (by omega) fun h' he=>?_);rw [hy7 (by rw [iy0]; omega)] at hS;exact ay1 (hR h' tk c (fun b o z1 z2 e=>he b o z2 (hkeep b o z1 z2 e)) (he S _ hSI hS))
 | succ k ih =>
  intro i h tk c hk hst hD hkeep hS;have hlt : i < es.size:=by omega
  obtain ⟨en,hx⟩ : ∃ p,es[i]? = some p:=⟨es[i],py6 hlt⟩
  refine jy5 PySem.F.entry_extend_loop ?_;rw [gy3 iy5 _];show wpAny _ A.in1 (pyNext (.ref I) >>= _) _ _ _;refine ay0 (zb70 (s:={ s with heap:=h,toks:=tk }) hst hD hx fun h' hst' hs'=>?_);have hkp : ∀ b o,b ≠ I->h.get? b = some o->h'.get? b = some o:=fun b o hb e=>hs'.extBut b o hb e;have hS':=hkp S _ hSI hS;have up : ∀ b o,b ≠ S->h'.get? b = some o->(h'.update S (iy9 (·.push en.key))).get? b = some o:=fun b o hb e=>(dy8 _ _ (fy4 hb)).trans e;show wpAny _ A.in1 (updateSeq S (·.push en.key) >>= _) _ _ _;refine ay0 ?_;have hsz : (((es.toList.take i).map (·.key)).toArray).size = i:=by simp; omega
  obtain ⟨c',eS⟩ : ∃ c',(h'.update S (iy9 (·.push en.key))).get? S = some (zp2 ((es.toList.take (i + 1)).map (·.key)).toArray c'):=⟨_,by
   have:=get?_update_seq (n:=c) (c := "list") (xs:=((es.toList.take i).map (·.key)).toArray) hS' (fun x=>x.push en.key)
   rw [show ((es.toList.take (i + 1)).map (·.key)).toArray = (((es.toList.take i).map (·.key)).toArray).push en.key by
    rw [ey7,my8,hx]
    simp]
   exact this⟩
  refine oy9 hS' rfl (ay1 ⟨ky3 iy5 _,ih (i + 1) _ tk c' (by omega) ?_ (hD.move fun o e=>up d o hSd (hkp d o hId e)) (fun b o z1 z2 e=>up b o z1 (hkp b o z2 (hkeep b o z1 z2 e))) eS⟩) (by rw [hsz]; omega) (by rw [Array.size_push,hsz]; omega);refine za0 fun gG=>?_;obtain ⟨oi,e1,e2⟩:=hst';refine gG ?_;clear gG;exact ⟨oi,up I oi (fy4 hSI) e1,e2⟩
theorem zN3 {R : List Value->Shared->Prop} (hh : A.handled = none) (hsm : (d == ly6) = false) (hm : zJ0 s.heap d es ep) (hn : es.size <= by0)
  (h : ∀ (h' : Heap) (tk : Nat),(∀ b o,s.heap.get? b = some o->h'.get? b = some o)->R (es.toList.map (·.key)) { s with heap:=h',toks:=tk }) :
  wpAny (model P w) A (collect (.ref d)) R E s:=by
 refine za0 fun gG=>?_;obtain ⟨od,d1,d2,d3⟩:=id hm;refine gG ?_;clear gG;have hd : d < s.heap.objs.size:=by6 d1;unfold collect;refine ay0 (wpAny_runValue (jy5 entry_proto_collect' ?_));rw [gy3 PySem.F.plain_proto_collect _];show wpAny _ A.in1 (newList [] >>= fun l=>again (.builtin "list.__iadd__" ⟨[l,.ref d],[]⟩)) _ _ s;refine ay0 (ey3 ?_);refine ay1 ⟨ky3 ry5 _,jy5 entry_list_iadd' ?_⟩;rw [gy3 ry5 _];have hS1 : (s.heap.push { cls:=.type "list",data:=.seq ([] : List Value).toArray }).get? s.heap.objs.size = some (zp2 #[] 0):=ay7 _ rfl;show wpAny _ A.in1 (jy4 (.ref s.heap.objs.size) (.ref d) (.ref s.heap.objs.size)) _ _ _;generalize hs0 : ({ s with heap:=s.heap.push { cls:=.type "list",data:=.seq ([] : List Value).toArray } } : Shared) = s0;have hh0 : s0.heap = s.heap.push { cls:=.type "list",data:=.seq ([] : List Value).toArray }:=by rw [<- hs0]
 have hm0 : zJ0 s0.heap d es ep:=hm.move fun o e=>by rw [hh0]; exact ay2 _ e
 have ty : s0.TypeIs (.ref d) "dict" := ⟨od,by rw [hh0]; exact ay2 _ d1,d2.1⟩
 have key : ∀ (h : Heap) (c1 tk : Nat),(∀ b o,b ≠ s.heap.objs.size->(s0.heap.push { cls:=.type "dict_keyiterator",data:=.fields #[.ref d,.int 0 0,.int es.size 0,.int ep 0] }).get? b = some o->h.get? b = some o) ->
   h.get? s.heap.objs.size = some (zp2 #[] c1)->my2 (model P w) A (.builtin "list.extend.loop" ⟨[.ref s.heap.objs.size,.ref s0.heap.objs.size,.ref s.heap.objs.size],[]⟩)
    (fun (q : Result) (s' : Shared)=>∃ (h' : Heap) (tk : Nat) (c' : Nat),q = .ok (.ret (.ref s.heap.objs.size)) /\ s' = { s with heap:=h',toks:=tk } /\ (∀ b o,s.heap.get? b = some o->h'.get? b = some o) /\ h'.get? s.heap.objs.size = some (zp2 (es.toList.map (·.key)).toArray c')) { s with heap:=h,toks:=tk }:=by
  intro h c1 tk hk hS1;have hz : s0.heap.objs.size = s.heap.objs.size + 1:=by rw [hh0,sy4]
  have hI:=hk s0.heap.objs.size _ (by omega) (ay7 _ rfl);have hSI : s.heap.objs.size ≠ s0.heap.objs.size:=by omega
  have hdI : d ≠ s0.heap.objs.size:=cy1 (by3 hd (by rw [hz]; exact Nat.le_succ _))
  exact zb79 (s:=s) (h1:=s.heap) hh hSI (cy1 hd) hdI hn _ (fun h' tk' c hk' hS'=>⟨h',tk',c,rfl,rfl,fun b o e=>hk' b o (cy1 (by6 e)) (cy1 (by3 (by6 e) (by rw [hz]; exact Nat.le_succ _))) e,hS'⟩)
   es.size 0 h tk c1 (by omega) ⟨_,hI,rfl,rfl⟩ (hm.move fun o e=>hk d o (cy1 hd) (ay2 _ (by rw [hh0]; exact ay2 _ e))) (fun b o hb _ e=>hk b o hb (ay2 _ (by rw [hh0]; exact ay2 _ e))) (by simpa using hS1)
 have hS0 : s0.heap.get? s.heap.objs.size = some (zp2 #[] 0):=by rw [hh0]; exact hS1
 have ext : wpAny (model P w) A.in1 (jy4 (.ref s.heap.objs.size) (.ref d) (.ref s.heap.objs.size))
   (fun fin s'=>match fin with | .done f=>∃ (h' : Heap) (tk : Nat) (c' : Nat),f = .ret (.ref s.heap.objs.size) /\ s' = { s with heap:=h',toks:=tk } /\ (∀ b o,s.heap.get? b = some o->h'.get? b = some o) /\ h'.get? s.heap.objs.size = some (zp2 (es.toList.map (·.key)).toArray c') | .again c'=>c'.quiet = true /\ my2 (model P w) A c' (fun (q : Result) (s' : Shared)=>∃ (h' : Heap) (tk : Nat) (c' : Nat),q = .ok (.ret (.ref s.heap.objs.size)) /\ s' = { s with heap:=h',toks:=tk } /\ (∀ b o,s.heap.get? b = some o->h'.get? b = some o) /\ h'.get? s.heap.objs.size = some (zp2 (es.toList.map (·.key)).toArray c')) s') (fun _ _=>False) s0:=by
  unfold Builtin.List.listExtendWith;refine ay0 (ty9 (T := "dict") ty ?_);have g1 : qy8 (.ref s.heap.objs.size) (.ref d) = false:=by simp [qy8,oy3 hd]
  have g2 : (sy3 "dict" == sy3 "list") = false:=by decide
  have g3 : (sy3 "dict" == sy3 "tuple") = false:=by decide
  simp only [g1,g2,g3,Bool.or_false,iy8,if_false];refine ay0 (zb71 hsm hm0 ?_);have hS2:=ay2 { cls:=.type "dict_keyiterator",data:=.fields #[.ref d,.int 0 0,.int es.size 0,.int ep 0] } hS0;have es0 : ∀ (h : Heap),({ s0 with heap:=h } : Shared) = { s with heap:=h,toks:=s0.toks }:=fun h=>by rw [<- hs0]
  refine ay0 (fy3 (kdl_hint_dict (let ⟨o,ho,hc⟩:=ty; ⟨o,ay2 _ ho,hc⟩) ?_));refine qy5 (fun _=>?_) (fun _=>ay1 ⟨ky3 iy5 _,by rw [es0]; exact key _ 0 _ (fun b o _ e=>e) hS2⟩);refine ay0 (ny4 (ay0 ?_));show wpAny _ _ (updateSeq s.heap.objs.size (·.push .none) >>= fun _=>updateSeq s.heap.objs.size (·.pop)) _ _ _;refine ay0 (oy9 hS2 rfl ?_);have hS3:=fy6 (iy9 (·.push ey1)) hS2 rfl;refine oy9 (hz:=by seq_fits) hS3 rfl ?_;have hS4:=fy6 (iy9 (·.pop)) hS3 rfl;refine ay1 ⟨ky3 iy5 _,?_⟩;have:=key _ _ s0.toks (fun b o hb e=>(dy8 _ _ (fy4 hb)).trans ((dy8 _ _ (fy4 hb)).trans e)) hS4;rw [<- es0] at this;exact this
 refine fy2 ext (fun f s' x=>?_) fun e s' x=>x.elim;cases f with
 | done f =>
  refine za0 fun gG=>?_;obtain ⟨h',tk,c',e,rfl,hk,hS'⟩:=x;refine gG ?_;clear gG;cases e;show wpAny _ A (load s.heap.objs.size >>= _) _ _ _;refine ay0 (wpAny_load hS' (ay1 ?_));simpa using h h' tk hk
 | again c1 =>
  refine ⟨x.1,codeAny_mono x.2 fun q s2 y=>?_⟩;refine za0 fun gG=>?_;obtain ⟨h',tk,c',rfl,rfl,hk,hS'⟩:=y;refine gG ?_;clear gG;show wpAny _ A (load s.heap.objs.size >>= _) _ _ _;refine ay0 (wpAny_load hS' (ay1 ?_));simpa using h h' tk hk
end
section
variable {X : Cx}
theorem zD8 (hc : X.calm = true) : zj8 X (.builtin "sorted") fun xs H Q=>∃ (d : Addr) (kvs : List (List Key × V)) (ps : List (Str × Str)),xs = [.ref d] /\ H d = some (.dT kvs) /\ kvs.map (·.1) = ps.map (fun p=>[.inr p.1,.inr p.2]) /\ ps.Nodup /\ ps.length < 64 /\
  ∀ (l : Addr) (bs : List Addr) (q : List Nat),H l = none->bs.length = ps.length->(∀ (j : Nat) b p,bs[j]? = some b->ps[j]? = some p->H b = some (.tup ([xy1 p.1,xy1 p.2].map kV)))->q.Perm (iy3 ps.length)->q.Pairwise (fun i j=>ltQ (ps.getD i default) (ps.getD j default) = true)->Q (.ref l) (upd H l (.lst (q.map fun i=>V.ref (bs.getD i 0)))):=by
 intro pins s σ H xs us Q I r ⟨d,kvs,ps,e,hd,hks,nd,h64,q⟩;subst e;refine za0 fun gG=>?_;obtain ⟨u,rfl,rx⟩:=vals1 r;refine gG ?_;clear gG;cases rx;refine za0 fun gG=>?_;obtain ⟨hz,hs,xs,pr,o,es,ep,g1,g2,g3,g4,g5⟩:=I.hok d _ hd;refine gG ?_;clear gG;have hkl : kvs.length = ps.length:=by have:=congrArg vy9 hks; simpa using this
 have hxl : xs.length = ps.length:=by rw [<- pr.length,hkl]
 have hel : es.size = ps.length:=by rw [size_of_entries g4,hxl]
 generalize hbs : xs.map (fun x=>x.2.1) = bs;have hbl : bs.length = ps.length:=by rw [<- hbs,ay5,hxl]
 have hkey : es.toList.map (·.key) = bs.map dy2:=by rw [g4,<- hbs,gy1,gy1]; rfl
 have tup : ∀ (j : Nat) b p,bs[j]? = some b->ps[j]? = some p->H b = some (.tup ([xy1 p.1,xy1 p.2].map kV)):=fun j b p hb hp=>by
  rw [<- hbs,ay9] at hb;refine za0 fun gG=>?_;obtain ⟨x,hx,rfl⟩:=gy8.mp hb;obtain ⟨kv,hkv,z1,z2,z3⟩:=zf3 pr hx;refine gG ?_;clear gG;have : (kvs.map (·.1))[j]? = some kv.1:=by rw [ay9,hkv]; rfl
  rw [hks,ay9,hp] at this;rw [<- (jy0 this)] at z2;exact z2
 have at2 : ∀ i,i < ps.length->∃ b,(bs.map dy2).getD i ey1 = .ref b /\ IsT2 s.heap b (ps.getD i default):=fun i hi=>by
  have hib : i < bs.length:=by omega
  have hp : ps[i]? = some ps[i]:=cy0 hi;have z2:=tup i bs[i] ps[i] (cy0 hib) hp;refine ⟨bs[i],by simp [sy1,hib],?_⟩;rw [show ps.getD i default = ps[i] by simp [sy1,hi]];refine za0 fun gG=>?_;obtain ⟨ws,rw',⟨o,g1,g2,n,g3⟩,_⟩:=I.tuple (SqT.of z2);refine gG ?_;clear gG
  obtain ⟨w1,w2,rfl,⟨t1,rfl⟩,⟨t2,rfl⟩⟩ : ∃ w1 w2,ws = [w1,w2] /\ RelV (.str ps[i].1) w1 /\ RelV (.str ps[i].2) w2:=by
   cases rw' with
   | cons a t=>cases t with
    | cons b t=>cases t; exact ⟨_,_,rfl,a,b⟩
  exact ⟨o,n,t1,t2,g1,g2,g3⟩
 refine Calls.call_function_entry kind_sorted plain_sorted entry_sorted (args_sorted1 _) ?_;unfold Builtin.«sorted»;refine ay0 (m:=checkCount "sorted" 1 1 _) (ay1 ?_);refine ay0 (zN3 (A:=X.A.in1) (by simpa using I.ok.hd hc) hs ⟨o,g1,g2,g3⟩ (by rw [hel,ny6]; omega) fun h' tk k=>?_);rw [hkey];have hvl : (bs.map dy2).length = ps.length:=by rw [ay5,hbl]
 refine ay0 (wpAny_newList ?_ (by rw [hvl,ny6]; omega));have hL : (h'.push (seqObj "list" (bs.map dy2).toArray 0)).get? h'.objs.size = some (seqObj "list" (bs.map dy2).toArray 0):=ay7 _ rfl;have mv : ∀ (h2 : Heap),(∀ b o,b ≠ h'.objs.size->(h'.push (seqObj "list" (bs.map dy2).toArray 0)).get? b = some o->h2.get? b = some o)->∀ {b p},IsT2 s.heap b p->IsT2 h2 b p:=fun h2 kp {b p} x=>x.move fun o z=>kp _ _ (cy1 (by6 (k _ _ z))) (ay2 _ (k _ _ z));have O:=zd09 nd;rw [<- hvl] at O;refine ay0 (fy3 (dy6 slot_list_sort ⟨_,hL,rfl⟩ entry_list_sort (zX5 (κ:=tuples' true) O hL (by rw [hvl]; exact h64) (fun h2 s' Q' kp hQ=>?_) (fun h2 s' i j C kp hi hj hij hC=>?_) fun qq q1 q2=>⟨_,rfl,?_⟩) (args_list_sort _)))
 ·obtain ⟨fs,k1,k2,k3⟩ : ∃ fs,KatTups s'.heap (bs.map dy2) fs /\ fs.length = (bs.map dy2).length /\ ∀ v∈fs,∃ x t,v = .str x t:=by
   have : ∀ (l : List Value),(∀ v∈l,∃ b p,v = .ref b /\ IsT2 s'.heap b p)->∃ fs,KatTups s'.heap l fs /\ fs.length = l.length /\ ∀ v∈fs,∃ x t,v = .str x t:=by
    intro l
    induction l with
    | nil=>intro _; exact ⟨[],.nil,rfl,fun v hv=>absurd hv (by simp)⟩
    | cons a l ih =>
     intro h;refine za0 fun gG=>?_;obtain ⟨b,p,rfl,o,n,t,u,e1,e2,e3⟩:=h a by2;obtain ⟨fs,f1,f2,f3⟩:=ih fun a ha=>h a (by1 _ ha);refine gG ?_;clear gG;refine ⟨.str p.1 t :: fs,.cons e1 e2 e3 rfl f1,by simp [f2],fun v hv=>?_⟩;rcases by8.mp hv with rfl | hv
     ·exact ⟨_,_,rfl⟩
     ·exact f3 v hv
   refine this _ fun v hv'=>?_;refine za0 fun gG=>?_;obtain ⟨i,hi,rfl⟩:=vy2.mp hv';obtain ⟨b,e1,e2⟩:=at2 i (by omega);refine gG ?_;clear gG;refine ⟨b,_,?_,mv s'.heap kp e2⟩;have hib : i < bs.length:=by simpa using hi
   simpa [sy1,hib] using e1
  refine kat_kind (T:=.type "str") k1 (by omega) (fun v hv'=>?_) (by decide) hQ;refine za0 fun gG=>?_;obtain ⟨x,t,rfl⟩:=k3 v hv';refine gG ?_;clear gG;exact fun A Q E s _ q=>ty9 rfl q
 ·rw [hvl] at hi hj;refine za0 fun gG=>?_;obtain ⟨b1,e1,x1⟩:=at2 i hi;obtain ⟨b2,e2,x2⟩:=at2 j hj;obtain ⟨o1,m1,t1,u1,f1,c1,d1⟩:=mv s'.heap kp x1;obtain ⟨o2,m2,t2,u2,f2,c2,d2⟩:=mv s'.heap kp x2;refine gG ?_;clear gG;unfold kas_ask;rw [e1,e2];refine kat_lt f1 d1 f2 d2 ?_;show KatLex _ _ _ _ _ _ [(.str (ps.getD i default).1 t1,.str (ps.getD j default).1 t2),(.str (ps.getD i default).2 u1,.str (ps.getD j default).2 u2)] 0 s';refine zd10 (fun z=>hij ?_) hC;have e : ∀ k (hk : k < ps.length),ps.getD k default = ps[k]:=fun k hk=>by simp [sy1,hk]
  have z' : ps.getD i default = ps.getD j default:=z;rw [e i hi,e j hj] at z';exact (jy8 nd).mp z'
 ·rw [hvl] at q1;refine za0 fun gG=>?_;obtain ⟨e,he⟩:=sortedHeap_at (out:=(qq.map fun i=>(bs.map dy2).getD i ey1).toArray) hL
  have hn : s.heap.get? h'.objs.size = none:=by
   cases z : s.heap.get? h'.objs.size with
   | none=>rfl
   | some o'=>exact absurd (by6 (k _ _ z)) (my5 _)
  have hvq : Vals (qq.map fun i=>V.ref (bs.getD i 0)) (qq.map fun i=>(bs.map dy2).getD i ey1):=by
   have : ∀ l : List Nat,(∀ i∈l,i < bs.length)->Vals (l.map fun i=>V.ref (bs.getD i 0)) (l.map fun i=>(bs.map dy2).getD i ey1):=by
    intro l
    induction l with
    | nil=>intro _; exact .nil
    | cons i l ih =>
     intro hl;have hi:=hl i by2;refine .cons ?_ (ih fun j hj=>hl j (by1 _ hj));show (bs.map dy2).getD i ey1 = dy2 (bs.getD i 0);simp [sy1,hi]
   exact this qq fun i hi=>by
    have:=q1.mem_iff.mp hi;rw [hbl];simpa using this
  obtain ⟨hH,I'⟩:=I.zf33 (a:=h'.objs.size) (o:=.lst (qq.map fun i=>V.ref (bs.getD i 0))) (h':=sortedHeap (h'.push (seqObj "list" (bs.map dy2).toArray 0)) h'.objs.size (bs.map dy2) (qq.map fun i=>(bs.map dy2).getD i ey1).toArray) (t':=tk) (fun b o' z=>by
   have hb:=by6 (k _ _ z);rw [sortedHeap_old (cy1 hb) (by rw [size_push']; exact vy0 hb)]
   exact ay2 _ (k _ _ z)) hn (show zb9 X.prog X.w _ _ _ (.lst (qq.map fun i=>V.ref (bs.getD i 0))) from ⟨by rw [ay5,q1.length_eq,List.length_range,ny6]; omega,_,e,hvq,by simpa [seqObj] using he⟩)
  refine gG ?_;clear gG;exact ay1 ⟨_,rfl,.ref h'.objs.size,_,I',rfl,q _ bs qq hH hbl tup q1 q2⟩
end
section
variable {X : Bc} {W : Wl} {k : KB}
theorem zN4 {j : Nat} {kvs : List (List Key × El)} {ps : List (Str × Str)} (hc : X.calm = true) (hj : W[j]? = some (.dT kvs)) (hk : kvs.map (·.1) = ps.map fun p=>[.inr p.1,.inr p.2]) (nd : ps.Nodup) (h64 : ps.length < 64)
  (h : ∀ ps' : List (Str × Str),ps'.Perm ps->ps'.Pairwise (fun a b=>ltQ a b = true)->k (.o W.length) (W++[.lst (zb6 (ps'.map fun p=>tupK [.inr p.1,.inr p.2]))])) : CB X (.builtin "sorted") [.o j] W k:=.of (zD8 hc) fun F A H Q vs r zs q=>by
 refine za0 fun gG=>?_;obtain ⟨v,rfl,a,ha,rfl⟩:=zi3 zs;obtain ⟨u,e,ws,rfl,p⟩:=r.obj j a _ ha hj;refine gG ?_;clear gG
 have hkeys : ws.map (·.1) = kvs.map (·.1):=by
  clear e hj hk h
  induction p with
  | nil=>rfl
  | cons a _ ih=>simp [ih,a.1]
 refine ⟨a,ws,ps,rfl,e,hkeys.trans hk,nd,h64,fun l bs qq hl hbl tup q1 q2=>?_⟩;have hql : ∀ i∈qq,i < ps.length:=fun i hi=>by have:=q1.mem_iff.mp hi; simpa using this
 refine za0 fun gG=>?_
 obtain ⟨F2,sF,eF,r2⟩:=r.zM7 ((iy3 ps.length).map fun i=>(bs.getD i 0,[xy1 (ps.getD i default).1,xy1 (ps.getD i default).2].map kV)) fun pp hpp=>by
  obtain ⟨i,hi,rfl⟩:=cy4.mp hpp;have hi : i < ps.length:=by simpa using hi
  have hib : i < bs.length:=by omega
  refine tup i _ _ ?_ ?_
  ·simp [sy1,hib]
  ·simp [sy1,hi]
 refine gG ?_;clear gG;have ext : Ext F A F2 A:=⟨sF,ry7 _⟩
 refine (q.ext ext).newO r2 hl (o:=.lst (zb6 ((qq.map fun i=>ps.getD i default).map fun p=>tupK [.inr p.1,.inr p.2]))) ⟨_,rfl,zi2 ?_⟩ (h _ (zX6 q1) (by
  rw [List.pairwise_map]
  exact q2))
 have : ∀ l : List Nat,(∀ i∈l,i < ps.length)->Paired (fun d v=>Rq X.K F2 v d) ((l.map fun i=>ps.getD i default).map fun p=>tupK [.inr p.1,.inr p.2]) (l.map fun i=>V.ref (bs.getD i 0)):=by
  intro l
  induction l with
  | nil=>intro _; exact .nil
  | cons i l ih =>
   intro hl';have hi:=hl' i by2;refine .cons ?_ (ih fun j hj=>hl' j (by1 _ hj));exact Rq.tup (SqT.of (eF _ (cy4.mpr ⟨i,by simpa using hi,rfl⟩))) (Rqs.of zC2)
 exact this qq hql
theorem zd15 {ds : List PyData} {lo hi : Option Int} {ks : List Key} (hk : zn0 ds lo hi = ks.map zK5) (hl : ks.length < ds.length) (h : k (.p ks) W) : LB X (.d (.tuple ds)) lo hi W k:=.of zc27 fun F A H Q vx r zx q=>by
 refine za0 fun gG=>?_;obtain ⟨a,vs,rfl,hs,z⟩:=Rq.zh6 zx;refine gG ?_;clear gG;refine ⟨a,vs,rfl,r.sub.zt9 hs,fun hw=>?_,fun p hp=>?_⟩
 ·have h1:=congrArg vy9 hk;rw [ay5] at h1;unfold zn0 at h1;rw [zb2 z,hw.1,hw.2] at h1;simp at h1;have:=zb2 z;omega
 ·have z':=zH1 z lo hi;rw [hk] at z'
  have ev : zL0 vs lo hi = ks.map kV:=by
   have : ∀ {ks : List Key} {vs : List V},Paired (fun d v=>Rq X.K F v d) (ks.map zK5) vs->vs = ks.map kV:=by
    intro ks
    induction ks with
    | nil=>intro vs h; cases h; rfl
    | cons a ks ih =>
     intro vs h;cases h with
     | cons x t =>
      rw [ih t,ey6]
      congr 1
      cases a with
      | inl i=>exact Rq.zd1 x
      | inr y=>exact Rq.zg9 x
   exact this z'
  rw [ev];obtain ⟨r',x⟩:=r.newF hp (.tup (ks.map kV));exact q _ _ _ _ (.p ks) _ x r' ⟨p,rfl,zb3⟩ h
end
end L2
namespace K1
open PySem L2
def top (i : Nat) : Stmt:=PySem.Challenge.pw_talehands_k17_whole_beginnings_go_on.main.body.getD i (.Pass ⟨0,0,0,0⟩)
abbrev zt3 : Stmt:=top 3
abbrev zD9 : Stmt:=top 6
abbrev zj7 : Stmt:=top 7
abbrev zZ1 : Stmt:=top 12
abbrev sDo : Stmt:=top 13
abbrev zl8 : Stmt:=top 14
abbrev zs8 : Stmt:=top 15
abbrev zf7 : Stmt:=top 17
abbrev zt4 : Stmt:=top 18
abbrev zk9 : Stmt:=top 19
abbrev zx3 : Stmt:=top 20
abbrev zl0 : Stmt:=top 22
abbrev zl9 : Stmt:=top 23
abbrev zf8 : Stmt:=top 24
abbrev zh4 : Stmt:=top 25
abbrev zd8 : Stmt:=top 27
abbrev zE0 : Stmt:=top 28
abbrev zN5 : Stmt:=top 29
abbrev zs9 : Stmt:=top 31
abbrev zN6 : Stmt:=top 32
abbrev zx4 : Stmt:=top 33
abbrev zx5 : Stmt:=top 34
abbrev zh9 : Stmt:=top 35
abbrev zl1 : Stmt:=top 36
abbrev zN7 : Stmt:=top 37
abbrev sRow : Stmt:=top 38
abbrev zt0 : Stmt:=top 39
abbrev zJ2 : Stmt:=top 40
abbrev zN8 : Stmt:=top 41
abbrev zx6 : Stmt:=top 42
abbrev sLaw : Stmt:=top 43
theorem zb81 : ey9 "isinstance" = some (.builtin "isinstance"):=by decide +kernel
theorem zf35 : ey9 "int" = some (.type "int"):=by decide +kernel
theorem zn7 : ey9 "tuple" = some (.type "tuple"):=by decide +kernel
theorem zt5 : ey9 "len" = some (.builtin "len"):=by decide +kernel
theorem ze41 : ey9 "all" = some (.builtin "all"):=by decide +kernel
theorem zd16 : ey9 "range" = some (.type "range"):=by decide +kernel
theorem zb82 : ey9 "divmod" = some (.builtin "divmod"):=by decide +kernel
theorem zf36 : ey9 "sum" = some (.builtin "sum"):=by decide +kernel
theorem zR6 : ey9 "sorted" = some (.builtin "sorted"):=by decide +kernel
theorem ze42 : ey9 "str" = some (.type "str"):=by decide +kernel
theorem za73 : ey9 "list" = some (.type "list"):=by decide +kernel
theorem zf37 : ey9 "any" = some (.builtin "any"):=by decide +kernel
theorem zf38 : ey9 "min" = some (.builtin "min"):=by decide +kernel
structure Txt (mg : Str->Option Value) : Prop where
 isi : mg "isinstance" = none
 int_ : mg "int" = none
 tuple_ : mg "tuple" = none
 len_ : mg "len" = none
 all_ : mg "all" = none
 range_ : mg "range" = none
 divmod_ : mg "divmod" = none
 sum_ : mg "sum" = none
 sorted_ : mg "sorted" = none
 str_ : mg "str" = none
 enum_ : mg "enumerate" = none
 list_ : mg "list" = none
 any_ : mg "any" = none
 min_ : mg "min" = none
structure Def (K : ay4) (mg : Str->Option Value) (x : Str) (st : Stmt) (f : Addr) (fd : ey4) (ps : List Str) : Prop where
 fn : Fun K x x st f fd
 bd : Binds K fd ps []
 at_ : mg x = some (.ref f)
def zZ2 : Scope:={ kind:=.function,names:=[],isGenerator:=false,isCoroutine:=false }
theorem zc1 {n : Nat} (h : n <= 100000) : n <= by0:=ey0 h (by decide)
theorem za74 (a b : List PyData) : zb6 a++zb6 b = zb6 (a++b):=by simp [zb6]
theorem zE1 {W : Wl} {a b : OD} : (W++[a]).set W.length b = W++[b]:=by simp
theorem zd6 {W : Wl} {a : OD} : (W++[a])[W.length]? = some a:=by simp
abbrev bits (n : Int) : Nat:=gy7 n
theorem zN9 {n : Int} {B : Nat} (h : n.natAbs < 2 ^ B) : bits n <= B:=by
 unfold bits gy7
 by_cases h0 : n = 0
 ·subst h0; simp
 ·rw [if_neg (by simpa using h0)];have hn : n.natAbs ≠ 0:=by omega
  have:=(Nat.log2_lt hn).mpr h;omega
def wl (n : Int) : OD:=.lst [.d (.int n)]
def ze8 (W : Wl) (p : Nat) : Prop:=∃ n,W[p]? = some (wl n) /\ 0 <= n
def zg0 (W : Wl) (p : Nat) (W' : Wl) : Prop:=∃ n,W' = W.set p (wl n) /\ 0 <= n
theorem ze8.lt {W : Wl} {p : Nat} (h : ze8 W p) : p < W.length:=by
 refine za0 fun gG=>?_;obtain ⟨n,h,_⟩:=h;refine gG ?_;clear gG;exact (ay3.mp h).1
theorem zg0.at {W W' : Wl} {p : Nat} (h : zg0 W p W') (hp : p < W.length) : ze8 W' p:=by
 refine za0 fun gG=>?_;obtain ⟨n,rfl,q⟩:=h;refine gG ?_;clear gG;exact ⟨n,by rw [fy9 hp],q⟩
theorem ze8.self {W : Wl} {p : Nat} (h : ze8 W p) : zg0 W p W:=by
 refine za0 fun gG=>?_;obtain ⟨n,e,q⟩:=h;refine gG ?_;clear gG;refine ⟨n,?_,q⟩;obtain ⟨hl,e⟩:=ay3.mp e;rw [<- e];exact (List.set_getElem_self hl).symm
theorem zg0.trans {W W1 W2 : Wl} {p : Nat} (h : zg0 W p W1) (h' : zg0 W1 p W2) : zg0 W p W2:=by
 refine za0 fun gG=>?_;obtain ⟨n,rfl,_⟩:=h;obtain ⟨n',rfl,q⟩:=h';refine gG ?_;clear gG;exact ⟨n',by rw [List.set_set],q⟩
theorem zg0.len {W W' : Wl} {p : Nat} (h : zg0 W p W') : W'.length = W.length:=by
 refine za0 fun gG=>?_;obtain ⟨n,rfl,_⟩:=h;refine gG ?_;clear gG;simp
theorem zg0.get {W W' : Wl} {p j : Nat} (h : zg0 W p W') (hj : j ≠ p) : W'[j]? = W[j]?:=by
 refine za0 fun gG=>?_;obtain ⟨n,rfl,_⟩:=h;refine gG ?_;clear gG;rw [cy8 (fy4 hj)]
theorem zg0.app {W W' V : Wl} {p : Nat} (h : zg0 (W++V) p W') (hp : p < W.length) : ∃ W0,W' = W0++V /\ zg0 W p W0:=by
 refine za0 fun gG=>?_;obtain ⟨n,rfl,q⟩:=h;refine gG ?_;clear gG;exact ⟨W.set p (wl n),by rw [List.set_append_left _ _ hp],n,rfl,q⟩
theorem zg0.closed {W W' : Wl} {p : Nat} (h : zg0 W p W') (hc : closed W) : L2.closed W':=by
 refine za0 fun gG=>?_;obtain ⟨n,rfl,_⟩:=h;refine gG ?_;clear gG
 exact hc.set p fun e he=>by
  simp at he;subst he;trivial
theorem ze8.app {W V : Wl} {p : Nat} (h : ze8 W p) : ze8 (W++V) p:=by
 refine za0 fun gG=>?_;obtain ⟨n,e,q⟩:=h;refine gG ?_;clear gG;exact ⟨n,by rw [ay8 (ay3.mp e).1]; exact e,q⟩
theorem zg0.last {U W' : Wl} {o : OD} (h : zg0 (U++[o]) U.length W') : ∃ n,W' = U++[wl n] /\ 0 <= n:=by
 refine za0 fun gG=>?_;obtain ⟨n,e,pb⟩:=h;refine gG ?_;clear gG;exact ⟨n,by rw [e]; simp,pb⟩
theorem ze8.last {U : Wl} {n : Int} (h : 0 <= n) : ze8 (U++[wl n]) U.length:=⟨n,by simp,h⟩
section
variable {P : cy6} {w : World} {K : ay4} {mg : Str->Option Value} {base : Heap}
theorem zb83 : (10 : Int) ^ (60 : Int).toNat = 1000000000000000000000000000000000000000000000000000000000000:=by decide
theorem ze43 : bits 693147180559945309417232121458176568075500134360255254120683 <= 2 ^ 20:=ey0 (zN9 (B:=200) (by decide)) (by decide)
theorem ze44 : bits 1000000000000000000000000000000000000000000000000000000000000 <= 2 ^ 20:=ey0 (zN9 (B:=200) (by decide)) (by decide)
def ze45 : RB:=fun as W k=>∃ n : Int,as = [.d (.int n)] /\ bits n <= 2 ^ 20 /\ ∀ m : Int,0 <= m->m < 1000000000000000000000000000000000000000000000000000000000000->k (.d (.int m)) W
theorem scMi : zb5 ["_law_cell"] ["_law_cell"] (za3 zs9):=⟨rfl,rfl,rfl,by decide +kernel,rfl,by decide +kernel,by decide +kernel⟩
theorem zb84 {f : Addr} {fd : ey4} (F : Fun K "_law_mixed" "_law_mixed" zs9 f fd) : zj9 P w K mg base CX0 1 f fd ["_law_cell"] (spB K ze45):=by
 refine zn1 F scMi (fun as W k hR=>by obtain ⟨n,e,_⟩:=hR; subst e; rfl) fun cc hr as W k hcl hR=>?_;refine za0 fun gG=>?_;obtain ⟨n,e,hb,hk⟩:=hR;subst e;refine gG ?_;clear gG;refine zb1 (zf2 (ze7 (ze7 (bv 0 rfl (zb0 (za30 ⟨hb,ze43⟩ (ze7 (zb0 (zb0 (zc36 ⟨by decide,by decide,by decide⟩ (ze09 (by decide) ?_)))))))))));rw [zb83];exact hk _ (Int.emod_nonneg _ (by decide)) (Int.emod_lt_of_pos _ (by decide))
abbrev pPa : List Str:=["_law_script", "_law_k"]
abbrev nPk : List Str:=["_law_script", "_law_k", "_law_found", "_law_cell"]
theorem scPk : zb5 nPk pPa (za3 zN6):=⟨rfl,rfl,rfl,by decide +kernel,rfl,by decide +kernel,by decide +kernel⟩
theorem ndPk : nPk.Nodup:=by decide +kernel
def zf40 : RB:=fun as W k=>∃ (ns : List Int) (j : Int),as = [.s ns,.d (.int j)] /\ (∀ m∈ns,bits m <= 2 ^ 20) /\ ns.length <= 63 /\ ∀ n : Int,0 <= n->k (.o W.length) (W++[wl n])
theorem zd17 {α : Type} {xs : List α} {lo hi : Option Int} {x : α} (h : x∈zn0 xs lo hi) : x∈xs:=List.mem_of_mem_drop (ky4 h)
theorem zE2 {α : Type} (xs : List α) (lo hi : Option Int) : (zn0 xs lo hi).length <= xs.length:=by
 unfold zn0;rw [dy3,vy6];omega
theorem zX7 {i : Nat} {n m : Int} (h0 : 0 <= n) (h : n.natAbs < 2 ^ (200 * i)) (m0 : 0 <= m) (m1 : m < 1000000000000000000000000000000000000000000000000000000000000) : (n * 1000000000000000000000000000000000000000000000000000000000000 + m).natAbs < 2 ^ (200 * (i + 1)):=by
 have e : 2 ^ (200 * (i + 1)) = 2 ^ (200 * i) * 2 ^ 200:=by rw [Nat.mul_add,Nat.pow_add]
 rw [e,show (2 : Nat) ^ 200 = 1606938044258990275541962092341162602522202993782792835301376 by decide];generalize 2 ^ (200 * i) = X at *;omega
theorem zd18 {f fM : Addr} {fd dM : ey4} (F : Fun K "_law_pack" "_law_pack" zN6 f fd) (DM : Def K mg "_law_mixed" zs9 fM dM ["_law_cell"]) : zj9 P w K mg base CX0 2 f fd pPa (spB K zf40):=by
 have N:=@zb84 P w K mg base _ _ DM.fn;refine zn1 F scPk (fun as W k hR=>by obtain ⟨ns,j,e,_⟩:=hR; subst e; rfl) fun cc hr as W k hcl hR=>?_;refine exE2 hR fun ns j qA=>?_;clear hR;refine anE4 qA fun e hb hl hk=>?_;clear qA;subst e;have hlen : ∀ lo hi,((zn0 ns lo hi).map wy8).length <= 63:=fun lo hi=>by rw [ay5]; exact ey0 (zE2 _ _ _) hl
 refine za5 (zc2 (i:=2) ndPk rfl (Or.inl rfl) (zb0 ?_));refine za5 (zo6 jy7 rfl (zw0 (ze0 (bv 0 rfl (zd9 (bv 1 rfl ⟨j,rfl,zd9 (ze7 (bv 1 rfl (zb0 (zo1 ⟨_,rfl,za45 ⟨_,rfl,W.length,fun i S' W'=>W' = W /\ ∃ (n : Int) (o3 : Option El),S' = [some (.s ns),some (.d (.int j)),some (.d (.int n)),o3] /\ 0 <= n /\ n.natAbs < 2 ^ (200 * i),ay6 _,dy7 _,ay6 _,⟨rfl,0,none,rfl,by decide,by decide⟩,fun _ _ _ _ _=>trivial,?_,?_⟩⟩))))⟩))))))
 ·intro i d S' W' hd gX;refine za0 fun gG=>?_;obtain ⟨rfl,n,o3,rfl,h0,hn⟩:=gX;refine gG ?_;clear gG;have hi : i < 63:=by3 (ay3.mp hd).1 (hlen _ _);rw [ay9] at hd;cases hc : (zn0 ns (some j) (some (j + 2)))[i]? with
  | none=>rw [hc] at hd; cases hd
  | some c =>
   rw [hc] at hd;cases hd;have hnb : bits n <= 2 ^ 20:=ey0 (zN9 hn) (by omega);refine zk7 (i:=3) ndPk rfl (Or.inl rfl) ?_;refine zb1 (zc2 (i:=2) ndPk rfl (Or.inl rfl) (ze7 (ze7 (bv 2 rfl (ze7 (zb0 (zb0 (zc36 ⟨by decide,by decide,by decide⟩ (za30 ⟨hnb,by rw [zb83]; exact ze44⟩ (za4 N (hr.mono (by decide)) rfl DM.at_ DM.fn.kp DM.bd (za1 (bv 3 rfl ⟨c,rfl,hb c (zd17 (cy3 hc)),fun m m0 m1=>zo1 ⟨rfl,_,_,rfl,?_,?_⟩⟩))))))))))))
   ·rw [zb83]; omega
   ·rw [zb83]; exact zX7 h0 hn m0 m1
 ·intro S' W' gX;refine za0 fun gG=>?_;obtain ⟨rfl,n,o3,rfl,h0,hn⟩:=gX;refine gG ?_;clear gG;exact zb1 (zf2 (zq6 (za1 (bv 2 rfl ⟨(by show 1 <= by0; decide),hk n h0⟩))))
def zf41 : RB:=fun as W k=>∃ (p : Nat) (n : Int),as = [.o p,.d (.int n)] /\ ze8 W p /\ 1 <= n /\ n <= 1000000 /\ ∀ r W',0 <= r->r < n->zg0 W p W'->k (.d (.int r)) W'
abbrev pTk : List Str:=["_law_pack_here", "_law_size"]
abbrev nTk : List Str:=["_law_pack_here", "_law_size", "_law_digit"]
theorem scTk : zb5 nTk pTk (za3 zx4):=⟨rfl,rfl,rfl,by decide +kernel,rfl,by decide +kernel,by decide +kernel⟩
theorem ndTk : nTk.Nodup:=by decide +kernel
theorem zr2 {f : Addr} {fd : ey4} (F : Fun K "_law_take" "_law_take" zx4 f fd) (T : Txt mg) : zj9 P w K mg base CX0 1 f fd pTk (spB K zf41):=by
 refine zn1 F scTk (fun as W k hR=>by obtain ⟨p,n,e,_⟩:=hR; subst e; rfl) fun cc hr as W k hcl hR=>?_;refine za0 fun gG=>?_;obtain ⟨p,n,e,⟨a,hp,ha0⟩,hn1,hn2,hk⟩:=hR;subst e;refine gG ?_;clear gG;refine za5 (zs5 (zd0 rfl T.divmod_ zb82 (za2 (zf0 (by intro _ _; rfl) (bv 0 rfl (zb0 (zz5 hp (e:=.d (.int a)) rfl (za1 (bv 1 rfl (za36 ⟨by omega,by omega⟩ (zd01 rfl (zQ6 (zH5 (bv 0 rfl (zb0 (ze17 hp (m:=0) rfl (zQ6 (zk7 (i:=2) ndTk rfl (Or.inl rfl) (zd00 ?_)))))))))))))))))));exact zb1 (zf2 (bv 2 rfl (hk _ _ (Int.emod_nonneg _ (by omega)) (Int.emod_lt_of_pos _ (by omega)) ⟨a / n,rfl,Int.ediv_nonneg ha0 (by omega)⟩)))
end
theorem rng (m : Nat) : zo5 0 (m : Int).toNat = (iy3 m).map fun (k : Nat)=>wy8 (k : Int):=by
 unfold zo5;simp
structure zd19 (hs : List Str) : Prop where
 nm : ∀ x∈hs,isNm x = true
 nd : hs.Nodup
 two : 2 <= hs.length
 le : hs.length <= 8
def tb0 : List Str:=["a", "b", "c", "d", "e"]
def tb1 : List Str:=["ab", "a", "abc", "b", "bc"]
def tb2 : List Str:=["me", "you", "them", "abcdefgh", "u"]
def tb3 : List Str:=["zz", "z", "yz", "y", "zzzzzzzz"]
def tblH : List (List Str):=[tb0,tb1,tb2,tb3]
def zO0 (hs : List Str) : Prop:=∃ tb∈tblH,∃ m,m < 4 /\ hs = tb.take (2 + m)
theorem ze46 : ∀ tb∈tblH,tb.length = 5 /\ tb.all isNm = true /\ tb.Nodup:=by decide +kernel
theorem zO0.names {hs : List Str} (h : zO0 hs) : zd19 hs:=by
 refine za0 fun gG=>?_;obtain ⟨tb,ht,m,hm,rfl⟩:=h;obtain ⟨h1,h2,h3⟩:=ze46 tb ht;refine gG ?_;clear gG;exact ⟨fun x hx=>List.all_eq_true.mp h2 x (ky4 hx),h3.sublist (List.take_sublist _ _),by rw [dy3]; omega,by rw [dy3]; omega⟩
section
variable {P : cy6} {w : World} {K : ay4} {mg : Str->Option Value} {base : Heap}
def ze47 : RB:=fun as W k=>∃ p : Nat,as = [.o p] /\ ze8 W p /\ ∀ (hs : List Str) W',zO0 hs->zg0 W p W'->k (.d (.list (hs.map .str))) W'
abbrev nHa : List Str:=["_law_pack_here", "_law_some"]
theorem scHa : zb5 nHa ["_law_pack_here"] (za3 zx5):=⟨rfl,rfl,rfl,by decide +kernel,rfl,by decide +kernel,by decide +kernel⟩
theorem ndHa : nHa.Nodup:=by decide +kernel
def lE (l : List Str) : El:=.d (.list (l.map .str))
theorem five : (5 : Nat) <= by0:=by decide
theorem zb85 {f fR : Addr} {fd dR : ey4} (F : Fun K "_law_hands" "_law_hands" zx5 f fd) (T : Txt mg) (DR : Def K mg "_law_take" zx4 fR dR pTk) : zj9 P w K mg base CX0 2 f fd ["_law_pack_here"] (spB K ze47):=by
 have N:=@zr2 P w K mg base _ _ DR.fn T;refine zn1 F scHa (fun as W k hR=>by obtain ⟨p,e,_⟩:=hR; subst e; rfl) fun cc hr as W k hcl hR=>?_;obtain ⟨p,e,hp,hk⟩:=hR;subst e;have hpl:=hp.lt;refine za5 ?_;refine zc2 (i:=1) ?_ ?_ ?_ ?_ ?_ ?_
 ·exact ndHa
 ·rfl
 ·exact Or.inl rfl
 rotate_left
 ·rfl
 ·exact .inl rfl
 refine zq6 ?_;refine za2 ?_;refine zg3 (za2 (zc3 (za2 (zc3 (za2 (zc3 (za2 (zc3 (za1 (zc3 ⟨tb0.map .str,rfl,five,?_⟩))))))))));refine za2 ?_;refine zg3 (za2 (zc3 (za2 (zc3 (za2 (zc3 (za2 (zc3 (za1 (zc3 ⟨tb1.map .str,rfl,five,?_⟩))))))))));refine za1 ?_;refine zg3 (za2 (zc3 (za2 (zc3 (za2 (zc3 (za2 (zc3 (za1 (zc3 ⟨tb2.map .str,rfl,five,(by show 3 <= by0; decide),?_⟩))))))))));refine za5 (ze1 (zm5 fy5 ly1 ly2 (bv 1 rfl ⟨.inl ⟨rfl,_,zd6⟩,za1 (zg3 (za2 (zc3 (za2 (zc3 (za2 (zc3 (za2 (zc3 (za1 (zc3 ⟨tb3.map .str,rfl,five,zk2 zd6 (by show 3 < by0; decide) ?_⟩)))))))))))⟩)));rw [zE1];obtain ⟨es,hes⟩ : ∃ es,es = tblH.map lE:=⟨_,rfl⟩
 change BSs _ _ _ (W++[OD.lst (tblH.map lE)]) _ _;rw [<- hes];have hW : ∀ V : Wl,ze8 (W++V) p:=fun V=>hp.app;refine zb1 (zf5 (ze0 (zf0 (by intro _ _; rfl) (bv 1 rfl (za4 N (hr.mono (by decide)) rfl DR.at_ DR.fn.kp DR.bd (za2 (bv 0 rfl (za1 (zb0 ⟨p,4,rfl,hW _,by decide,by decide,fun r W1 a0 a1 pw1=>?_⟩)))))))));obtain ⟨W1,rfl,qw1⟩:=pw1.app hpl;obtain ⟨q,rfl⟩ : ∃ n : Nat,r = n:=⟨r.toNat,by omega⟩
 obtain ⟨tb,htb⟩ : ∃ tb,tblH[q]? = some tb:=⟨tblH[q]'(by show q < 4; omega),cy0 _⟩
 have hget : (W1++[OD.lst es])[W.length]? = some (OD.lst es):=by rw [<- qw1.len]; exact zd6
 refine zz5 (es:=es) hget (e:=lE tb) (zh8 (by rw [hes,ay9,htb]; rfl)) ?_;refine zh3 (zd9 (ze7 (zb0 (za4 N (hr.mono (by decide)) rfl DR.at_ DR.fn.kp DR.bd (za2 (bv 0 rfl (za1 (zb0 ⟨p,4,rfl,(qw1.at hpl).app,by decide,by decide,fun r W2 b0 b1 pw2=>zo1 ⟨_,rfl,zH2 ?_⟩⟩))))))));obtain ⟨W2,rfl,qw2⟩:=pw2.app (by rw [qw1.len]; exact hpl);have pw:=qw1.trans qw2;obtain ⟨m,rfl⟩ : ∃ n : Nat,r = n:=⟨r.toNat,by omega⟩
 have e1 : (2 : Int) + (m : Int) = ((2 + m : Nat) : Int):=by omega
 rw [e1,zs7,<- ry4];exact ⟨_,W2,_,rfl,rfl,pw.len.symm,pw.closed hcl,hk _ _ ⟨tb,cy3 htb,m,by omega,rfl⟩ pw⟩
def wdsS : List Str:=["x", "y", "xy", "hello", "x"]
theorem ze50 : ∀ z∈wdsS,isNm z = true:=by decide +kernel
def zb86 : RB:=fun as W k=>∃ (p : Nat) (hs : List Str),as = [.o p,.d (.list (hs.map .str))] /\ ze8 W p /\ zd19 hs /\ ∀ (d : za7) W',d.tk = false->d.Ok->d.x∈hs->d.y∈hs->d.w∈wdsS->zg0 W p W'->k (.d (dP d)) W'
abbrev pSe : List Str:=["_law_pack_here", "_law_hands_here"]
abbrev nSe : List Str:=["_law_pack_here", "_law_hands_here", "_law_one", "_law_others", "_law_other"]
theorem scSe : zb5 nSe pSe (za3 zh9):=⟨rfl,rfl,rfl,by decide +kernel,rfl,by decide +kernel,by decide +kernel⟩
theorem ndSe : nSe.Nodup:=by decide +kernel
def cSe : Scope:=match za9 zh9 with
 | [_,.Assign _ (.ListComp _ _ sc _) _,_,_]=>sc
 | _=>zZ2
theorem csSe : zb7 nSe (za3 zh9) ["_law_hand_here"] ["_law_one"] [2] cSe:=⟨rfl,by decide +kernel,by decide +kernel,by decide +kernel,rfl,by decide +kernel⟩
theorem ndSh : (["_law_hand_here", "_law_one"] : List Str).Nodup:=by decide +kernel
theorem zX8 {f fR : Addr} {fd dR : ey4} (F : Fun K "_law_sending" "_law_sending" zh9 f fd) (T : Txt mg) (DR : Def K mg "_law_take" zx4 fR dR pTk) : zj9 P w K mg base CX0 2 f fd pSe (spB K zb86):=by
 have N:=@zr2 P w K mg base _ _ DR.fn T;refine zn1 F scSe (fun as W k hR=>by obtain ⟨p,hs,e,_⟩:=hR; subst e; rfl) fun cc hr as W k hcl hR=>?_;refine exE2 hR fun p hs qA=>?_;clear hR;refine anE4 qA fun e hp hh hk=>?_;clear qA;subst e;have hpl:=hp.lt;have hhl:=hh.le;have hh2:=hh.two;refine za5 (zc2 (i:=2) ndSe rfl (Or.inr rfl) (zf0 (by intro _ _; rfl) (bv 1 rfl (za4 N (hr.mono (by decide)) rfl DR.at_ DR.fn.kp DR.bd (za2 (bv 0 rfl (za1 (zd0 rfl T.len_ zt5 (za1 (bv 1 rfl (zv7 (.inl rfl) ⟨p,_,rfl,hp,?_,?_,fun a W3 a0 a1 pw3=>?_⟩)))))))))))
 ·rw [ay5]; omega
 ·rw [ay5]; omega
 rw [ay5] at a1;obtain ⟨a,rfl⟩ : ∃ n : Nat,a = n:=⟨a.toNat,by omega⟩
 obtain ⟨x,hx⟩ : ∃ y,hs[a]? = some y:=⟨hs[a]'(by omega),by simp⟩
 have hxm:=cy3 hx;refine zv5 (d:=.str x) (zh8 (by simp [hx])) ?_;refine za5 (za44 (i:=3) ndSe rfl (Or.inl rfl) rfl csSe (zw0 (bv 1 rfl ⟨_,rfl,zo7 (fun d=>match d with | .str y=>decide (y ≠ x) | _=>false) id trivial ?_ ?_ ?_⟩)))
 ·rw [ay5]; exact zc1 (by omega)
 ·intro d hd;refine za0 fun gG=>?_;obtain ⟨y,hy,rfl⟩:=cy4.mp hd;refine gG ?_;clear gG;refine zg4 (i:=0) ndSh rfl (by decide) (fun _ _ _ _ _=>Or.inl rfl) (fun _ _ _ _ _=>rfl) ⟨fun cl C ex s H=>?_,fun _ cl C ex s H=>bv 0 rfl ⟨rfl,rfl⟩⟩;exact zd5 rfl (bv 0 rfl (bv 1 rfl (zP9 ⟨_,rfl,by simp,rfl⟩)))
 ·have e : ((hs.map iy4).filter (fun d=>match d with | .str y=>decide (y ≠ x) | _=>false)).map id = (hs.filter fun y=>decide (y ≠ x)).map .str:=by
   rw [List.map_id,List.filter_map];rfl
  rw [e];have h0:=zV5 (x:=x) hh2 hh.nd;have hol : (hs.filter fun y=>decide (y ≠ x)).length <= hs.length:=uy1 _ _;refine za5 (zc2 (i:=4) ndSe rfl (Or.inl rfl) (zf0 (by intro _ _; rfl) (bv 3 rfl (za4 N (hr.mono (by decide)) rfl DR.at_ DR.fn.kp DR.bd (za2 (bv 0 rfl (za1 (zd0 rfl T.len_ zt5 (za1 (bv 3 rfl (zv7 (.inl rfl) ⟨p,_,rfl,pw3.at hpl,?_,?_,fun b W4 b0 b1 pw4=>?_⟩)))))))))))
  ·rw [ay5]; omega
  ·rw [ay5]; omega
  rw [ay5] at b1;obtain ⟨b,rfl⟩ : ∃ n : Nat,b = n:=⟨b.toNat,by omega⟩
  obtain ⟨y,hy⟩ : ∃ z,(hs.filter fun y=>decide (y ≠ x))[b]? = some z:=⟨(hs.filter fun y=>decide (y ≠ x))[b]'(by omega),by simp⟩
  have hym:=gy6.mp (cy3 hy);have pw4:=pw3.trans pw4;refine zv5 (d:=.str y) (zh8 (by rw [ay9,hy]; rfl)) ?_;refine zb1 (zf2 (zk1 (za2 (zc3 (za2 (bv 2 rfl (za2 (bv 4 rfl (za1 (zf0 (by intro _ _; rfl) (zg3 (za2 (zc3 (za2 (zc3 (za2 (zc3 (za2 (zc3 (za1 (zc3 ⟨wdsS.map .str,rfl,five,za4 N (hr.mono (by decide)) rfl DR.at_ DR.fn.kp DR.bd (za2 (bv 0 rfl (za1 (zb0 ⟨p,5,rfl,pw4.at hpl,by decide,by decide,fun r W5 c0 c1 pw5=>?_⟩))))⟩)))))))))))))))))))));obtain ⟨c,rfl⟩ : ∃ n : Nat,r = n:=⟨r.toNat,by omega⟩
  obtain ⟨z,hz⟩ : ∃ z,wdsS[c]? = some z:=⟨wdsS[c]'(by show c < 5; omega),cy0 _⟩
  refine zv5 (d:=.str z) (zh8 (by rw [ay9,hz]; rfl)) ⟨[.str "send",.str x,.str y,.str z],rfl,(by show 4 <= by0; decide),hk ⟨false,x,y,z⟩ _ rfl ⟨hh.nm x hxm,hh.nm y hym.1,ze50 z (cy3 hz),?_⟩ hxm hym.1 (cy3 hz) (pw4.trans pw5)⟩;have:=hym.2;simp at this;exact fun z=>this z.symm
end
abbrev Pr:=Str × Str
abbrev prK (e : Pr) : List Key:=[.inr e.1,.inr e.2]
abbrev prD (e : Pr) : PyData:=tupK (prK e)
theorem zE3 {a b : Pr} (h : prK a = prK b) : a = b:=by
 injection h with h1 h2
 injection h2 with h2 _
 exact Prod.ext (ty7 h1) (ty7 h2)
abbrev Uw:=Pr × List Str
abbrev kvU (e : Uw) : List Key × El:=(prK e.1,.d (.list (e.2.map .str)))
def zr3 (L : List Uw) (x y : Str) : List Str:=((L.find? fun e=>decide (e.1 = (x,y))).map (·.2)).getD []
def zX9 (L : List Uw) (p : Pr) (ws : List Str) : List Uw:=if (L.any fun a=>decide (a.1 = p)) = true then L.map (fun a=>if a.1 = p then (a.1,ws) else a) else L++[(p,ws)]
theorem zJ3 (L : List Uw) (x y : Str) : (zm6 (L.map kvU) [.inr x,.inr y]).getD (.d (.list [])) = .d (.list ((zr3 L x y).map .str)):=by
 unfold zm6 zr3;rw [List.find?_map]
 have : ((fun kv : List Key × El=>decide (kv.1 = [.inr x,.inr y])) ∘ kvU) = fun e : Uw=>decide (e.1 = (x,y)):=by
  funext e
  show decide (prK e.1 = prK (x,y)) = decide (e.1 = (x,y));rw [decide_eq_decide];exact ⟨zE3,fun h=>by rw [h]⟩
 rw [this];cases L.find? fun e=>decide (e.1 = (x,y)) <;> rfl
theorem zO1 (L : List Uw) (p : Pr) (ws : List Str) : zF5 (L.map kvU) (prK p) (.d (.list (ws.map .str))) = (zX9 L p ws).map kvU:=by
 have ha : ((L.map kvU).any fun a=>decide (a.1 = prK p)) = L.any fun a=>decide (a.1 = p):=by
  rw [List.any_map]
  congr 1
  funext a
  show decide (prK a.1 = prK p) = decide (a.1 = p);rw [decide_eq_decide];exact ⟨zE3,fun h=>by rw [h]⟩
 unfold zF5 zX9;rw [ha]
 split
 ·rw [gy1,gy1];refine ky7 fun a _=>?_;show (if (kvU a).1 = prK p then _ else _) = kvU (if a.1 = p then _ else _)
  by_cases h : a.1 = p
  ·rw [if_pos h,if_pos (by rw [<- h])]
  ·rw [if_neg h,if_neg (fun z=>h (zE3 z))]
 ·rw [gy2];rfl
theorem zx7 (L : List Uw) (p : Pr) (ws : List Str) : (zX9 L p ws).map (·.1) = if (L.any fun a=>decide (a.1 = p)) = true then L.map (·.1) else L.map (·.1)++[p]:=by
 unfold zX9
 split
 ·rw [gy1];refine ky7 fun a _=>?_;show (if a.1 = p then (a.1,ws) else a).1 = a.1
  split <;> rfl
 ·simp
theorem zd20 {L : List Uw} (nd : (L.map (·.1)).Nodup) (p : Pr) (ws : List Str) : ((zX9 L p ws).map (·.1)).Nodup:=by
 rw [zx7]
 split
 ·exact nd
 ·rename_i hn
  rw [List.nodup_append];refine ⟨nd,by simp,fun a ha b hb z=>hn ?_⟩;refine za0 fun gG=>?_;obtain ⟨c,hc,rfl⟩:=cy4.mp ha;refine gG ?_;clear gG;simp at hb;exact vy7.mpr ⟨c,hc,by simp [z.trans hb]⟩
theorem zR7 {L : List Uw} {p : Pr} {ws : List Str} {e : Uw} (h : e∈zX9 L p ws) : e.1∈L.map (·.1) \/ e.1 = p:=by
 have : e.1∈(zX9 L p ws).map (·.1):=cy4.mpr ⟨e,h,rfl⟩;rw [zx7] at this
 split at this
 ·exact .inl this
 ·rcases dy9.mp this with z | z
  ·exact .inl z
  ·exact .inr (by simpa using z)
theorem zb87 (L : List Uw) (p : Pr) (ws : List Str) : (zX9 L p ws).length <= L.length + 1:=by
 have:=congrArg vy9 (zx7 L p ws);rw [ay5] at this
 split at this
 ·rw [ay5] at this; omega
 ·rw [by5,ay5] at this; simp at this; omega
theorem za75 (L : List Uw) (p : Pr) (ws : List Str) (x y : Str) : zr3 (zX9 L p ws) x y = if (x,y) = p then ws else zr3 L x y:=by
 have h1:=zJ3 (zX9 L p ws) x y;rw [<- zO1,zR5] at h1
 by_cases e : (x,y) = p
 ·rw [if_pos e];rw [if_pos (by rw [<- e])] at h1;injection h1 with h1
  injection h1 with h1
  have inj : ∀ a b : List Str,a.map iy4 = b.map iy4->a = b:=fun a b h=>List.map_inj_right (fun _ _ z=>by injection z) |>.mp h
  exact (inj _ _ h1).symm
 ·rw [if_neg e];rw [if_neg (fun z=>e (zE3 z)),zJ3] at h1;injection h1 with h1
  injection h1 with h1
  have inj : ∀ a b : List Str,a.map iy4 = b.map iy4->a = b:=fun a b h=>List.map_inj_right (fun _ _ z=>by injection z) |>.mp h
  exact (inj _ _ h1).symm
theorem zp3 {e : Uw} : ∀ {L : List Uw},(L.map (·.1)).Nodup->e∈L->zr3 L e.1.1 e.1.2 = e.2
 | [],_,h=>by simp at h
 | a :: L,nd,h=>by
  simp only [ey6,ly5] at nd;unfold zr3;rw [hy0]
  by_cases ha : a.1 = e.1
  ·have : a = e:=by
    rcases by8.mp h with z | z
    ·exact z.symm
    ·exact absurd (cy4.mpr ⟨e,z,ha.symm⟩) nd.1
   subst this;simp
  ·have h' : e∈L:=(by8.mp h).resolve_left fun z=>ha (by rw [z]);have hd : decide (a.1 = (e.1.1,e.1.2)) = false:=decide_eq_false ha;rw [hd];exact zp3 nd.2 h'
structure zc7 (hs : List Str) (ds : List za7) : Prop where
 ok : ∀ d∈ds,d.Ok
 x : ∀ d∈ds,d.x∈hs
 y : ∀ d∈ds,d.y∈hs
theorem zc7.snoc {hs : List Str} {ds : List za7} (h : zc7 hs ds) {d : za7} (h1 : d.Ok) (h2 : d.x∈hs) (h3 : d.y∈hs) : zc7 hs (ds++[d]) :=
 ⟨fun e he=>(dy9.mp he).elim (h.ok e) fun z=>by simp at z; subst z; exact h1,fun e he=>(dy9.mp he).elim (h.x e) fun z=>by simp at z; subst z; exact h2,fun e he=>(dy9.mp he).elim (h.y e) fun z=>by simp at z; subst z; exact h3⟩
structure zO2 (K : ay4) (mg : Str->Option Value) (kA : Addr) : Prop where
 t : Txt mg
 letters : ∃ t,mg "LETTERS" = some (.str LET t)
 longest : ∃ t,mg "LONGEST_NAME" = some (.int 8 t)
 kinds : mg "KINDS" = some (.ref kA)
 kindsT : ∀ H,SqT K H kA [.str "send",.str "take"]
section
variable {P : cy6} {w : World} {K : ay4} {mg : Str->Option Value} {base : Heap} {kA : Addr}
def zf43 : RB:=fun es W k=>∃ x : Str,es = [.d (.str x)] /\ isNm x = true /\ k (.d (.bool true)) W
theorem ze51 : zb5 ["thing"] ["thing"] (za3 zt3):=⟨rfl,rfl,rfl,by decide +kernel,rfl,by decide +kernel,by decide +kernel⟩
def zf44 : Scope:=match za9 zt3 with
 | [_,.Return (some (.Call _ [.ListComp _ _ sc _] _ _)) _]=>sc
 | _=>zZ2
theorem zd21 : (["sign"] : List Str).Nodup:=by decide +kernel
theorem ze52 : zb7 ["thing"] (za3 zt3) ["sign"] [] [] zf44:=⟨rfl,by decide +kernel,by decide +kernel,by decide +kernel,rfl,by decide +kernel⟩
theorem zd22 {f : Addr} {fd : ey4} (F : Fun K "is_name" "is_name" zt3 f fd) (T : zO2 K mg kA) : zj9 P w K mg base CX0 1 f fd ["thing"] (spB K zf43):=by
 refine za0 fun gG=>?_;obtain ⟨tl,hlong⟩:=T.longest;obtain ⟨tt,hlet⟩:=T.letters;refine gG ?_;clear gG;refine zn1 F ze51 (fun es W k zR=>by obtain ⟨x,e,_⟩:=zR; subst e; rfl) fun cc hr es W k hcl zR=>?_;refine za0 fun gG=>?_;obtain ⟨x,e,hx,hk⟩:=zR;subst e;obtain ⟨h1,h2,h3⟩:=zc43.mp hx;refine gG ?_;clear gG;have h1 : 1 <= x.length:=by simp [cs] at h1; exact h1
 have h2 : x.length <= 8:=by simp [cs] at h2; exact h2
 refine za5 (zh7 (BW.bt (zq5 (zi1 (zg2 (zo3 rfl T.t.isi zb81 rfl T.t.str_ ze42 (by simp) (bv 0 rfl ⟨_,.inl rfl,_,rfl,zk6 (zl6 (zi1 (zb53 (zb0 (zd0 rfl T.t.len_ zt5 (za1 (bv 0 rfl (zc88 (zc1 (by omega)) (ze10 ⟨_,rfl,?_⟩)))))))))⟩)))))));rw [decide_eq_true (by omega)];refine zy3 (gI hlong (ze10 ⟨_,rfl,?_⟩));rw [decide_eq_true (by omega)];refine zk6 (zf4 ?_);refine zb1 (zf2 (zd0 rfl T.t.all_ ze41 (za1 (zw4 rfl ze52 (ze19 (bv 0 rfl ⟨x,rfl,za43 (fun _=>.bool true) trivial ?_ ?_ ?_⟩))))))
 ·unfold zw3;rw [ay5];exact ey0 h2 (by decide)
 ·intro d hd';refine za0 fun gG=>?_;obtain ⟨c,hc,rfl⟩:=cy4.mp hd';refine gG ?_;clear gG;refine zg4 (i:=0) zd21 rfl (by decide) (fun _ _ _ _ _=>Or.inl rfl) (fun _ _ _ _ _=>rfl) fun cl C ex s H=>?_;refine zs2 rfl (bv 0 rfl (gS hlet (ze14 ⟨?_,rfl⟩)));have:=h3 c hc;rw [ze22];simp [this]
 ·refine zc40 rfl (bs:=(zw3 x).map fun _=>true) (.inl ?_) ?_
  ·rw [gy1]; rfl
  ·rw [show ((zw3 x).map fun _=>true).all id = true by simp];exact hk
end
section
variable {P : cy6} {w : World} {K : ay4} {mg : Str->Option Value} {base : Heap} {kA : Addr}
def zf45 : RB:=fun es W k=>∃ d : za7,es = [.d (dP d)] /\ d.Ok /\ k (.d (.bool true)) W
abbrev nDd : List Str:=["thing", "kind", "giver", "taker", "word"]
theorem ze53 : zb5 nDd ["thing"] (za3 zD9):=⟨rfl,rfl,rfl,by decide +kernel,rfl,by decide +kernel,by decide +kernel⟩
theorem ndDd : nDd.Nodup:=by decide +kernel
theorem ze54 (d : za7) : d.kd∈(["send", "take"] : List Str):=by rcases ze24 d with e | e <;> simp [e]
theorem zd23 {f fN : Addr} {fd dN : ey4} (F : Fun K "is_deed" "is_deed" zD9 f fd) (T : zO2 K mg kA) (DN : Def K mg "is_name" zt3 fN dN ["thing"]) : zj9 P w K mg base CX0 2 f fd ["thing"] (spB K zf45):=by
 have N:=@zd22 P w K mg base kA _ _ DN.fn T;refine zn1 F ze53 (fun es W k zR=>by obtain ⟨d,e,_⟩:=zR; subst e; rfl) fun cc hr es W k hcl zR=>?_;refine za0 fun gG=>?_;obtain ⟨d,e,hd,hk⟩:=zR;subst e;refine gG ?_;clear gG;have hkd:=ze54 d;refine za5 (zh7 (BW.bt (zq5 (zi1 (zg2 (zo3 rfl T.t.isi zb81 rfl T.t.tuple_ zn7 (by simp) (bv 0 rfl ⟨_,.inl rfl,_,rfl,zk6 (zl6 (zd5 rfl (zd0 rfl T.t.len_ zt5 (za1 (bv 0 rfl (zq8 (zb0 (ze13 ⟨_,rfl,zk6 (zf4 ?_)⟩))))))))⟩)))))));refine za5 (zs5 (bv 0 rfl (zz6 rfl (.cons (i:=1) ndDd rfl (Or.inl rfl) (.cons (i:=2) ndDd rfl (Or.inl rfl) (.cons (i:=3) ndDd rfl (Or.inl rfl) (.cons (i:=4) ndDd rfl (Or.inl rfl) .nil)))) rfl ?_)));refine za5 (zh7 (BW.bt (zq5 (zi1 (zg2 (zo3 rfl T.t.isi zb81 rfl T.t.str_ ze42 (by simp) (bv 1 rfl ⟨_,.inl rfl,_,rfl,zk6 (zl6 (zd5 rfl (bv 1 rfl (zL4 rfl T.kinds (show RelV (.ref kA) _ from rfl) (fun F=>Rq.tup (T.kindsT F) (.cons (.str _) (.cons (.str _) .nil))) (zc87 (xs:=["send", "take"]) (.inr rfl) ⟨_,rfl,?_⟩)))))⟩)))))));rw [decide_eq_true hkd];refine zk6 (zf4 (zb1 (zf2 (zz4 (za4 N (hr.mono (by decide)) rfl DN.at_ DN.fn.kp DN.bd (za1 (bv 2 rfl ⟨_,rfl,hd.x,_,rfl,zy3 (zz4 (za4 N (hr.mono (by decide)) rfl DN.at_ DN.fn.kp DN.bd (za1 (bv 3 rfl ⟨_,rfl,hd.y,_,rfl,zy3 (zz4 (za4 N (hr.mono (by decide)) rfl DN.at_ DN.fn.kp DN.bd (za1 (bv 4 rfl ⟨_,rfl,hd.w,_,rfl,zy3 (zP7 (zs2 rfl (bv 2 rfl (bv 3 rfl (zP9 ?_)))))⟩))))⟩))))⟩)))))));rw [decide_eq_false hd.ne];exact hk
end
structure Ln where
 x : Str
 y : Str
 j : Nat
 ws : List Str
abbrev Ln.key (e : Ln) : List Key:=[.inr e.x,.inr e.y]
def ze4 (L : List Ln) (x y : Str) : Option Ln:=L.find? fun e=>decide (e.key = [.inr x,.inr y])
def zi5 (L : List Ln) (x y : Str) : List Str:=((ze4 L x y).map (·.ws)).getD []
structure ze5 (W : Wl) (q : Nat) (L : List Ln) : Prop where
 at_ : W[q]? = some (.dT (L.map fun e=>(e.key,El.o e.j)))
 obj : ∀ e∈L,W[e.j]? = some (.lst (zb6 (e.ws.map .str)))
 nd : (L.map (·.j)).Nodup
 nq : ∀ e∈L,e.j ≠ q
theorem zE4 (L : List Ln) (x y : Str) : zm6 (L.map fun e=>(e.key,El.o e.j)) [.inr x,.inr y] = (ze4 L x y).map fun e=>El.o e.j:=by
 unfold zm6 ze4;rw [List.find?_map,Option.map_map];rfl
theorem zl2 {L : List Ln} {x y : Str} {e : Ln} (h : ze4 L x y = some e) : e∈L /\ e.x = x /\ e.y = y:=by
 have h1:=List.mem_of_find?_eq_some h;have h2:=List.find?_some h;simp at h2;exact ⟨h1,h2.1,h2.2⟩
section
variable {P : cy6} {w : World} {K : ay4} {mg : Str->Option Value} {base : Heap} {kA : Addr}
def rCan : RB:=fun as W k=>∃ (q : Nat) (d : za7) (L : List Ln),as = [.o q,.d (dP d)] /\ d.Ok /\ ze5 W q L /\ (∀ e∈L,∀ z∈e.ws,uy2 z = true) /\ k (.d (.bool (!d.tk || decide ((zi5 L d.x d.y).take 1 = [d.w])))) W
abbrev nCa : List Str:=["lines", "deed", "kind", "giver", "taker", "word"]
theorem scCa : zb5 nCa ["lines", "deed"] (za3 zZ1):=⟨rfl,rfl,rfl,by decide +kernel,rfl,by decide +kernel,by decide +kernel⟩
theorem ndCa : nCa.Nodup:=by decide +kernel
theorem zc50 {f : Addr} {fd : ey4} (F : Fun K "can_be_done" "can_be_done" zZ1 f fd) (T : zO2 K mg kA) : zj9 P w K mg base CX0 1 f fd ["lines", "deed"] (spB K rCan):=by
 refine zn1 F scCa (fun as W k hR=>by obtain ⟨q,d,L,e,_⟩:=hR; subst e; rfl) fun cc hr as W k hcl hR=>?_;refine exE3 hR fun q d L qA=>?_;clear hR;refine anE5 qA fun e hok hL hsk hk=>?_;clear qA;subst e;refine za5 (zs5 (bv 1 rfl (zz6 rfl (.cons (i:=2) ndCa rfl (Or.inl rfl) (.cons (i:=3) ndCa rfl (Or.inl rfl) (.cons (i:=4) ndCa rfl (Or.inl rfl) (.cons (i:=5) ndCa rfl (Or.inl rfl) .nil)))) rfl ?_)));refine zb1 (zf2 (zf22 (zs2 rfl (bv 2 rfl (zc3 (zo2 ⟨_,rfl,?_⟩))))))
 by_cases ht : d.tk = true
 ·have hkd : d.kd ≠ "send" := by
   unfold za7.kd;rw [ht];decide +kernel
  rw [decide_eq_false hkd];rw [ht] at hk;refine zk6 (zP7 (zs2 rfl (ze0 (zm5 iy1 py2 uy5 (bv 0 rfl ⟨.inr ⟨rfl,.inr ⟨_,hL.at_⟩⟩,za2 (zk1 (za2 (bv 3 rfl (za1 (bv 4 rfl ⟨[.str d.x,.str d.y],rfl,(by show 2 <= by0; decide),?_⟩)))))⟩)))));refine za1 (zg3 (zi9 ⟨[],rfl,dy7 _,zu1 (ks:=[.inr d.x,.inr d.y]) hr.units hL.at_ ?_⟩));rw [zE4]
  have fin : ∀ zs : List Str,(∀ z∈zs,uy2 z = true)->zi5 L d.x d.y = zs->BE (mkB nCa "can_be_done" (za3 zZ1) P w K mg base f cc) [some (.o q),some (.d (dP d)),some (.d (.str d.kd)),some (.d (.str d.x)),some (.d (.str d.y)),some (.d (.str d.w))] W (match za9 zZ1 with | [_,.Return (some (.BoolOp _ [_,.Compare _ _ [r] _] _)) _]=>r | _=>.Constant .none 0 ⟨0,0,0,0⟩) (fun y W2=>OB (mkB nCa "can_be_done" (za3 zZ1) P w K mg base f cc) (fy7 .Eq) (.d (.list ((zs.take 1).map .str))) y W2 k):=fun zs hz hw=>by
   refine zg3 (za1 (bv 5 rfl ⟨[.str d.w],rfl,(by show 1 <= by0; decide),zf24 hr.units (d:=.list ((zs.take 1).map .str)) (e:=.list ([d.w].map .str)) (.inl rfl) (.inl rfl) (zm3 fun z h=>hz z (ky4 h)) (zm3 (by simp [zj3 hok.w])) ?_⟩));rw [show ly0 (.list ((zs.take 1).map .str)) (.list ([d.w].map .str)) = decide (zs.take 1 = [d.w]) by simp only [ly0]; exact zB9 _ _,<- hw];simpa using hk
  cases hf : ze4 L d.x d.y with
  | none =>
   refine zh3 (zd9 (zb0 ⟨1,rfl,zH2 ?_⟩));have:=fin [] (by simp) (by unfold zi5; rw [hf]; rfl);rw [show zn0 ([] : List PyData) none (some 1) = [] from zs7 [] 1];exact this
  | some e =>
   refine za0 fun gG=>?_;obtain ⟨he,hx,hy⟩:=zl2 hf;refine gG ?_;clear gG;refine zh3 (zd9 (zb0 ⟨1,rfl,ze08 (hL.obj e he) ?_⟩));have:=fin e.ws (hsk e he) (by unfold zi5; rw [hf]; rfl);rw [show zn0 (e.ws.map iy4) none (some 1) = (e.ws.take 1).map .str by rw [ry4]; exact zs7 _ 1];exact this
 ·have ht : d.tk = false:=by simpa using ht
  have hkd : d.kd = "send" := by unfold za7.kd; rw [ht]; rfl
  rw [decide_eq_true hkd];rw [ht] at hk;exact zy3 hk
end
structure zj6 (m : Nat) (L : List Ln) : Prop where
 len : L.length <= m
 ws : ∀ e∈L,e.ws.length <= m /\ ∀ z∈e.ws,isNm z = true
theorem zj6.sok {m : Nat} {L : List Ln} (h : zj6 m L) : ∀ e∈L,∀ z∈e.ws,uy2 z = true:=fun e he z hz=>zj3 ((h.ws e he).2 z hz)
def zh5 (d : za7) (ws : List Str) : List Str:=if d.tk then ws.tail else ws++[d.w]
structure Step (L : List Ln) (d : za7) (L' : List Ln) : Prop where
 here : (ze4 L' d.x d.y).map (·.ws) = some (zh5 d (zi5 L d.x d.y))
 else_ : ∀ x y,¬ (x = d.x /\ y = d.y)->(ze4 L' x y).map (·.ws) = (ze4 L x y).map (·.ws)
def Frame (W : Wl) (q : Nat) (L : List Ln) (W' : Wl) : Prop:=W.length <= W'.length /\ ∀ i,i < W.length->i ≠ q->(∀ e∈L,e.j ≠ i)->W'[i]? = W[i]?
def putL (L : List Ln) (x y : Str) (ws : List Str) : List Ln:=L.map fun e=>if e.key = [.inr x,.inr y] then { e with ws:=ws } else e
theorem zR8 (L : List Ln) (x y : Str) (ws : List Str) (x' y' : Str) : ze4 (putL L x y ws) x' y' = (ze4 L x' y').map fun e=>if e.key = [.inr x,.inr y] then { e with ws:=ws } else e:=by
 unfold ze4 putL;rw [List.find?_map]
 congr 1
 apply congrArg (fun p=>List.find? p L)
 funext e
 simp only [Function.comp]
 split <;> rfl
theorem za76 {L : List Ln} {n : Ln} {x y : Str} (h : ze4 L x y = none) : ze4 (L++[n]) x y = if n.key = [.inr x,.inr y] then some n else none:=by
 unfold ze4 at *;rw [List.find?_append,h];simp [hy0]
 split <;> simp_all
theorem zY0 {L : List Ln} {n : Ln} {x y : Str} (h : ¬ n.key = [.inr x,.inr y]) : ze4 (L++[n]) x y = ze4 L x y:=by
 unfold ze4;rw [List.find?_append,show List.find? (fun e : Ln=>decide (e.key = [.inr x,.inr y])) [n] = none by rw [hy0]; simp only [decide_eq_false h]; rfl];simp
theorem zb88 (L : List Ln) (x y : Str) (ws : List Str) : (putL L x y ws).map (fun e=>(e.key,El.o e.j)) = L.map fun e=>(e.key,El.o e.j):=by
 unfold putL;rw [gy1];apply ky7;intro e he;simp only [Function.comp]
 split <;> rfl
theorem ze55 (L : List Ln) (x y : Str) (ws : List Str) : (putL L x y ws).map (·.j) = L.map (·.j):=by
 unfold putL;rw [gy1];apply ky7;intro e he;simp only [Function.comp]
 split <;> rfl
theorem zf46 {L : List Ln} (nd : (L.map (·.j)).Nodup) {a b : Ln} (ha : a∈L) (hb : b∈L) (h : a.j = b.j) : a = b:=by
 induction L with
 | nil=>simp at ha
 | cons c L ih =>
  rw [ey6,ly5] at nd;have no : ∀ z∈L,c.j ≠ z.j:=fun z hz e=>nd.1 (cy4.mpr ⟨z,hz,e.symm⟩);rcases by8.mp ha with ea | ha'
  ·rcases by8.mp hb with eb | hb'
   ·rw [ea,eb]
   ·rw [ea] at h;exact absurd h (no b hb')
  ·rcases by8.mp hb with eb | hb'
   ·rw [eb] at h;exact absurd h.symm (no a ha')
   ·exact ih nd.2 ha' hb'
theorem ze5.put {W : Wl} {q : Nat} {L : List Ln} (h : ze5 W q L) {e : Ln} {x y : Str} (he : ze4 L x y = some e) (ws : List Str) (V : Wl) (uniq : ∀ a∈L,a.key = [.inr x,.inr y]->a = e) :
  ze5 ((W++V).set e.j (.lst (zb6 (ws.map .str)))) q (putL L x y ws) /\ Frame W q L ((W++V).set e.j (.lst (zb6 (ws.map .str)))):=by
 refine za0 fun gG=>?_;obtain ⟨hm,hx,hy⟩:=zl2 he;refine gG ?_;clear gG;have hq : q < W.length:=(ay3.mp h.at_).1;have hj : e.j < W.length:=(ay3.mp (h.obj e hm)).1
 have old : ∀ {i : Nat} {o : OD},W[i]? = some o->i ≠ e.j->((W++V).set e.j (.lst (zb6 (ws.map .str))))[i]? = some o:=fun {i o} ho hi=>by
  have hl : i < W.length:=(ay3.mp ho).1;rw [cy8 (fy4 hi),ay8 hl];exact ho
 refine ⟨⟨?_,fun a ha=>?_,by rw [ze55]; exact h.nd,fun a ha=>?_⟩,by simp,fun i hi iq hL=>?_⟩
 ·rw [zb88];exact old h.at_ (fy4 (h.nq e hm))
 ·refine za0 fun gG=>?_;obtain ⟨b,hb,rfl⟩:=cy4.mp ha;refine gG ?_;clear gG
  by_cases hk : b.key = [.inr x,.inr y]
  ·rw [if_pos hk,uniq b hb hk];show ((W++V).set e.j _)[e.j]? = _;rw [fy9 (by rw [by5]; omega)]
  ·rw [if_neg hk];refine old (h.obj b hb) fun z=>hk ?_;rw [zf46 h.nd hb hm z,<- hx,<- hy]
 ·refine za0 fun gG=>?_;obtain ⟨b,hb,rfl⟩:=cy4.mp ha;refine gG ?_;clear gG;have:=h.nq b hb
  split <;> exact this
 ·rw [cy8 (hL e hm),ay8 hi]
def newW (W : Wl) (q : Nat) (L : List Ln) (x y : Str) (ws : List Str) : Wl:=((W++[OD.lst []]).set q (OD.dT (L.map (fun e : Ln=>(e.key,El.o e.j))++[([.inr x,.inr y],.o W.length)]))).set W.length (OD.lst (zb6 (ws.map .str)))
theorem ze5.new {W : Wl} {q : Nat} {L : List Ln} (h : ze5 W q L) (x y : Str) (ws : List Str) : ze5 (newW W q L x y ws) q (L++[⟨x,y,W.length,ws⟩]) /\ Frame W q L (newW W q L x y ws):=by
 unfold newW;have hq : q < W.length:=(ay3.mp h.at_).1;have hj : ∀ e∈L,e.j < W.length:=fun e he=>(ay3.mp (h.obj e he)).1;refine ⟨⟨?_,fun a ha=>?_,?_,fun a ha=>?_⟩,by simp,fun i hi iq hL=>?_⟩
 ·rw [cy8 (by omega),fy9 (by simp; omega),gy2];rfl
 ·rcases dy9.mp ha with ha | ha
  ·rw [cy8 (oy3 (hj a ha)),cy8 (fy4 (h.nq a ha)),ay8 (hj a ha)];exact h.obj a ha
  ·cases fy1.mp ha;show (List.set _ W.length _)[W.length]? = _;rw [fy9 (by simp)]
 ·rw [gy2]
  exact zw6 h.nd fun z=>by
   refine za0 fun gG=>?_;obtain ⟨e,he,z⟩:=cy4.mp z;refine gG ?_;clear gG;have:=hj e he;simp at z;omega
 ·rcases dy9.mp ha with ha | ha
  ·exact h.nq a ha
  ·cases fy1.mp ha;show W.length ≠ q;omega
 ·rw [cy8 (by omega),cy8 (fy4 iq),ay8 hi]
def NewJ (n : Nat) (L L' : List Ln) : Prop:=∀ e∈L',(∃ e0∈L,e0.j = e.j) \/ n <= e.j
theorem NewJ.put (n : Nat) (L : List Ln) (x y : Str) (ws : List Str) : NewJ n L (putL L x y ws):=fun a ha=>by
 refine za0 fun gG=>?_;obtain ⟨b,hb,rfl⟩:=cy4.mp ha;refine gG ?_;clear gG;refine .inl ⟨b,hb,?_⟩
 split <;> rfl
theorem NewJ.new {n : Nat} {L : List Ln} {e : Ln} (h : n <= e.j) : NewJ n L (L++[e]):=fun a ha=>by
 rcases dy9.mp ha with ha | ha
 ·exact .inl ⟨a,ha,rfl⟩
 ·cases fy1.mp ha;exact .inr h
def ze9 (L : List Ln) : Prop:=(L.map Ln.key).Nodup
theorem ze9.uniq {L : List Ln} (h : ze9 L) {e : Ln} {x y : Str} (he : ze4 L x y = some e) : ∀ a∈L,a.key = [.inr x,.inr y]->a = e:=by
 refine za0 fun gG=>?_;obtain ⟨hm,hx,hy⟩:=zl2 he;refine gG ?_;clear gG;have hk : e.key = [.inr x,.inr y]:=by rw [<- hx,<- hy]
 unfold ze9 at h;clear he
 induction L with
 | nil=>simp at hm
 | cons c L ih =>
  rw [ey6,ly5] at h;have no : ∀ z∈L,c.key ≠ z.key:=fun z hz e=>h.1 (cy4.mpr ⟨z,hz,e.symm⟩);intro a ha hak;rcases by8.mp ha with ea | ha'
  ·rcases by8.mp hm with eb | hb'
   ·rw [ea,eb]
   ·exact absurd (by rw [<- ea,hak,hk]) (no e hb')
  ·rcases by8.mp hm with eb | hb'
   ·exact absurd (by rw [<- eb,hak,hk]) (no a ha')
   ·exact ih h.2 hb' a ha' hak
theorem ze9.put {L : List Ln} (h : ze9 L) (x y : Str) (ws : List Str) : ze9 (putL L x y ws):=by
 unfold ze9 putL at *;rw [gy1,show (Ln.key ∘ fun e : Ln=>if e.key = [.inr x,.inr y] then { e with ws:=ws } else e) = Ln.key by funext e; simp only [Function.comp]; split <;> rfl];exact h
theorem find_none {L : List Ln} {x y : Str} (h : ze4 L x y = none) : ([.inr x,.inr y] : List Key) ∉ L.map Ln.key:=fun z=>by
 refine za0 fun gG=>?_;obtain ⟨e,he,hk⟩:=cy4.mp z;refine gG ?_;clear gG;have:=ty6.mp h e he;exact this (by simpa using hk)
theorem ze9.new {L : List Ln} (h : ze9 L) {x y : Str} (hn : ze4 L x y = none) (j : Nat) (ws : List Str) : ze9 (L++[⟨x,y,j,ws⟩]):=by
 unfold ze9 at *;rw [gy2];exact zw6 h (find_none hn)
theorem zj6.put {m : Nat} {L : List Ln} (h : zj6 m L) (x y : Str) {ws : List Str} (h1 : ws.length <= m + 1) (h2 : ∀ z∈ws,isNm z = true) : zj6 (m + 1) (putL L x y ws):=⟨by unfold putL; rw [ay5]; exact vy1 h.len,fun a ha=>by
 refine za0 fun gG=>?_;obtain ⟨b,hb,rfl⟩:=cy4.mp ha;refine gG ?_;clear gG
 split
 ·exact ⟨h1,h2⟩
 ·exact ⟨vy1 (h.ws b hb).1,(h.ws b hb).2⟩⟩
theorem zj6.new {m : Nat} {L : List Ln} (h : zj6 m L) (x y : Str) (j : Nat) {ws : List Str} (h1 : ws.length <= m + 1) (h2 : ∀ z∈ws,isNm z = true) : zj6 (m + 1) (L++[⟨x,y,j,ws⟩]):=⟨by rw [by5]; exact Nat.succ_le_succ h.len,fun a ha=>by
 rcases dy9.mp ha with ha | ha
 ·exact ⟨vy1 (h.ws a ha).1,(h.ws a ha).2⟩
 ·cases fy1.mp ha
  exact ⟨h1,h2⟩⟩
theorem Step.put {L : List Ln} {d : za7} {e : Ln} (he : ze4 L d.x d.y = some e) {ws : List Str} (hw : ws = zh5 d e.ws) : Step L d (putL L d.x d.y ws):=by
 have hk : e.key = [.inr d.x,.inr d.y]:=by obtain ⟨_,hx,hy⟩:=zl2 he; rw [<- hx,<- hy]
 constructor
 ·rw [zR8,he];simp only [wy7,if_pos hk];unfold zi5;rw [he,hw];rfl
 ·intro x y hne;rw [zR8];cases h : ze4 L x y with
  | none=>rfl
  | some a =>
   refine za0 fun gG=>?_;obtain ⟨_,hx,hy⟩:=zl2 h;refine gG ?_;clear gG;have : ¬ a.key = [.inr d.x,.inr d.y]:=fun z=>hne (by rw [<- hx,<- hy]; simpa using z);simp only [wy7,if_neg this]
theorem Step.new {L : List Ln} {d : za7} (hn : ze4 L d.x d.y = none) (j : Nat) {ws : List Str} (hw : ws = zh5 d []) : Step L d (L++[⟨d.x,d.y,j,ws⟩]):=by
 constructor
 ·rw [za76 hn,if_pos rfl,hw];unfold zi5;rw [hn];rfl
 ·intro x y hne;rw [zY0 (fun z=>hne (by simpa [eq_comm] using z))]
section
variable {P : cy6} {w : World} {K : ay4} {mg : Str->Option Value} {base : Heap} {kA : Addr}
def rDo : RB:=fun as W k=>∃ (q : Nat) (d : za7) (L : List Ln) (m : Nat),as = [.o q,.d (dP d)] /\ d.Ok /\ ze5 W q L /\ ze9 L /\ zj6 m L /\ m <= 1000 /\ (d.tk = true->zi5 L d.x d.y ≠ []) /\
 ∀ W' L',ze5 W' q L'->ze9 L'->zj6 (m + 1) L'->Step L d L'->Frame W q L W'->NewJ W.length L L'->k (.d .none) W'
abbrev nDo : List Str:=["lines", "deed", "kind", "giver", "taker", "word", "words"]
theorem scDo : zb5 nDo ["lines", "deed"] (za3 sDo):=⟨rfl,rfl,rfl,by decide +kernel,rfl,by decide +kernel,by decide +kernel⟩
theorem ndDo : nDo.Nodup:=by decide +kernel
theorem ze57 {f : Addr} {fd : ey4} (F : Fun K "do_deed" "do_deed" sDo f fd) (T : zO2 K mg kA) : zj9 P w K mg base CX0 1 f fd ["lines", "deed"] (spB K rDo):=by
 refine zn1 F scDo (fun as W k hR=>by obtain ⟨q,d,L,m,e,_⟩:=hR; subst e; rfl) fun cc hr as W k hcl hR=>?_;refine exE4 hR fun q d L m qA=>?_;clear hR;refine anE8 qA fun e hok hL hK hS hm ht hk=>?_;clear qA;subst e;have hq : q < W.length:=(ay3.mp hL.at_).1;have hL1 : ∀ {a : Nat},a <= 2000->a < by0:=fun h=>ny5 h (by3 (show 2000 < 3000 by decide) (zc1 (by decide)));refine za5 (zs5 (bv 1 rfl (zz6 rfl (.cons (i:=2) ndDo rfl (Or.inl rfl) (.cons (i:=3) ndDo rfl (Or.inl rfl) (.cons (i:=4) ndDo rfl (Or.inl rfl) (.cons (i:=5) ndDo rfl (Or.inl rfl) .nil)))) rfl ?_)));refine za5 (zc2 (i:=6) ndDo rfl (Or.inl rfl) (zm5 iy1 PySem.F.slot_dict_setdefault PySem.F.type_dict_setdefault (bv 0 rfl ⟨.inr ⟨rfl,.inr ⟨_,hL.at_⟩⟩,za2 (zM2 (za2 (bv 3 rfl (za1 (bv 4 rfl ⟨[.inr d.x,.inr d.y],rfl,(by show 2 <= by0; decide),za1 (zq6 (zi9 ⟨dy7 _,?_⟩))⟩)))))⟩)));refine zV8 hr.units (by rw [ay8 hq]; exact hL.at_) (fun e he=>?_) (fun hn=>⟨?_,?_⟩)
 ·rw [zE4] at he;cases hf : ze4 L d.x d.y with
  | none=>rw [hf] at he; cases he
  | some l =>
   rw [hf] at he;cases he;refine za0 fun gG=>?_;obtain ⟨hmem,hx,hy⟩:=zl2 hf;obtain ⟨hwl,hwn⟩:=hS.ws l hmem;refine gG ?_;clear gG;have hlj : l.j < W.length:=(ay3.mp (hL.obj l hmem)).1;have hobj : (W++[OD.lst []])[l.j]? = some (.lst (zb6 (l.ws.map .str))):=by rw [ay8 hlj]; exact hL.obj l hmem
   have go : ∀ ws : List Str,ws = zh5 d l.ws->ws.length <= m + 1->(∀ z∈ws,isNm z = true)->k (.d .none) ((W++[OD.lst []]).set l.j (.lst (zb6 (ws.map .str)))):=fun ws e1 e2 e3=>by
    obtain ⟨a,b⟩:=hL.put hf ws [OD.lst []] (hK.uniq hf);exact hk _ _ a (hK.put _ _ _) (hS.put _ _ e2 e3) (Step.put hf e1) b (NewJ.put _ _ _ _ _)
   refine zb1 (zh7 (zd5 rfl (bv 2 rfl (zc3 (zo2 ⟨_,rfl,?_⟩)))))
   by_cases htk : d.tk = true
   ·have hkd : d.kd ≠ "send" := by
     unfold za7.kd;rw [htk];decide +kernel
    rw [decide_eq_false hkd];have hne:=ht htk;unfold zi5 at hne;rw [hf] at hne;cases hws : l.ws with
    | nil=>exact absurd hws hne
    | cons z rest =>
     rw [hws] at hobj hwl hwn;refine zk6 (zb1 (ze1 (zm5 fy5 PySem.F.slot_list_pop PySem.F.type_list_pop (bv 6 rfl ⟨.inl ⟨rfl,_,hobj⟩,za1 (zb0 (za38 (y:=.d (.str z)) (es:=zb6 (rest.map .str)) hobj ?_))⟩))));exact go rest (by unfold zh5; rw [if_pos htk,hws]; rfl) (by simp at hwl; omega) fun y hy=>hwn y (by1 _ hy)
   ·have htk : d.tk = false:=by simpa using htk
    have hkd : d.kd = "send" := by unfold za7.kd; rw [htk]; rfl
    rw [decide_eq_true hkd];refine zy3 (zb1 (ze1 (zm5 fy5 ly1 ly2 (bv 6 rfl ⟨.inl ⟨rfl,_,hobj⟩,za1 (bv 5 rfl (zk2 hobj ?_ ?_))⟩))))
    ·simp only [zb6,ay5];exact hL1 (by omega)
    ·have:=go (l.ws++[d.w]) (by unfold zh5; rw [htk]; rfl) (by rw [by5]; simp; omega) (fun z hz=>by
      rcases dy9.mp hz with hz | hz
      ·exact hwn z hz
      ·cases fy1.mp hz; exact hok.w)
     simpa [zb6] using this
 ·rw [ay5];have:=hS.len;exact hL1 (by omega)
 ·rw [zE4] at hn
  have hf : ze4 L d.x d.y = none:=by
   cases h : ze4 L d.x d.y with
   | none=>rfl
   | some l=>rw [h] at hn; cases hn
  have hw0 : zi5 L d.x d.y = []:=by unfold zi5; rw [hf]; rfl
  have htk : d.tk = false:=by
   cases h : d.tk with
   | false=>rfl
   | true=>exact absurd hw0 (ht h)
  have hkd : d.kd = "send" := by unfold za7.kd; rw [htk]; rfl
  refine zb1 (zh7 (zd5 rfl (bv 2 rfl (zc3 (zo2 ⟨_,rfl,?_⟩)))));rw [decide_eq_true hkd]
  have hobj : ((W++[OD.lst []]).set q (OD.dT (L.map (fun e : Ln=>(e.key,El.o e.j))++[([.inr d.x,.inr d.y],.o W.length)])))[W.length]? = some (.lst []):=by
   rw [cy8 (by omega)];simp
  refine zy3 (zb1 (ze1 (zm5 fy5 ly1 ly2 (bv 6 rfl ⟨.inl ⟨rfl,_,hobj⟩,za1 (bv 5 rfl (zk2 hobj (hL1 (by simp)) ?_))⟩))));obtain ⟨a,b⟩:=hL.new d.x d.y [d.w];exact hk _ _ a (hK.new hf _ _) (hS.new _ _ _ (by simp) (by simp [hok.w])) (Step.new hf _ (by unfold zh5; rw [htk]; rfl)) b (NewJ.new (ay6 _))
end
abbrev Wd:=Str->Str->List Str
def zc4 (f : Wd) (d : za7) : Wd:=fun x y=>if x = d.x /\ y = d.y then zh5 d (f x y) else f x y
def zg5 (ds : List za7) : Wd:=ds.foldl zc4 fun _ _=>[]
def zl4 (f : Wd) (d : za7) : Bool:=!d.tk || decide ((f d.x d.y).take 1 = [d.w])
def Goes (ds : List za7) : Prop:=∀ i d,ds[i]? = some d->zl4 (zg5 (ds.take i)) d = true
theorem zR9 {ds : List za7} {i : Nat} {d : za7} (h : ds[i]? = some d) : zg5 (ds.take (i + 1)) = zc4 (zg5 (ds.take i)) d:=by
 unfold zg5;rw [ey7,h];simp [List.foldl_append]
theorem Step.words {L L' : List Ln} {d : za7} (h : Step L d L') {f : Wd} (hf : ∀ x y,zi5 L x y = f x y) : ∀ x y,zi5 L' x y = zc4 f d x y:=fun x y=>by
 unfold zc4
 by_cases e : x = d.x /\ y = d.y
 ·refine za0 fun gG=>?_;obtain ⟨rfl,rfl⟩:=e;refine gG ?_;clear gG;rw [if_pos ⟨rfl,rfl⟩,<- hf];show ((ze4 L' d.x d.y).map (·.ws)).getD [] = _;rw [h.here];rfl
 ·rw [if_neg e,<- hf];show ((ze4 L' x y).map (·.ws)).getD [] = ((ze4 L x y).map (·.ws)).getD [];rw [h.else_ x y e]
structure zn8 (W : Wl) (q : Nat) (m : Nat) (f : Wd) (W' : Wl) (L : List Ln) : Prop where
 at_ : ze5 W' q L
 ks : ze9 L
 sm : zj6 m L
 fs : ∀ x y,zi5 L x y = f x y
 js : ∀ e∈L,W.length <= e.j
 le : W.length <= W'.length
 old : ∀ i,i < W.length->i ≠ q->W'[i]? = W[i]?
theorem zn8.step {W W1 W2 : Wl} {q m : Nat} {f : Wd} {L L2 : List Ln} {d : za7} (h : zn8 W q m f W1 L) (a : ze5 W2 q L2) (b : ze9 L2) (c : zj6 (m + 1) L2) (s : Step L d L2) (fr : Frame W1 q L W2) (nj : NewJ W1.length L L2) : zn8 W q (m + 1) (zc4 f d) W2 L2 where
 at_:=a
 ks:=b
 sm:=c
 fs:=s.words h.fs
 js:=fun e he=>by
  rcases nj e he with ⟨e0,h0,h1⟩ | h1
  ·rw [<- h1]; exact h.js e0 h0
  ·exact ey0 h.le h1
 le:=ey0 h.le fr.1
 old:=fun i hi iq=>(fr.2 i (by3 hi h.le) iq fun e he z=>by have:=h.js e he; omega).trans (h.old i hi iq)
theorem zc51 {f : Wd} {d : za7} (h : zl4 f d = true) (ht : d.tk = true) : f d.x d.y ≠ []:=fun z=>by
 unfold zl4 at h;rw [ht,z] at h;simp at h
theorem ze9.self {L : List Ln} (h : ze9 L) {e : Ln} (he : e∈L) : ze4 L e.x e.y = some e:=by
 cases hf : ze4 L e.x e.y with
 | none=>exact absurd (cy4.mpr ⟨e,he,rfl⟩) (find_none hf)
 | some a=>rw [h.uniq hf e he rfl]
theorem Step.keys {L L' : List Ln} {d : za7} {p : Str->Str->Prop} (h : Step L d L') (nd : ze9 L') (hK : ∀ e∈L,p e.x e.y) (hd : p d.x d.y) : ∀ e∈L',p e.x e.y:=fun e he=>by
 by_cases hx : e.x = d.x /\ e.y = d.y
 ·rw [hx.1,hx.2]; exact hd
 ·have h1:=h.else_ e.x e.y hx;rw [nd.self he] at h1;cases hf : ze4 L e.x e.y with
  | none=>rw [hf] at h1; cases h1
  | some a =>
   refine za0 fun gG=>?_;obtain ⟨m,h2,h3⟩:=zl2 hf;refine gG ?_;clear gG;have:=hK a m;rw [h2,h3] at this;exact this
section
variable {P : cy6} {w : World} {K : ay4} {mg : Str->Option Value} {base : Heap} {kA : Addr}
def zd24 : RB:=fun as W k=>∃ ds : List za7,as = [.d (rP ds)] /\ (∀ d∈ds,d.Ok) /\ ds.length <= 900 /\ Goes ds /\ ∀ V L,zn8 W W.length ds.length (zg5 ds) (W++V) L->(∀ e∈L,∃ d∈ds,d.x = e.x /\ d.y = e.y)->k (.o W.length) (W++V)
abbrev nBh : List Str:=["row", "lines", "number", "deed"]
theorem scBh : zb5 nBh ["row"] (za3 zl8):=⟨rfl,rfl,rfl,by decide +kernel,rfl,by decide +kernel,by decide +kernel⟩
theorem ndBh : nBh.Nodup:=by decide +kernel
theorem zp4 {f fN fD fC fO : Addr} {fd dN dD dC dO : ey4} (F : Fun K "lines_behind" "lines_behind" zl8 f fd) (T : zO2 K mg kA) (DN : Def K mg "is_name" zt3 fN dN ["thing"]) (DD : Def K mg "is_deed" zD9 fD dD ["thing"]) (DC : Def K mg "can_be_done" zZ1 fC dC ["lines", "deed"]) (DO : Def K mg "do_deed" sDo fO dO ["lines", "deed"]) :
  zj9 P w K mg base CX0 3 f fd ["row"] (spB K zd24):=by
 have ND:=@zd23 P w K mg base kA _ _ _ _ DD.fn T DN;have NC:=@zc50 P w K mg base kA _ _ DC.fn T;have NO:=@ze57 P w K mg base kA _ _ DO.fn T;refine zn1 F scBh (fun as W k hR=>by obtain ⟨ds,e,_⟩:=hR; subst e; rfl) fun cc hr as W k hcl hR=>?_;refine za0 fun gG=>?_;obtain ⟨ds,e,hok,hl,hgo,hk⟩:=hR;subst e;refine gG ?_;clear gG;refine za5 (zh7 (zi1 (zg2 (zo3 rfl T.t.isi zb81 rfl T.t.tuple_ zn7 (by simp) (bv 0 rfl ⟨_,.inl rfl,_,rfl,?_⟩)))));refine zk6 (zf4 (za5 (zc2 (i:=1) ndBh rfl (Or.inl rfl) (zC4 ?_))));have start : zn8 W W.length 0 (fun _ _=>[]) (W++[.dT []]) []:=⟨⟨by simp,by simp,by simp,by simp⟩,by simp [ze9],⟨by simp,by simp⟩,fun _ _=>rfl,by simp,by simp,fun i hi _=>ay8 hi⟩
 refine za5 (za53 jy7 rfl rfl T.t.enum_ (za1 (bv 0 rfl ⟨ds.map dP,W.length,fun i S' W'=>∃ o2 o3 L,S' = [some (.d (rP ds)),some (.o W.length),o2,o3] /\ zn8 W W.length i (zg5 (ds.take i)) W' L /\ ∀ e∈L,∃ d∈ds,d.x = e.x /\ d.y = e.y,rfl,ay6 _,by simp,⟨none,none,[],rfl,start,by simp⟩,?_,?_⟩)))
 ·intro i dd S' W' hd gX;refine exE3 gX fun o2 o3 L qA=>?_;clear gX;refine anE3 qA fun qe0 hL hK=>?_;clear qA;subst qe0;rw [ay9] at hd;cases hy : ds[i]? with
  | none=>rw [hy] at hd; cases hd
  | some d =>
   rw [hy] at hd;cases hd;have hdk:=hok d (cy3 hy);have hi : i < ds.length:=(ay3.mp hy).1;have hcan:=hgo i d hy;refine zz6 rfl (.cons (i:=2) ndBh rfl (Or.inl rfl) (.cons (i:=3) ndBh rfl (Or.inl rfl) .nil)) rfl ?_;refine za5 (zh7 (BW.bt (zq5 (zi1 (zg2 (za4 ND (hr.mono (by decide)) rfl DD.at_ DD.fn.kp DD.bd (za1 (bv 3 rfl ⟨d,rfl,hdk,_,rfl,?_⟩))))))));refine zk6 (zl6 (zi1 (zg2 (za4 NC (hr.mono (by decide)) rfl DC.at_ DC.fn.kp DC.bd (za2 (bv 1 rfl (za1 (bv 3 rfl ⟨W.length,d,L,rfl,hdk,hL.at_,hL.sm.sok,_,rfl,?_⟩))))))));rw [hL.fs];have hc' : (!d.tk || decide ((zg5 (ds.take i) d.x d.y).take 1 = [d.w])) = true:=hcan;rw [hc'];refine zk6 (zf4 (zb1 (ze1 (za4 NO (hr.mono (by decide)) rfl DO.at_ DO.fn.kp DO.bd (za2 (bv 1 rfl (za1 (bv 3 rfl ⟨W.length,d,L,i,rfl,hdk,hL.at_,hL.ks,hL.sm,by omega,fun ht=>by rw [hL.fs]; exact zc51 hcan ht,fun W2 L2 a b c st fr nj=>?_⟩))))))));refine ⟨_,_,L2,rfl,?_,st.keys (p:=fun x y=>∃ d∈ds,d.x = x /\ d.y = y) b hK ⟨d,cy3 hy,rfl,rfl⟩⟩;rw [zR9 hy];exact hL.step a b c st fr nj
 ·intro S' W' gX;refine exE3 gX fun o2 o3 L qA=>?_;clear gX;refine anE3 qA fun qe0 hL hK=>?_;clear qA;subst qe0
  obtain ⟨V,rfl⟩ : ∃ V,W' = W++V:=⟨W'.drop W.length,by
   refine qy7 fun i=>?_
   by_cases hi : i < W.length
   ·rw [ay8 hi];exact hL.old i hi (cy1 hi)
   ·rw [cy7 (by omega),List.getElem?_drop]
    congr 1
    omega⟩
  rw [ay5,gy0] at hL;exact zb1 (zf2 (bv 1 rfl (hk V L hL hK)))
end
theorem zJ4 {ds : List za7} {d : za7} (h : Goes ds) (hc : zl4 (zg5 ds) d = true) : Goes (ds++[d]):=fun i e hi=>by
 by_cases hl : i < ds.length
 ·rw [ay8 hl] at hi;rw [List.take_append_of_le_length (by omega)];exact h i e hi
 ·have : i = ds.length:=by
   have:=(ay3.mp hi).1;simp at this;omega
  subst this;rw [cy7 (ay6 _)] at hi;simp at hi;subst hi;rw [sy6];exact hc
theorem zd25 (ds : List za7) (d : za7) : zg5 (ds++[d]) = zc4 (zg5 ds) d:=by unfold zg5; rw [List.foldl_append]; rfl
theorem zd26 {f : Wd} {d : za7} (hf : ∀ x y,∀ z∈f x y,isNm z = true) (hd : d.Ok) : ∀ x y,∀ z∈zc4 f d x y,isNm z = true:=fun x y z hz=>by
 unfold zc4 at hz
 split at hz
 ·unfold zh5 at hz
  split at hz
  ·exact hf x y z (List.mem_of_mem_tail hz)
  ·rcases dy9.mp hz with h | h
   ·exact hf x y z h
   ·simp at h; rw [h]; exact hd.w
 ·exact hf x y z hz
theorem za77 : ∀ (ds : List za7) (f : Wd),(∀ x y,∀ z∈f x y,isNm z = true)->(∀ d∈ds,d.Ok)->∀ x y,∀ z∈ds.foldl zc4 f x y,isNm z = true
 | [],f,hf,_=>hf
 | d :: ds,f,hf,hd=>za77 ds (zc4 f d) (zd26 hf (hd d by2)) fun e he=>hd e (by1 _ he)
theorem zc52 {ds : List za7} (h : ∀ d∈ds,d.Ok) : ∀ x y,∀ z∈zg5 ds x y,isNm z = true:=za77 ds _ (fun _ _ z hz=>by simp at hz) h
theorem zS0 : ∀ (ds : List za7) (f : Wd) (n : Nat),(∀ x y,(f x y).length <= n)->∀ x y,(ds.foldl zc4 f x y).length <= n + ds.length
 | [],f,n,hf,x,y=>by simpa using hf x y
 | d :: ds,f,n,hf,x,y=>by
  have:=zS0 ds (zc4 f d) (n + 1) (fun x y=>by
   have:=hf x y;unfold zc4
   split
   ·unfold zh5
    split
    ·rw [List.length_tail]; omega
    ·rw [by5]; simp; omega
   ·omega) x y
  rw [List.foldl_cons,hy8];omega
theorem za78 (ds : List za7) (x y : Str) : (zg5 ds x y).length <= ds.length:=by
 have:=zS0 ds (fun _ _=>[]) 0 (fun _ _=>by simp) x y;unfold zg5;omega
structure QU (hs : List Str) (f : Wd) (L : List Uw) : Prop where
 nd : (L.map (·.1)).Nodup
 pr : ∀ e∈L,e.1.1∈hs /\ e.1.2∈hs
 at_ : ∀ x y,zr3 L x y = f x y
theorem QU.put {hs : List Str} {f : Wd} {L : List Uw} (h : QU hs f L) (d : za7) (hx : d.x∈hs) (hy : d.y∈hs) : QU hs (zc4 f d) (zX9 L (d.x,d.y) (zh5 d (f d.x d.y))):=⟨zd20 h.nd _ _,fun e he=>by
 rcases zR7 he with z | z
 ·refine za0 fun gG=>?_;obtain ⟨a,ha,e1⟩:=cy4.mp z;refine gG ?_;clear gG;rw [<- e1];exact h.pr a ha
 ·rw [z]; exact ⟨hx,hy⟩,fun x y=>by
 rw [za75];unfold zc4
 by_cases e : x = d.x /\ y = d.y
 ·refine za0 fun gG=>?_;obtain ⟨rfl,rfl⟩:=e;refine gG ?_;clear gG;rw [if_pos rfl,if_pos ⟨rfl,rfl⟩]
 ·rw [if_neg e,if_neg (fun z=>e ⟨congrArg Prod.fst z,congrArg Prod.snd z⟩),h.at_]⟩
theorem zb90 : ("take" : Str) ≠ "send" := by decide +kernel
theorem za79 {L : List Uw} {x y : Str} (h : zr3 L x y ≠ []) : zm6 (L.map kvU) [.inr x,.inr y] = some (.d (.list ((zr3 L x y).map .str))):=by
 have e:=zJ3 L x y;cases hv : zm6 (L.map kvU) [.inr x,.inr y] with
 | none =>
  rw [hv] at e;injection e with e
  injection e with e
  cases hl : zr3 L x y with
  | nil=>exact absurd hl h
  | cons a b=>rw [hl] at e; cases e
 | some v =>
  rw [hv] at e;exact congrArg some e
theorem hL {j : Nat} (h : j <= 1000) : j < by0:=ny5 h (by3 (show 1000 < 2000 by decide) (zc1 (by decide)))
section
variable {P : cy6} {w : World} {K : ay4} {mg : Str->Option Value} {base : Heap}
def zf49 : RB:=fun as W k=>∃ (u : Nat) (d : za7) (L : List Uw) (hs : List Str) (f : Wd),as = [.o u,.d (dP d)] /\ W[u]? = some (.dT (L.map kvU)) /\ QU hs f L /\ d.Ok /\ L.length <= 900 /\ (f d.x d.y).length <= 900 /\ (d.tk = true->f d.x d.y ≠ []) /\ k (.d .none) (W.set u (.dT ((zX9 L (d.x,d.y) (zh5 d (f d.x d.y))).map kvU)))
abbrev pDn : List Str:=["_law_under", "_law_deed"]
abbrev nDn : List Str:=["_law_under", "_law_deed", "_law_pair"]
theorem scDn : zb5 nDn pDn (za3 zN7):=⟨rfl,rfl,rfl,by decide +kernel,rfl,by decide +kernel,by decide +kernel⟩
theorem ndDn : nDn.Nodup:=by decide +kernel
theorem zd27 {f : Addr} {fd : ey4} (F : Fun K "_law_done" "_law_done" zN7 f fd) (T : Txt mg) : zj9 P w K mg base CX0 1 f fd pDn (spB K zf49):=by
 refine zn1 F scDn (fun as W k hR=>by obtain ⟨u,d,L,hs,g,e,_⟩:=hR; subst e; rfl) fun cc hr as W k hcl hR=>?_;refine exE5 hR fun u d L hs g qA=>?_;clear hR;refine anE8 qA fun e hu Q hd hLl hg ht hk=>?_;clear qA;subst e;refine za5 (zc2 (i:=2) ndDn rfl (Or.inl rfl) (ze0 (bv 1 rfl (zd9 (zb0 ⟨1,rfl,zd9 (zb0 ⟨3,rfl,zd15 (ks:=prK (d.x,d.y)) rfl (by show 2 < 4; decide) ?_⟩)⟩)))));refine za0 fun gG=>?_;obtain ⟨tk,x,y,wd⟩:=d;refine gG ?_;clear gG;refine zb1 (zh7 (zd5 rfl (zf0 (by intro _ _; rfl) (bv 1 rfl (zb0 (zj2 (d:=.str (za7.kd ⟨tk,x,y,wd⟩)) rfl (zc3 (zo2 ⟨_,rfl,?_⟩))))))));have hat : zr3 L x y = g x y:=Q.at_ x y;have hg : (g x y).length <= 900:=hg;cases tk with
 | false =>
  rw [decide_eq_true (show za7.kd ⟨false,x,y,wd⟩ = "send" from rfl)];refine zy3 (zb1 (zs5 (ze7 (zm5 iy1 py2 uy5 (bv 0 rfl ⟨.inr ⟨rfl,.inr ⟨_,hu⟩⟩,za2 (zQ5 (bv 2 rfl ⟨prK (x,y),rfl,za1 (zg3 (zi9 ⟨[],rfl,dy7 _,zu1 (ks:=prK (x,y)) hr.units hu ?_⟩))⟩))⟩)))));rw [zJ3,hat];refine zg3 (za1 (zf0 (by intro _ _; rfl) (bv 1 rfl (zb0 (zj2 (d:=.str wd) rfl ⟨[.str wd],rfl,(by show 1 <= by0; decide),za31 (.inl rfl) (.inl rfl) (by rw [ay5]; exact zc1 (by show _ + 1 <= _; omega)) (zH5 (bv 0 rfl (bv 2 rfl (zb73 hr.units hu (hL (by rw [ay5]; omega)) ?_))))⟩)))));have e1 : (g x y).map iy4++[.str wd] = (zh5 ⟨false,x,y,wd⟩ (g x y)).map .str:=by simp [zh5]
  rw [e1,zO1];exact hk
 | true =>
  rw [decide_eq_false (show ¬ za7.kd ⟨true,x,y,wd⟩ = "send" from zb90)];have hne : g x y ≠ []:=ht rfl;have hv:=za79 (L:=L) (x:=x) (y:=y) (by rw [hat]; exact hne);rw [hat] at hv;refine zk6 (zb1 (zs5 (ze0 (zf0 (by intro _ _; rfl) (bv 0 rfl (zQ5 (bv 2 rfl ⟨prK (x,y),rfl,zb61 (ks:=prK (x,y)) hr.units hu hv (zd9 (zb0 ⟨1,rfl,zh3 (zH2 (zH5 (bv 0 rfl (bv 2 rfl (zb73 hr.units hu (hL (by rw [ay5]; omega)) ?_)))))⟩))⟩)))))))
  have e1 : zn0 ((g x y).map iy4) (some 1) none = (zh5 ⟨true,x,y,wd⟩ (g x y)).map .str:=by
   rw [show zn0 ((g x y).map iy4) (some 1) none = ((g x y).map iy4).drop 1 from zu0 _ 1];simp [zh5]
  rw [e1,zO1];exact hk
def zd28 : RB:=fun as W k=>∃ (p u : Nat) (L : List Uw) (hs : List Str) (f : Wd),as = [.o p,.o u] /\ ze8 W p /\ u ≠ p /\ W[u]? = some (.dT (L.map kvU)) /\ QU hs f L /\ L.length <= 60 /\ (∀ x y,∀ z∈f x y,isNm z = true) /\ (∃ e∈L,e.2 ≠ []) /\ ∀ (d : za7) (ws : List Str) W',d.tk = true->f d.x d.y = d.w :: ws->(d.x,d.y)∈L.map (·.1)->zg0 W p W'->k (.d (dP d)) W'
abbrev pTa : List Str:=["_law_pack_here", "_law_under"]
abbrev nTa : List Str:=["_law_pack_here", "_law_under", "_law_pairs", "_law_pair"]
theorem scTa : zb5 nTa pTa (za3 zl1):=⟨rfl,rfl,rfl,by decide +kernel,rfl,by decide +kernel,by decide +kernel⟩
theorem ndTa : nTa.Nodup:=by decide +kernel
def cTa : Scope:=match za9 zl1 with
 | [.Assign _ (.ListComp _ _ sc _) _,_,_]=>sc
 | _=>zZ2
theorem csTa : zb7 nTa (za3 zl1) ["_law_pair"] ["_law_under"] [1] cTa:=⟨rfl,by decide +kernel,by decide +kernel,by decide +kernel,rfl,by decide +kernel⟩
theorem ndTp : (["_law_pair", "_law_under"] : List Str).Nodup:=by decide +kernel
theorem za80 {a b : Pr} (h : prD a = prD b) : a = b:=by
 simp only [prD,prK,ey6,List.map_nil,zK5,PyData.tuple.injEq,List.cons.injEq,PyData.str.injEq,and_true] at h;exact Prod.ext h.1 h.2
theorem za81 {L : List Uw} (nd : (L.map (·.1)).Nodup) {e : Pr} (he : e∈L.map (·.1)) : zm6 (L.map kvU) (prK e) = some (.d (.list ((zr3 L e.1 e.2).map .str))):=by
 refine za0 fun gG=>?_;obtain ⟨a,ha,rfl⟩:=cy4.mp he;refine gG ?_;clear gG;rw [zp3 nd ha];have e:=zJ3 L a.1.1 a.1.2;rw [zp3 nd ha] at e;cases hv : zm6 (L.map kvU) (prK a.1) with
 | none =>
  unfold zm6 at hv;rw [Option.map_eq_none_iff,ty6] at hv;exact absurd (decide_eq_true (rfl : (kvU a).1 = prK a.1)) (hv (kvU a) (cy4.mpr ⟨a,ha,rfl⟩))
 | some v =>
  rw [show ([.inr a.1.1,.inr a.1.2] : List Key) = prK a.1 from rfl,hv] at e;exact congrArg some e
theorem za82 {f fR : Addr} {fd dR : ey4} (F : Fun K "_law_taking" "_law_taking" zl1 f fd) (T : Txt mg) (DR : Def K mg "_law_take" zx4 fR dR pTk) : zj9 P w K mg base CX0 2 f fd pTa (spB K zd28):=by
 classical
 have N:=@zr2 P w K mg base _ _ DR.fn T;refine zn1 F scTa (fun as W k hR=>by obtain ⟨p,u,L,hs,g,e,_⟩:=hR; subst e; rfl) fun cc hr as W k hcl hR=>?_;refine exE5 hR fun p u L hs g qA=>?_;clear hR;refine anE9 qA fun e hp hup hu Q hL hnm hex hk=>?_;clear qA;subst e;have hpl:=hp.lt;have hul : u < W.length:=(ay3.mp hu).1;have hat : ∀ x y,zr3 L x y = g x y:=Q.at_;refine za5 (za44 (i:=2) ndTa rfl (Or.inl rfl) rfl csTa (zc41 (zd0 rfl T.sorted_ zR6 (za1 (bv 1 rfl (zN4 (ps:=L.map (·.1)) rfl hu (by rw [gy1,gy1]; rfl) Q.nd (by rw [ay5]; omega) fun ps pm _=>⟨W.length,_,rfl,zd6,zo7 (fun z=>decide (∃ e : Pr,z = prD e /\ g e.1 e.2 ≠ [])) id zd6 ?_ ?_ ?_⟩))))))
 ·rw [ay5,pm.length_eq,ay5]; exact zc1 (by omega)
 ·intro z hz;refine za0 fun gG=>?_;obtain ⟨e,he,rfl⟩:=cy4.mp hz;refine gG ?_;clear gG;have he':=pm.mem_iff.mp he;refine zg4 (i:=0) ndTp rfl (by decide) (fun _ _ _ _ _=>Or.inl rfl) (fun _ _ _ _ _=>rfl) ⟨fun cl C ex s H=>?_,fun _ cl C ex s H=>bv 0 rfl ⟨rfl,rfl⟩⟩;have hu' : (W++[OD.lst (zb6 (ps.map fun p=>tupK [.inr p.1,.inr p.2]))])[u]? = some (.dT (L.map kvU)):=by rw [ay8 hul]; exact hu
  have hv:=za81 Q.nd he';rw [hat] at hv;refine zd5 rfl (zf0 (by intro _ _; rfl) (bv 1 rfl (bv 0 rfl (zb61 (ks:=prK e) hr.units hu' hv (zg3 (zi9 ⟨[],rfl,dy7 _,za32 hr.units (d:=.list ((g e.1 e.2).map .str)) (e:=.list (([] : List Str).map .str)) (.inl rfl) (.inl rfl) (zm3 (za48 (hnm e.1 e.2))) (zm3 (by simp)) ⟨_,rfl,?_,rfl⟩⟩))))));rw [zQ3];have inj : (∃ e' : Pr,prD e = prD e' /\ g e'.1 e'.2 ≠ []) ↔ g e.1 e.2 ≠ []:=⟨fun zR=>by obtain ⟨e',h1,h2⟩:=zR; rw [za80 h1]; exact h2,fun h=>⟨e,rfl,h⟩⟩
  show (!decide (g e.1 e.2 = [])) = decide (∃ e' : Pr,prD e = prD e' /\ g e'.1 e'.2 ≠ [])
  by_cases h0 : g e.1 e.2 = []
  ·rw [decide_eq_true h0,decide_eq_false (by rw [inj]; exact fun z=>z h0)]; rfl
  ·rw [decide_eq_false h0,decide_eq_true (by rw [inj]; exact h0)]; rfl
 ·have e : ((ps.map fun p=>tupK [.inr p.1,.inr p.2]).filter (fun z=>decide (∃ e : Pr,z = prD e /\ g e.1 e.2 ≠ []))).map id = (ps.filter fun e=>decide (g e.1 e.2 ≠ [])).map prD:=by
   rw [List.map_id,List.filter_map]
   have : ps.filter ((fun z=>decide (∃ e : Pr,z = prD e /\ g e.1 e.2 ≠ [])) ∘ fun p=>tupK [.inr p.1,.inr p.2]) = ps.filter fun e=>decide (g e.1 e.2 ≠ []):=by
    refine List.filter_congr fun e _=>?_;show decide (∃ e' : Pr,prD e = prD e' /\ g e'.1 e'.2 ≠ []) = decide (g e.1 e.2 ≠ []);rw [decide_eq_decide];exact ⟨fun zR=>by obtain ⟨e',h1,h2⟩:=zR; rw [za80 h1]; exact h2,fun h=>⟨e,rfl,h⟩⟩
   rw [this]
  rw [e]
  have hfl : (ps.filter fun e=>decide (g e.1 e.2 ≠ [])).length <= 60:=by
   have h2:=pm.length_eq;rw [ay5] at h2;exact ey0 (uy1 _ ps) (by omega)
  have hf0 : 0 < (ps.filter fun e=>decide (g e.1 e.2 ≠ [])).length:=by
   refine za0 fun gG=>?_;obtain ⟨a,ha,h2⟩:=hex;refine gG ?_;clear gG;have h3:=zp3 Q.nd ha;rw [hat] at h3;exact List.length_pos_of_mem (a:=a.1) (gy6.mpr ⟨pm.mem_iff.mpr (cy4.mpr ⟨a,ha,rfl⟩),decide_eq_true (by rw [h3]; exact h2)⟩)
  refine za5 (zc2 (i:=3) ndTa rfl (Or.inl rfl) (zf0 (by intro _ _; rfl) (bv 2 rfl (za4 N (hr.mono (by decide)) rfl DR.at_ DR.fn.kp DR.bd (za2 (bv 0 rfl (za1 (zd0 rfl T.len_ zt5 (za1 (bv 2 rfl (zv7 (.inl rfl) ⟨p,_,rfl,hp.app,?_,?_,fun b W4 b0 b1 pw4=>?_⟩)))))))))))
  ·rw [ay5]; omega
  ·rw [ay5]; omega
  rw [ay5] at b1;obtain ⟨b,rfl⟩ : ∃ n : Nat,b = n:=⟨b.toNat,by omega⟩
  obtain ⟨y,hy⟩ : ∃ z,(ps.filter fun e=>decide (g e.1 e.2 ≠ []))[b]? = some z:=⟨(ps.filter fun e=>decide (g e.1 e.2 ≠ []))[b]'(by omega),cy0 _⟩
  have hym:=gy6.mp (cy3 hy);have hyL:=pm.mem_iff.mp hym.1;have hyn : g y.1 y.2 ≠ []:=by simpa using hym.2
  refine za0 fun gG=>?_;obtain ⟨W5,rfl,qw4⟩:=pw4.app hpl
  have hu5 : (W5++[OD.lst (zb6 (ps.map fun p=>tupK [.inr p.1,.inr p.2]))])[u]? = some (.dT (L.map kvU)):=by
   rw [ay8 (by rw [qw4.len]; exact hul),qw4.get hup];exact hu
  obtain ⟨x,y⟩:=y;refine gG ?_;clear gG
  obtain ⟨z,ws,hz⟩ : ∃ z ws,g x y = z :: ws:=by
   cases h : g x y with
   | nil=>exact absurd h hyn
   | cons z ws=>exact ⟨z,ws,rfl⟩
  have hv:=za81 Q.nd hyL;rw [hat,show g (x,y).1 (x,y).2 = z :: ws from hz] at hv;refine zv5 (d:=prD (x,y)) (zh8 (by rw [ay9,hy]; rfl)) ?_;refine zb1 (zf5 (ze7 (ze7 (zk1 (za1 (zc3 ⟨[.str "take"],rfl,(by show 1 <= by0; decide),bv 3 rfl (zq7 (by show 1 + 2 <= by0; decide) (zk1 (za1 (zf0 (by intro _ _; rfl) (zf0 (by intro _ _; rfl) (bv 1 rfl (bv 3 rfl (zb61 (ks:=prK (x,y)) hr.units hu5 hv (zb0 (zv5 (d:=.str z) (zh8 (k:=0) rfl) ⟨[.str z],rfl,(by show 1 <= by0; decide),zq7 (by show 3 + 1 <= by0; decide) ⟨_,W5,_,rfl,rfl,qw4.len.symm,qw4.closed hcl,hk ⟨true,x,y,z⟩ ws W5 rfl hz hyL qw4⟩⟩))))))))))⟩))))))
end
abbrev kvP (e : Uw) : List Key × PyData:=(prK e.1,.list (e.2.map .str))
theorem ze58 (L : List Uw) : L.map kvU = (L.map kvP).map fun e=>(e.1,El.d e.2):=by
 rw [gy1];rfl
def lenD : PyData->PyData
 | .list ws=>.int ws.length
 | d=>d
def zO3 (L : List Uw) : Int:=(L.map fun e=>(e.2.length : Int)).sum
theorem zS1 : ∀ {L : List Uw},0 < zO3 L->∃ e∈L,e.2 ≠ []
 | [],h=>by simp [zO3] at h
 | a :: L,h=>by
  by_cases ha : a.2 = []
  ·have : zO3 (a :: L) = zO3 L:=by simp [zO3,ha]
   rw [this] at h;refine za0 fun gG=>?_;obtain ⟨e,he,h2⟩:=zS1 h;refine gG ?_;clear gG;exact ⟨e,by1 _ he,h2⟩
  ·exact ⟨a,by2,ha⟩
theorem zS2 {α : Type} (xs : List α) (x : α) : atI (xs++[x]) (-1) = some x:=by
 unfold atI
 have : ixN (xs++[x]).length (-1) = some xs.length:=by
  unfold ixN;rw [by5];simp;omega
 rw [this];simp
structure Under (hs : List Str) (ds : List za7) (L : List Uw) (i : Nat) : Prop where
 q : QU hs (zg5 ds) L
 go : Goes ds
 row : zc7 hs ds
 dl : ds.length <= i
 ll : L.length <= i
 ne : ∀ e∈L,e.1.1 ≠ e.1.2
theorem Under.nil {hs : List Str} : Under hs [] [] 0:=⟨⟨by simp,by simp,fun _ _=>rfl⟩,fun i d h=>by simp at h,⟨by simp,by simp,by simp⟩,ay6 _,ay6 _,by simp⟩
theorem Under.more {hs : List Str} {ds : List za7} {L : List Uw} {i : Nat} (h : Under hs ds L i) : Under hs ds L (i + 1):=⟨h.q,h.go,h.row,vy1 h.dl,vy1 h.ll,h.ne⟩
theorem Under.put {hs : List Str} {ds : List za7} {L : List Uw} {i : Nat} (h : Under hs ds L i) {d : za7} (hd : d.Ok) (hx : d.x∈hs) (hy : d.y∈hs) (hc : zl4 (zg5 ds) d = true) : Under hs (ds++[d]) (zX9 L (d.x,d.y) (zh5 d (zg5 ds d.x d.y))) (i + 1) :=
 ⟨by rw [zd25]; exact h.q.put d hx hy,zJ4 h.go hc,h.row.snoc hd hx hy,by rw [by5]; have:=h.dl; simp; omega,ey0 (zb87 _ _ _) (by have:=h.ll; omega),fun e he=>by
  rcases zR7 he with z | z
  ·refine za0 fun gG=>?_;obtain ⟨a,ha,e1⟩:=cy4.mp z;refine gG ?_;clear gG;rw [<- e1];exact h.ne a ha
  ·rw [z]; exact hd.ne⟩
theorem gU {W1 : Wl} {n : Nat} {a b : OD} (h : W1.length = n) : (W1++[a,b])[n]? = some a:=by rw [<- h]; simp
theorem gR {W1 : Wl} {n : Nat} {a b : OD} (h : W1.length = n) : (W1++[a,b])[n + 1]? = some b:=by rw [<- h]; simp
theorem sU {W1 : Wl} {n : Nat} {a b c : OD} (h : W1.length = n) : (W1++[a,b]).set n c = W1++[c,b]:=by rw [<- h]; simp
theorem sR {W1 : Wl} {n : Nat} {a b c : OD} (h : W1.length = n) : (W1++[a,b]).set (n + 1) c = W1++[a,c]:=by rw [<- h]; simp
def ze59 : PyData->Bool
 | .tuple (.str k :: _)=>decide (k = "send")
 | _=>false
section
variable {P : cy6} {w : World} {K : ay4} {mg : Str->Option Value} {base : Heap}
def rRow : RB:=fun as W k=>∃ (p m : Nat) (hs : List Str) (st : Bool),as = [.o p,.d (.list (hs.map .str)),.d (.int m),.d (.bool st)] /\ ze8 W p /\ zd19 hs /\ m <= 20 /\ ∀ (ds : List za7) W',zg0 W p W'->zc7 hs ds->Goes ds->ds.length <= 2 * m->k (.d (rP ds)) W'
abbrev pRo : List Str:=["_law_pack_here", "_law_hands_here", "_law_letters", "_law_story"]
abbrev nRo : List Str:=["_law_pack_here", "_law_hands_here", "_law_letters", "_law_story", "_law_under", "_law_row_here", "_law_k", "_law_waiting", "_law_sent", "_law_pick"]
theorem scRo : zb5 nRo pRo (za3 sRow):=⟨rfl,rfl,rfl,by decide +kernel,rfl,by decide +kernel,by decide +kernel⟩
theorem ndRo : nRo.Nodup:=by decide +kernel
def cRo1 : Scope:=match za9 sRow with
 | [_,_,.For _ _ (.Assign _ (.Call _ [.ListComp _ _ sc _] _ _) _ :: _) _ _,_]=>sc
 | _=>zZ2
def cRo2 : Scope:=match za9 sRow with
 | [_,_,.For _ _ (_ :: .Assign _ (.Call _ [.ListComp _ _ sc _] _ _) _ :: _) _ _,_]=>sc
 | _=>zZ2
theorem zf50 : zb7 nRo (za3 sRow) ["_law_words"] [] [] cRo1:=⟨rfl,by decide +kernel,by decide +kernel,by decide +kernel,rfl,by decide +kernel⟩
theorem zf51 : zb7 nRo (za3 sRow) ["_law_deed"] [] [] cRo2:=⟨rfl,by decide +kernel,by decide +kernel,by decide +kernel,rfl,by decide +kernel⟩
theorem ndWo : (["_law_words"] : List Str).Nodup:=by decide +kernel
theorem ndDe : (["_law_deed"] : List Str).Nodup:=by decide +kernel
structure ze60 (K : ay4) (mg : Str->Option Value) (fR fS fT fD : Addr) (dR dS dT dD : ey4) : Prop where
 take : Def K mg "_law_take" zx4 fR dR pTk
 send : Def K mg "_law_sending" zh9 fS dS pSe
 taking : Def K mg "_law_taking" zl1 fT dT pTa
 done : Def K mg "_law_done" zN7 fD dD pDn
abbrev zf52 (p : Nat) (hs : List Str) (m : Nat) (st : Bool) (W : Wl) (o6 : Option El) (o7 : Option El) (o8 : Option El) (o9 : Option El) : Sl:=[some (.o p),some (.d (.list (hs.map .str))),some (.d (.int m)),some (.d (.bool st)),some (.o W.length),some (.o (W.length + 1)),o6,o7,o8,o9]
abbrev iRow (p : Nat) (m : Nat) (hs : List Str) (st : Bool) (W : Wl) : Nat->Sl->Wl->Prop:=fun i S' W'=>∃ (o6 o7 o8 o9 : Option El) (W1 : Wl) (ds : List za7) (L : List Uw),S' = zf52 p hs m st W o6 o7 o8 o9 /\ W' = W1++[.dT (L.map kvU),.lst (zb6 (ds.map dP))] /\ zg0 W p W1 /\ Under hs ds L i
theorem ze61 {f fR fS fT fD : Addr} {fd dR dS dT dD : ey4} (F : Fun K "_law_row" "_law_row" sRow f fd) (T : Txt mg) (D : ze60 K mg fR fS fT fD dR dS dT dD) : zj9 P w K mg base CX0 3 f fd pRo (spB K rRow):=by
 have N:=@zr2 P w K mg base _ _ D.take.fn T;have NS:=@zX8 P w K mg base _ _ _ _ D.send.fn T D.take;have NT:=@za82 P w K mg base _ _ _ _ D.taking.fn T D.take;have ND:=@zd27 P w K mg base _ _ D.done.fn T;refine zn1 F scRo (fun as W k hR=>by obtain ⟨p,m,hs,st,e,_⟩:=hR; subst e; rfl) fun cc hr as W k hcl hR=>?_;refine exE4 hR fun p m hs st qA=>?_;clear hR;refine anE5 qA fun e hp hh hm hk=>?_;clear qA;subst e;have hpl:=hp.lt;refine za5 (zc2 (i:=4) ndRo rfl (Or.inl rfl) (zC4 ?_));refine za5 (zc2 (i:=5) ndRo rfl (Or.inl rfl) (zq6 (zi9 ⟨dy7 _,?_⟩)));refine za5 (zo6 jy7 rfl (zw2 rfl T.range_ (ze7 (zb0 (bv 2 rfl (zc35 (.inl ⟨by decide,by decide⟩) ?_))))));rw [show (2 : Int) * (m : Int) = ((2 * m : Nat) : Int) by omega];have hrl : (zo5 0 ((2 * m : Nat) : Int).toNat).length = 2 * m:=by rw [rng]; simp
 refine ⟨_,rfl,by omega,by omega,W.length,iRow p m hs st W,ay6 _,dy7 _,by simp,⟨none,none,none,none,W,[],[],by simp [zz8],by simp [zb6],hp.self,.nil⟩,fun _ _ _ _ _=>trivial,?_,?_⟩
 ·intro i z S' W' hz gX;refine exE7 gX fun o6 o7 o8 o9 W1 ds L qA=>?_;clear gX;refine anE4 qA fun qe0 qe1 hw U=>?_;clear qA;subst qe0;subst qe1;have hi : i < 2 * m:=by rw [<- hrl]; exact (ay3.mp hz).1
  have hl:=hw.len;have gP : (W1++[OD.dT (L.map kvU),OD.lst (zb6 (ds.map dP))])[W.length]? = some (.dT ((L.map kvP).map fun e=>(e.1,El.d e.2))):=by rw [<- ze58]; exact gU hl
  have hdl:=U.dl;have hll:=U.ll;refine zk7 (i:=6) ndRo rfl (Or.inl rfl) ?_;refine za5 (zc2 (i:=7) ndRo rfl (Or.inl rfl) (zd0 rfl T.sum_ zf36 (za1 (ze38 (j:=W.length) gP fun o=>zw4 rfl zf50 (zd14 (bv 4 rfl ⟨W.length,o,L.map kvP,rfl,?_,za43 lenD ?_ ?_ ?_ ⟨?_,?_⟩⟩))))))
  ·rw [sU hl]; exact gU hl
  ·rw [sU hl]; exact gU hl
  ·rw [ay5,ay5]; exact zc1 (by omega)
  ·intro d hd;refine za0 fun gG=>?_;obtain ⟨kv,hkv,rfl⟩:=cy4.mp hd;obtain ⟨e,he,rfl⟩:=cy4.mp hkv;refine gG ?_;clear gG;refine zg4 (i:=0) ndWo rfl (by decide) (fun _ _ _ _ _=>Or.inl rfl) (fun _ _ _ _ _=>rfl) fun cl C ex s H=>?_;exact zd0 rfl T.len_ zt5 (za1 (bv 0 rfl (zv7 (.inl rfl) ⟨rfl,rfl⟩)))
  ·rw [sU hl]; exact gU hl
  have back : ((W1++[OD.dT (L.map kvU),OD.lst (zb6 (ds.map dP))]).set W.length (.fT o ((L.map kvP).map fun e=>(e.1,El.d e.2)))).set W.length (.dT ((L.map kvP).map fun e=>(e.1,El.d e.2))) = W1++[OD.dT (L.map kvU),OD.lst (zb6 (ds.map dP))]:=by rw [sU hl,sU hl,<- ze58]
  rw [back]
  have ei : ((L.map kvP).map (·.2)).map lenD = (L.map fun e=>(e.2.length : Int)).map .int:=by
   rw [gy1,gy1,gy1];refine ky7 fun e _=>?_;show wy8 _ = wy8 _;rw [ay5]
  rw [ei];refine ze33 rfl (.inl rfl) ?_;refine za5 (zc2 (i:=8) ndRo rfl (Or.inl rfl) (zd0 rfl T.len_ zt5 (za1 (zw4 rfl zf51 (zc41 (bv 5 rfl ⟨W.length + 1,ds.map dP,rfl,gR hl,zo7 ze59 id (gR hl) ?_ ?_ (zv7 (.inl rfl) ?_)⟩))))))
  ·rw [ay5]; exact zc1 (by omega)
  ·intro z hz;refine za0 fun gG=>?_;obtain ⟨d,hd,rfl⟩:=cy4.mp hz;refine gG ?_;clear gG;refine zg4 (i:=0) ndDe rfl (by decide) (fun _ _ _ _ _=>Or.inl rfl) (fun _ _ _ _ _=>rfl) ⟨fun cl C ex s H=>?_,fun _ cl C ex s H=>bv 0 rfl ⟨rfl,rfl⟩⟩;exact zd5 rfl (zf0 (by intro _ _; rfl) (bv 0 rfl (zb0 (zj2 (d:=.str d.kd) rfl (zc3 (zo2 ⟨_,rfl,rfl,rfl⟩))))))
  generalize ((((ds.map dP).filter ze59).map id).length : Int) = sent;refine za5 (zc2 (i:=9) ndRo rfl (Or.inl rfl) (za4 N (hr.mono (by decide)) rfl D.take.at_ D.take.fn.kp D.take.bd (za2 (bv 0 rfl (za1 (zb0 ⟨p,5,rfl,(hw.at hpl).app,by decide,by decide,fun r W2 r0 r1 pw=>?_⟩))))));obtain ⟨W2,rfl,qw⟩:=pw.app (by rw [hl]; exact hpl);have hw2:=hw.trans qw;have hl2:=hw2.len;refine zb1 (zh7 (BT.mono (k:=fun b Wc=>Wc = W2++[OD.dT (L.map kvU),OD.lst (zb6 (ds.map dP))]) (BW.bt (zH0 (zd5 rfl (bv 8 rfl (bv 2 rfl (zc84 ⟨_,rfl,?_⟩)))))) fun b Wc hb=>?_))
  ·split
   ·refine zB5 (BW.bt (zq5 (zd5 rfl (bv 7 rfl (zb0 (ze12 ⟨_,rfl,?_⟩))))))
    split
    ·rfl
    ·exact zl6 (zd5 rfl (bv 9 rfl (zb0 (zc84 ⟨_,rfl,rfl⟩))))
   ·rfl
  subst hb;have hrn : ∀ x y,(zg5 ds x y).length <= 900:=fun x y=>ey0 (za78 ds x y) (by omega);cases b with
  | true =>
   refine zy3 (za5 (ze1 (zm5 fy5 ly1 ly2 (bv 5 rfl ⟨.inl ⟨rfl,_,gR hl2⟩,za1 (za4 NS (hr.mono (by decide)) rfl D.send.at_ D.send.fn.kp D.send.bd (za2 (bv 0 rfl (za1 (bv 1 rfl ⟨p,hs,rfl,(hw2.at hpl).app,hh,fun d W3 dt dk dx dy _ pw3=>?_⟩)))))⟩))));obtain ⟨W3,rfl,qw3⟩:=pw3.app (by rw [hl2]; exact hpl);have hw3:=hw2.trans qw3;have hl3:=hw3.len;refine zk2 (gR hl3) (hL (by simp [zb6]; omega)) ?_;rw [sR hl3];refine zb1 (ze1 (za4 ND (hr.mono (by decide)) rfl D.done.at_ D.done.fn.kp D.done.bd (za2 (bv 4 rfl (za1 (zf0 (by intro _ _; rfl) (bv 5 rfl (zN1 (zb0 ⟨1,rfl,zz5 (gR hl3) (e:=.d (dP d)) (zS2 _ _) ⟨W.length,d,L,hs,zg5 ds,rfl,gU hl3,U.q,dk,by omega,hrn _ _,(fun z=>by rw [dt] at z; cases z),?_⟩⟩)))))))));rw [sU hl3];exact ⟨_,_,_,_,W3,ds++[d],_,rfl,by simp [zb6],hw3,U.put dk dx dy (by simp [zl4,dt])⟩
  | false =>
   refine zk6 (zb1 (zh7 (BT.mono (k:=fun b Wc=>Wc = W2++[OD.dT (L.map kvU),OD.lst (zb6 (ds.map dP))] /\ (b = true->0 < zO3 L)) (BW.bt (zH0 (zd5 rfl (bv 7 rfl (zb0 (ze11 ⟨_,rfl,?_⟩)))))) fun b Wc hb=>?_)))
   ·split
    ·rename_i hgt
     have hgt : 0 < zO3 L:=of_decide_eq_true hgt;refine zB5 (BW.bt (zq5 (zg2 (bv 3 rfl ⟨_,rfl,?_⟩))))
     split
     ·exact ⟨rfl,fun _=>hgt⟩
     ·exact zl6 (zd5 rfl (bv 9 rfl (zb0 (zc84 ⟨_,rfl,rfl,fun _=>hgt⟩))))
    ·exact ⟨rfl,fun z=>by cases z⟩
   refine za0 fun gG=>?_;obtain ⟨rfl,hb⟩:=hb;refine gG ?_;clear gG;cases b with
   | true =>
    have hnm:=zc52 U.row.ok;refine zy3 (za5 (ze1 (zm5 fy5 ly1 ly2 (bv 5 rfl ⟨.inl ⟨rfl,_,gR hl2⟩,za1 (za4 NT (hr.mono (by decide)) rfl D.taking.at_ D.taking.fn.kp D.taking.bd (za2 (bv 0 rfl (za1 (bv 4 rfl ⟨p,W.length,L,hs,zg5 ds,rfl,(hw2.at hpl).app,by omega,gU hl2,U.q,by omega,hnm,zS1 (hb rfl),fun d ws W3 dt dw dm pw3=>?_⟩)))))⟩))));obtain ⟨W3,rfl,qw3⟩:=pw3.app (by rw [hl2]; exact hpl);have hw3:=hw2.trans qw3;have hl3:=hw3.len
    have dp : d.x∈hs /\ d.y∈hs:=by
     refine za0 fun gG=>?_;obtain ⟨a,ha,e⟩:=cy4.mp dm;refine gG ?_;clear gG;have:=U.q.pr a ha;rw [e] at this;exact this
    have dn : d.x ≠ d.y:=by
     refine za0 fun gG=>?_;obtain ⟨a,ha,e⟩:=cy4.mp dm;refine gG ?_;clear gG;have:=U.ne a ha;rw [e] at this;exact this
    have dk : d.Ok:=⟨hh.nm _ dp.1,hh.nm _ dp.2,hnm d.x d.y d.w (by rw [dw]; exact by2),dn⟩
    refine zk2 (gR hl3) (hL (by simp [zb6]; omega)) ?_;rw [sR hl3];refine zb1 (ze1 (za4 ND (hr.mono (by decide)) rfl D.done.at_ D.done.fn.kp D.done.bd (za2 (bv 4 rfl (za1 (zf0 (by intro _ _; rfl) (bv 5 rfl (zN1 (zb0 ⟨1,rfl,zz5 (gR hl3) (e:=.d (dP d)) (zS2 _ _) ⟨W.length,d,L,hs,zg5 ds,rfl,gU hl3,U.q,dk,by omega,hrn _ _,(fun _=>by rw [dw]; simp),?_⟩⟩)))))))));rw [sU hl3];exact ⟨_,_,_,_,W3,ds++[d],_,rfl,by simp [zb6],hw3,U.put dk dp.1 dp.2 (by simp [zl4,dw])⟩
   | false =>
    exact zk6 (zf4 ⟨_,_,_,_,W2,ds,L,rfl,rfl,hw2,U.more⟩)
 ·intro S' W' gX;refine exE7 gX fun o6 o7 o8 o9 W1 ds L qA=>?_;clear gX;refine anE4 qA fun qe0 qe1 hw U=>?_;clear qA;subst qe0;subst qe1;have hdl:=U.dl;rw [hrl] at hdl;exact zb1 (zf5 (zj1 rfl T.tuple_ zn7 (za1 (bv 5 rfl (zv8 (.inr ⟨_,rfl,gR hw.len⟩) ⟨_,W1,[_,_],rfl,rfl,hw.len.symm,hw.closed hcl,hk ds W1 hw U.row U.go hdl⟩)))))
end
def handOf (d : za7) : Str:=if d.tk then d.y else d.x
def ze62 : PyData->List Str
 | .tuple [_,.str x,.str y,_]=>[x,y]
 | _=>[]
def zE5 (ds : List za7) : List Str:=ds.flatMap fun d=>[d.x,d.y]
theorem za83 (ds : List za7) : (ds.map dP).flatMap ze62 = zE5 ds:=by
 unfold zE5;rw [List.flatMap_map];rfl
theorem zJ5 {α : Type} [DecidableEq α] : ∀ {a b : List α},a.Nodup->(∀ x∈a,x∈b)->a.length <= b.length
 | [],b,_,_=>by simp
 | x :: a,b,nd,h=>by
  simp only [ly5] at nd;have hx : x∈b:=h x by2;have:=zJ5 (a:=a) (b:=b.erase x) nd.2 fun y hy=>(List.mem_erase_of_ne (fun z : y = x=>nd.1 (z ▸ hy))).mpr (h y (by1 _ hy));rw [List.length_erase_of_mem hx] at this;have : 0 < b.length:=List.length_pos_of_mem hx;simp only [hy8];omega
theorem zp5 {hs : List Str} {ds : List za7} (h : zc7 hs ds) (hh : hs.length <= 8) : (zf1 (zE5 ds)).length <= 8 /\ (zf1 (zE5 ds)).length ≠ 1:=by
 refine ⟨ey0 (zJ5 (zC6 _) fun x hx=>?_) hh,fun e=>?_⟩
 ·refine za0 fun gG=>?_;obtain ⟨d,hd,hxd⟩:=sy2.mp (zh0.mp hx);refine gG ?_;clear gG;simp at hxd;rcases hxd with rfl | rfl
  ·exact h.x d hd
  ·exact h.y d hd
 ·obtain ⟨z,hz⟩:=List.length_eq_one_iff.mp e;have hz1 : z∈zE5 ds:=zh0.mp (by rw [hz]; simp);refine za0 fun gG=>?_;obtain ⟨d,hd,_⟩:=sy2.mp hz1;refine gG ?_;clear gG;have m1 : d.x∈zf1 (zE5 ds):=zh0.mpr (sy2.mpr ⟨d,hd,by simp⟩);have m2 : d.y∈zf1 (zE5 ds):=zh0.mpr (sy2.mpr ⟨d,hd,by simp⟩);rw [hz] at m1 m2;simp at m1 m2;exact (h.ok d hd).ne (m1.trans m2.symm)
theorem zb91 (ds : List za7) : (zE5 ds).length = 2 * ds.length:=by
 unfold zE5
 induction ds with
 | nil=>rfl
 | cons d ds ih=>rw [List.flatMap_cons,by5,ih]; simp; omega
section
variable {P : cy6} {w : World} {K : ay4} {mg : Str->Option Value} {base : Heap}
def zd29 : RB:=fun as W k=>∃ d : za7,as = [.d (dP d)] /\ k (.d (.str (handOf d))) W
theorem scHo : zb5 ["deed"] ["deed"] (za3 zj7):=⟨rfl,rfl,rfl,by decide +kernel,rfl,by decide +kernel,by decide +kernel⟩
theorem zd30 : ("send" : Str) ≠ "take" := by decide +kernel
theorem zJ6 {f : Addr} {fd : ey4} (F : Fun K "hand_of" "hand_of" zj7 f fd) : zj9 P w K mg base CX0 1 f fd ["deed"] (spB K zd29):=by
 refine zn1 F scHo (fun as W k hR=>by obtain ⟨d,e,_⟩:=hR; subst e; rfl) fun cc hr as W k hcl hR=>?_;refine za0 fun gG=>?_;obtain ⟨d,e,hk⟩:=hR;subst e;obtain ⟨tk,x,y,z⟩:=d;refine gG ?_;clear gG;refine zb1 (zf2 (zf23 (zd5 rfl (zf0 (by intro _ _; rfl) (bv 0 rfl (zb0 (zj2 (d:=.str (za7.kd ⟨tk,x,y,z⟩)) rfl (zc3 (zo2 ⟨_,rfl,?_⟩)))))))));cases tk with
 | false =>
  rw [decide_eq_true (show za7.kd ⟨false,x,y,z⟩ = "send" from rfl)];exact zy3 (zf0 (by intro _ _; rfl) (bv 0 rfl (zb0 (zj2 (d:=.str x) rfl hk))))
 | true =>
  rw [decide_eq_false (show ¬ za7.kd ⟨true,x,y,z⟩ = "send" from zb90)];exact zk6 (zf0 (by intro _ _; rfl) (bv 0 rfl (zb0 (zj2 (d:=.str y) rfl hk))))
def zb92 : RB:=fun as W k=>∃ (hs : List Str) (ds : List za7),as = [.d (rP ds)] /\ zc7 hs ds /\ hs.length <= 8 /\ ds.length <= 1000 /\ ∀ ss : List Str,ss.Perm (zf1 (zE5 ds))->PyProof.Rows.sortedS ss = true->k (.d (.tuple (ss.map .str))) W
theorem scHs : zb5 ["row"] ["row"] (za3 zf7):=⟨rfl,rfl,rfl,by decide +kernel,rfl,by decide +kernel,by decide +kernel⟩
def cHs : Scope:=match za9 zf7 with
 | [.Return (some (.Call _ [.Call _ [.SetComp _ _ sc _] _ _] _ _)) _]=>sc
 | _=>zZ2
theorem csHs : zb7 ["row"] (za3 zf7) ["deed", "hand"] [] [] cHs:=⟨rfl,by decide +kernel,by decide +kernel,by decide +kernel,rfl,by decide +kernel⟩
theorem ndHs : (["deed", "hand"] : List Str).Nodup:=by decide +kernel
theorem zf53 {d : za7} : zn0 [iy4 d.kd,.str d.x,.str d.y,.str d.w] (some 1) (some 3) = [.str d.x,.str d.y]:=rfl
theorem zm4 {f : Addr} {fd : ey4} (F : Fun K "hands_of" "hands_of" zf7 f fd) (T : Txt mg) : zj9 P w K mg base CX0 1 f fd ["row"] (spB K zb92):=by
 refine zn1 F scHs (fun as W k hR=>by obtain ⟨hs,ds,e,_⟩:=hR; subst e; rfl) fun cc hr as W k hcl hR=>?_;refine exE2 hR fun hs ds qA=>?_;clear hR;refine anE5 qA fun e hok hh hl hk=>?_;clear qA;subst e;obtain ⟨o1,o2⟩:=zp5 hok hh;have o3:=zb91 ds;refine zb1 (zf5 (zj1 rfl T.tuple_ zn7 (za1 (zX4 (O:=["deed", "hand"]) (Fv:=[]) (cap:=[]) (j1:=0) (j2:=1) rfl rfl T.sorted_ zR6 csHs ndHs rfl rfl (by decide) (by decide) (by decide) (fun _ _ _ _ _=>rfl) (fun _ _ _ _ _=>rfl) (zw1 (bv 0 rfl ⟨_,rfl,trivial,ze62,?_,?_,?_⟩))))))
 ·intro z hz;refine za0 fun gG=>?_;obtain ⟨d,hd,rfl⟩:=cy4.mp hz;refine gG ?_;clear gG;intro cl C ex s H;refine ze0 (bv 0 rfl (zd9 (zb0 ⟨1,rfl,zd9 (zb0 ⟨3,rfl,zv6 ⟨rfl,?_⟩⟩)⟩)));rw [zf53];rfl
 ·intro z hz x hx cl C ex s H;exact bv 1 rfl ⟨rfl,rfl⟩
 ·rw [za83];refine ⟨by rw [o3]; show _ < 4096; omega,by omega,o2,fun ss pm so=>?_⟩;exact zv8 (.inr ⟨_,rfl,zd6⟩) ⟨_,W,[_],rfl,rfl,rfl,hcl,hk ss pm so⟩
def viewOf (x : Str) (ds : List za7) : List za7:=ds.filter fun d=>decide (handOf d = x)
def zf54 : RB:=fun as W k=>∃ (x : Str) (ds : List za7),as = [.d (rP ds),.d (.str x)] /\ ds.length <= 1000 /\ k (.d (rP (viewOf x ds))) W
abbrev nVi : List Str:=["row", "hand"]
theorem scVi : zb5 nVi nVi (za3 zt4):=⟨rfl,rfl,rfl,by decide +kernel,rfl,by decide +kernel,by decide +kernel⟩
def cVi : Scope:=match za9 zt4 with
 | [.Return (some (.Call _ [.ListComp _ _ sc _] _ _)) _]=>sc
 | _=>zZ2
theorem csVi : zb7 nVi (za3 zt4) ["deed"] ["hand"] [1] cVi:=⟨rfl,by decide +kernel,by decide +kernel,by decide +kernel,rfl,by decide +kernel⟩
theorem ndVi : (["deed", "hand"] : List Str).Nodup:=ndHs
def za84 (x : Str) : PyData->Bool
 | .tuple [.str kd,.str a,.str b,_]=>decide ((if kd = "take" then b else a) = x)
 | _=>false
theorem zS3 (x : Str) (d : za7) : za84 x (dP d) = decide (handOf d = x):=by
 refine za0 fun gG=>?_;obtain ⟨tk,a,b,z⟩:=d;refine gG ?_;clear gG;cases tk with
 | false =>
  show decide ((if ("send" : Str) = "take" then b else a) = x) = decide (a = x);rw [if_neg zd30]
 | true =>
  show decide ((if ("take" : Str) = "take" then b else a) = x) = decide (b = x);rw [if_pos rfl]
theorem zO4 {f fO : Addr} {fd dO : ey4} (F : Fun K "view" "view" zt4 f fd) (T : Txt mg) (DO : Def K mg "hand_of" zj7 fO dO ["deed"]) : zj9 P w K mg base CX0 2 f fd nVi (spB K zf54):=by
 have NO:=@zJ6 P w K mg base _ _ DO.fn;refine zn1 F scVi (fun as W k hR=>by obtain ⟨x,ds,e,_⟩:=hR; subst e; rfl) fun cc hr as W k hcl hR=>?_;refine za0 fun gG=>?_;obtain ⟨x,ds,e,hl,hk⟩:=hR;subst e;refine gG ?_;clear gG;refine zb1 (zf2 (zj1 rfl T.tuple_ zn7 (za1 (zw4 rfl csVi (zw1 (bv 0 rfl ⟨ds.map dP,rfl,zo7 (za84 x) id trivial ?_ ?_ ?_⟩))))))
 ·rw [ay5]; exact zc1 (by omega)
 ·intro z hz;refine za0 fun gG=>?_;obtain ⟨d,hd,rfl⟩:=cy4.mp hz;refine gG ?_;clear gG;refine zg4 (i:=0) ndVi rfl (by decide) (fun _ _ _ _ _=>Or.inl rfl) (fun _ _ _ _ _=>rfl) ⟨fun cl C ex s H=>?_,fun _ cl C ex s H=>bv 0 rfl ⟨rfl,rfl⟩⟩;exact zd5 rfl (za4 NO (hr.mono (by decide)) rfl DO.at_ DO.fn.kp DO.bd (za1 (bv 0 rfl ⟨d,rfl,bv 1 rfl (zo2 ⟨_,rfl,(zS3 x d).symm,rfl⟩)⟩)))
 ·have e : ((ds.map dP).filter (za84 x)).map id = (viewOf x ds).map dP:=by
   rw [List.map_id,List.filter_map];unfold viewOf
   congr 1
   exact List.filter_congr fun d _=>zS3 x d
  rw [e];exact zv8 (.inl rfl) hk
end
def zA1 (kvs : List (List Key × El)) (f : Wd) : Prop:=∀ x y,(zm6 kvs [.inr x,.inr y]).getD (.d (.list [])) = .d (.list ((f x y).map .str))
theorem zA1.put {kvs : List (List Key × El)} {f : Wd} (h : zA1 kvs f) (d : za7) : zA1 (zF5 kvs [.inr d.x,.inr d.y] (.d (.list ((zh5 d (f d.x d.y)).map .str)))) (zc4 f d):=fun x y=>by
 rw [zR5];unfold zc4
 by_cases e : x = d.x /\ y = d.y
 ·refine za0 fun gG=>?_;obtain ⟨rfl,rfl⟩:=e;refine gG ?_;clear gG;rw [if_pos rfl,if_pos ⟨rfl,rfl⟩];rfl
 ·rw [if_neg e,if_neg (fun z=>e ?_)]
  ·exact h x y
  ·injection z with z1 z2
   injection z2 with z2 _
   exact ⟨ty7 z1,ty7 z2⟩
theorem zA1.at {kvs : List (List Key × El)} {f : Wd} (h : zA1 kvs f) {x y : Str} (hn : f x y ≠ []) : zm6 kvs [.inr x,.inr y] = some (.d (.list ((f x y).map .str))):=by
 have e:=h x y;cases hv : zm6 kvs [.inr x,.inr y] with
 | none =>
  rw [hv] at e;injection e with e
  injection e with e
  cases hl : f x y with
  | nil=>exact absurd hl hn
  | cons a b=>rw [hl] at e; cases e
 | some v =>
  rw [hv] at e;exact congrArg some e
section
variable {P : cy6} {w : World} {K : ay4} {mg : Str->Option Value} {base : Heap}
def ze63 : RB:=fun as W k=>∃ d : za7,as = [.d (dP d)] /\ k (.d (.str (handOf d))) W
theorem scHl : zb5 ["_law_deed"] ["_law_deed"] (za3 zt0):=⟨rfl,rfl,rfl,by decide +kernel,rfl,by decide +kernel,by decide +kernel⟩
theorem zb93 {f : Addr} {fd : ey4} (F : Fun K "_law_hand" "_law_hand" zt0 f fd) (T : Txt mg) : zj9 P w K mg base CX0 1 f fd ["_law_deed"] (spB K ze63):=by
 refine zn1 F scHl (fun as W k hR=>by obtain ⟨d,e,_⟩:=hR; subst e; rfl) fun cc hr as W k hcl hR=>?_;refine za0 fun gG=>?_;obtain ⟨d,e,hk⟩:=hR;subst e;obtain ⟨tk,x,y,z⟩:=d;refine gG ?_;clear gG;refine zb1 (zf2 (zf0 (by intro _ _; rfl) (zg3 (za2 (zf0 (by intro _ _; rfl) (bv 0 rfl (zb0 (zj2 (d:=.str y) rfl (za1 (zf0 (by intro _ _; rfl) (bv 0 rfl (zb0 (zj2 (d:=.str x) rfl ⟨[.str y,.str x],rfl,(by show 2 <= by0; decide),zj1 rfl T.int_ zf35 (za1 (zs2 rfl (zf0 (by intro _ _; rfl) (bv 0 rfl (zb0 (zj2 (d:=.str (za7.kd ⟨tk,x,y,z⟩)) rfl (zc3 (zo2 (zc89 ?_)))))))))⟩)))))))))))));cases tk with
 | false =>
  rw [decide_eq_true (show za7.kd ⟨false,x,y,z⟩ = "send" from rfl)];exact zv5 (d:=.str x) rfl hk
 | true =>
  rw [decide_eq_false (show ¬ za7.kd ⟨true,x,y,z⟩ = "send" from zb90)];exact zv5 (d:=.str y) rfl hk
def zf55 : RB:=fun as W k=>∃ (ds : List za7),as = [.d (rP ds)] /\ (∀ d∈ds,d.Ok) /\ ds.length <= 450 /\ ∀ c : Bool,(c = true ↔ Goes ds)->k (.d (.bool c)) W
abbrev nCl : List Str:=["_law_row_here", "_law_under", "_law_kind", "_law_one", "_law_other", "_law_word"]
theorem scCl : zb5 nCl ["_law_row_here"] (za3 zJ2):=⟨rfl,rfl,rfl,by decide +kernel,rfl,by decide +kernel,by decide +kernel⟩
theorem ndCl : nCl.Nodup:=by decide +kernel
abbrev iCnX (xx : PyData) (ds : List za7) (W : Wl) : Nat->Sl->Wl->Prop:=fun i S' W'=>∃ (o2 o3 o4 o5 : Option El) (kvs : List (List Key × El)),S' = [some (.d xx),some (.o W.length),o2,o3,o4,o5] /\ W' = W++[.dT kvs] /\ zA1 kvs (zg5 (ds.take i)) /\ Goes (ds.take i) /\ kvs.length <= i
theorem zd31 {f : Addr} {fd : ey4} (F : Fun K "_law_can" "_law_can" zJ2 f fd) (T : Txt mg) : zj9 P w K mg base CX0 1 f fd ["_law_row_here"] (spB K zf55):=by
 refine zn1 F scCl (fun as W k hR=>by obtain ⟨ds,e,_⟩:=hR; subst e; rfl) fun cc hr as W k hcl hR=>?_;refine za0 fun gG=>?_;obtain ⟨ds,e,hok,hl,hk⟩:=hR;subst e;refine gG ?_;clear gG;refine za5 (zc2 (i:=1) ndCl rfl (Or.inl rfl) (zC4 ?_));refine za5 (zo6 jy7 rfl (zw1 (bv 0 rfl ⟨ds.map dP,rfl,W.length,iCnX (rP ds) ds W,ay6 _,dy7 _,by simp,⟨none,none,none,none,[],rfl,rfl,fun _ _=>rfl,fun i d h=>by simp at h,by simp⟩,fun _ _ _ _ _=>trivial,?_,?_⟩)))
 ·intro i z S' W' hz gX;refine exE5 gX fun o2 o3 o4 o5 kvs qA=>?_;clear gX;refine anE5 qA fun qe0 qe1 hT hg hkl=>?_;clear qA;subst qe0;subst qe1;rw [ay9] at hz;cases hd : ds[i]? with
  | none=>rw [hd] at hz; cases hz
  | some d =>
  rw [hd] at hz;cases hz;have hi : i < ds.length:=(ay3.mp hd).1;have hdk:=hok d (cy3 hd);have hw:=zc52 (ds:=ds.take i) (fun e he=>hok e (ky4 he)) d.x d.y;have hwl : (zg5 (ds.take i) d.x d.y).length <= 450:=by have:=za78 (ds.take i) d.x d.y; rw [dy3] at this; omega
  have hgs : zl4 (zg5 (ds.take i)) d = true->Goes (ds.take (i + 1)):=fun h=>by
   rw [ey7,hd];exact zJ4 hg h
  have hr1 : zg5 (ds.take (i + 1)) = zc4 (zg5 (ds.take i)) d:=zR9 hd;have hTp:=hT.put d;rw [<- hr1] at hTp;have hkl':=zb74 kvs [.inr d.x,.inr d.y] (.d (.list ((zh5 d (zg5 (ds.take i) d.x d.y)).map .str)));refine za0 fun gG=>?_;obtain ⟨tk,x,yy,wd⟩:=d;refine gG ?_;clear gG;have hwl : (zg5 (ds.take i) x yy).length <= 450:=hwl;refine zz6 rfl (.cons (i:=2) ndCl rfl (Or.inl rfl) (.cons (i:=3) ndCl rfl (Or.inl rfl) (.cons (i:=4) ndCl rfl (Or.inl rfl) (.cons (i:=5) ndCl rfl (Or.inl rfl) .nil)))) rfl ?_;refine zb1 (zh7 (zd5 rfl (bv 2 rfl (zc3 (zo2 ⟨_,rfl,?_⟩)))));cases tk with
  | false =>
   rw [decide_eq_true (show za7.kd ⟨false,x,yy,wd⟩ = "send" from rfl)];refine zy3 (zb1 (zs5 (ze7 (zm5 iy1 py2 uy5 (bv 1 rfl ⟨.inr ⟨rfl,.inr ⟨_,zd6⟩⟩,za2 (zk1 (za2 (bv 3 rfl (za1 (bv 4 rfl ⟨[.str x,.str yy],rfl,(by show 2 <= by0; decide),za1 (zg3 (zi9 ⟨[],rfl,dy7 _,zu1 (ks:=[.inr x,.inr yy]) hr.units zd6 ?_⟩))⟩)))))⟩)))));rw [hT x yy];refine zg3 (za1 (bv 5 rfl ⟨[.str wd],rfl,(by show 1 <= by0; decide),za31 (.inl rfl) (.inl rfl) (by rw [ay5]; exact zc1 (by show _ + 1 <= _; omega)) (zH5 (bv 1 rfl (zM2 (za2 (bv 3 rfl (za1 (bv 4 rfl ⟨[.inr x,.inr yy],rfl,(by show 2 <= by0; decide),zb73 hr.units zd6 (hL (by omega)) ?_⟩)))))))⟩));have e1 : (zg5 (ds.take i) x yy).map iy4++[.str wd] = (zh5 ⟨false,x,yy,wd⟩ (zg5 (ds.take i) x yy)).map .str:=by simp [zh5]
   rw [e1,zE1];exact ⟨_,_,_,_,_,rfl,rfl,hTp,hgs (by simp [zl4]),ey0 hkl' (by omega)⟩
  | true =>
   rw [decide_eq_false (show ¬ za7.kd ⟨true,x,yy,wd⟩ = "send" from zb90)]
   have hc1 : zn0 ((zg5 (ds.take i) x yy).map iy4) none (some 1) = ((zg5 (ds.take i) x yy).take 1).map .str:=by
    rw [show zn0 ((zg5 (ds.take i) x yy).map iy4) none (some 1) = ((zg5 (ds.take i) x yy).map iy4).take 1 from zs7 _ 1,ry4]
   refine zk6 (zb1 (zh7 (zd5 rfl (ze0 (zm5 iy1 py2 uy5 (bv 1 rfl ⟨.inr ⟨rfl,.inr ⟨_,zd6⟩⟩,za2 (zk1 (za2 (bv 3 rfl (za1 (bv 4 rfl ⟨[.str x,.str yy],rfl,(by show 2 <= by0; decide),za1 (zg3 (zi9 ⟨[],rfl,dy7 _,zu1 (ks:=[.inr x,.inr yy]) hr.units zd6 ?_⟩))⟩)))))⟩))))));rw [hT x yy];refine zh3 (zd9 (zb0 ⟨1,rfl,zH2 (zg3 (za1 (bv 5 rfl ⟨[.str wd],rfl,(by show 1 <= by0; decide),?_⟩)))⟩));rw [hc1];refine za32 hr.units (d:=.list (((zg5 (ds.take i) x yy).take 1).map .str)) (e:=.list ([wd].map .str)) (.inl rfl) (.inl rfl) (zm3 fun z h=>zj3 (hw z (ky4 h))) (zm3 (by simp [zj3 hdk.w])) ⟨_,rfl,?_⟩;rw [zQ3]
   by_cases hcan : (zg5 (ds.take i) x yy).take 1 = [wd]
   ·rw [decide_eq_true hcan];have hne : zg5 (ds.take i) x yy ≠ []:=fun z=>by rw [z] at hcan; simp at hcan
    refine zk6 (zb1 (zs5 (ze0 (zf0 (by intro _ _; rfl) (bv 1 rfl (zk1 (za2 (bv 3 rfl (za1 (bv 4 rfl ⟨[.str x,.str yy],rfl,(by show 2 <= by0; decide),zb61 (ks:=[.inr x,.inr yy]) hr.units zd6 (hT.at hne) (zd9 (zb0 ⟨1,rfl,zh3 (zH2 (zH5 (bv 1 rfl (zM2 (za2 (bv 3 rfl (za1 (bv 4 rfl ⟨[.inr x,.inr yy],rfl,(by show 2 <= by0; decide),zb73 hr.units zd6 (hL (by omega)) ?_⟩))))))))⟩))⟩))))))))))
    have e1 : zn0 ((zg5 (ds.take i) x yy).map iy4) (some 1) none = (zh5 ⟨true,x,yy,wd⟩ (zg5 (ds.take i) x yy)).map .str:=by
     rw [show zn0 ((zg5 (ds.take i) x yy).map iy4) (some 1) none = ((zg5 (ds.take i) x yy).map iy4).drop 1 from zu0 _ 1];simp [zh5]
    rw [e1,zE1];exact ⟨_,_,_,_,_,rfl,rfl,hTp,hgs (by simp [zl4,hcan]),ey0 hkl' (by omega)⟩
   ·rw [decide_eq_false hcan];refine zy3 (zb1 (zf5 (za25 ⟨_,W,[_],rfl,rfl,rfl,hcl,hk false ⟨(fun z=>by cases z),fun hgo=>?_⟩⟩)));have:=hgo i _ hd;simp [zl4,hcan] at this
 ·intro S' W' gX;refine exE5 gX fun o2 o3 o4 o5 kvs qA=>?_;clear gX;refine anE5 qA fun qe0 qe1 hT hg hkl=>?_;clear qA;subst qe0;subst qe1;rw [ay5,gy0] at hg;exact zb1 (zf5 (za25 ⟨_,W,[_],rfl,rfl,rfl,hcl,hk true ⟨fun _=>hg,fun _=>rfl⟩⟩))
end
def zn9 (ds : List za7) (a : Nat) (d1 d2 : za7) : List za7:=ds.take a++[d2,d1]++ds.drop (a + 2)
theorem za85 {α : Type} {ds : List α} {a : Nat} {d1 d2 : α} (h1 : ds[a]? = some d1) (h2 : ds[a + 1]? = some d2) : ds = ds.take a++[d1,d2]++ds.drop (a + 2):=by
 refine za0 fun gG=>?_;obtain ⟨l1,e1⟩:=ay3.mp h1;obtain ⟨l2,e2⟩:=ay3.mp h2;refine gG ?_;clear gG;have h : ds.drop a = d1 :: d2 :: ds.drop (a + 2):=by rw [py9 l1,e1,py9 l2,e2]
 have:=(py4 a ds).symm;rw [h] at this;rw [ky2];exact this
theorem zd7 (x : Str) (a b : List za7) : viewOf x (a++b) = viewOf x a++viewOf x b:=by unfold viewOf; rw [ty4]
theorem zb94 {d1 d2 : za7} (h : handOf d1 ≠ handOf d2) (x : Str) : viewOf x [d2,d1] = viewOf x [d1,d2]:=by
 unfold viewOf
 by_cases h1 : handOf d1 = x
 ·have h2 : handOf d2 ≠ x:=fun z=>h (h1.trans z.symm);simp [h1,h2]
 ·by_cases h2 : handOf d2 = x
  ·simp [h1,h2]
  ·simp [h1,h2]
theorem za86 {ds : List za7} {a : Nat} {d1 d2 : za7} (h1 : ds[a]? = some d1) (h2 : ds[a + 1]? = some d2) (h : handOf d1 ≠ handOf d2) (x : Str) : viewOf x (zn9 ds a d1 d2) = viewOf x ds:=by
 conv=>rhs; rw [za85 h1 h2]
 unfold zn9;rw [zd7,zd7,zd7,zd7,zb94 h]
theorem zS4 {ds : List za7} {a : Nat} {d1 d2 : za7} (h1 : ds[a]? = some d1) (h2 : ds[a + 1]? = some d2) : (zn9 ds a d1 d2).length = ds.length:=by
 conv=>rhs; rw [za85 h1 h2]
 unfold zn9;simp
theorem zb95 {ds : List za7} {a : Nat} {d1 d2 : za7} (h1 : ds[a]? = some d1) (h2 : ds[a + 1]? = some d2) {d : za7} (h : d∈zn9 ds a d1 d2) : d∈ds:=by
 rw [za85 h1 h2];unfold zn9 at h;simp only [dy9,by8,my1,or_false] at h ⊢;rcases h with (h | h | h) | h
 ·exact .inl (.inl h)
 ·exact .inl (.inr (.inr h))
 ·exact .inl (.inr (.inl h))
 ·exact .inr h
theorem zc7.of {hs : List Str} {ds es : List za7} (h : zc7 hs ds) (hm : ∀ d∈es,d∈ds) : zc7 hs es:=⟨fun d hd=>h.ok d (hm d hd),fun d hd=>h.x d (hm d hd),fun d hd=>h.y d (hm d hd)⟩
structure zm1 (hs : List Str) (ds es : List za7) : Prop where
 row : zc7 hs es
 go : Goes es
 len : es.length = ds.length
 view : ∀ x,viewOf x es = viewOf x ds
theorem za87 (ds : List za7) (a : Nat) (d1 d2 : za7) : ((ds.map dP).take a++[dP d2,dP d1])++(ds.map dP).drop (a + 2) = (zn9 ds a d1 d2).map dP:=by
 unfold zn9;rw [gy2,gy2,ry4,List.map_drop];rfl
section
variable {P : cy6} {w : World} {K : ay4} {mg : Str->Option Value} {base : Heap}
def zf56 : RB:=fun as W k=>∃ (p n : Nat) (hs : List Str) (ds : List za7),as = [.o p,.d (rP ds),.d (.int n)] /\ ze8 W p /\ zc7 hs ds /\ Goes ds /\ ds.length <= 400 /\ n <= 1000 /\ ∀ (es : List za7) W',zm1 hs ds es->zg0 W p W'->k (.d (rP es)) W'
abbrev pSf : List Str:=["_law_pack_here", "_law_row_here", "_law_turns"]
abbrev nSf : List Str:=["_law_pack_here", "_law_row_here", "_law_turns", "_law_here", "_law_k", "_law_at", "_law_other"]
theorem scSf : zb5 nSf pSf (za3 zN8):=⟨rfl,rfl,rfl,by decide +kernel,rfl,by decide +kernel,by decide +kernel⟩
theorem ndSf : nSf.Nodup:=by decide +kernel
abbrev zf57 (p : Nat) (ds : List za7) (n : Nat) (es : List za7) (o4 : Option El) (o5 : Option El) (o6 : Option El) : Sl:=[some (.o p),some (.d (rP ds)),some (.d (.int n)),some (.d (rP es)),o4,o5,o6]
abbrev iShu (p : Nat) (n : Nat) (hs : List Str) (ds : List za7) (W : Wl) : Nat->Sl->Wl->Prop:=fun i S' W'=>∃ (o4 o5 o6 : Option El) (es : List za7),S' = zf57 p ds n es o4 o5 o6 /\ zg0 W p W' /\ zm1 hs ds es
theorem zd32 {f fR fO fC : Addr} {fd dR dO dC : ey4} (F : Fun K "_law_shuffled" "_law_shuffled" zN8 f fd) (T : Txt mg) (DR : Def K mg "_law_take" zx4 fR dR pTk) (DO : Def K mg "_law_hand" zt0 fO dO ["_law_deed"]) (DC : Def K mg "_law_can" zJ2 fC dC ["_law_row_here"]) : zj9 P w K mg base CX0 2 f fd pSf (spB K zf56):=by
 have N:=@zr2 P w K mg base _ _ DR.fn T;have NO:=@zb93 P w K mg base _ _ DO.fn T;have NC:=@zd31 P w K mg base _ _ DC.fn T;refine zn1 F scSf (fun as W k hR=>by obtain ⟨p,n,hs,ds,e,_⟩:=hR; subst e; rfl) fun cc hr as W k hcl hR=>?_;refine exE4 hR fun p n hs ds qA=>?_;clear hR;refine anE7 qA fun e hp hok hgo hl hn hk=>?_;clear qA;subst e;have hpl:=hp.lt;refine za5 (zc2 (i:=3) ndSf rfl (Or.inl rfl) (bv 1 rfl ?_));refine za5 (zo6 jy7 rfl (zw2 rfl T.range_ (bv 2 rfl ⟨_,rfl,by omega,by omega,W.length,iShu p n hs ds W,ay6 _,dy7 _,by simp,⟨none,none,none,ds,rfl,hp.self,hok,hgo,rfl,fun _=>rfl⟩,fun _ _ _ _ _=>trivial,?_,?_⟩)))
 ·intro i z S' W1 hz gX;refine exE4 gX fun o4 o5 o6 es qA=>?_;clear gX;refine anE3 qA fun qe0 hw Sm=>?_;clear qA;subst qe0;refine zk7 (i:=4) ndSf rfl (Or.inl rfl) ?_;have hel:=Sm.len;refine zb1 (zh7 (zd5 rfl (zd0 rfl T.len_ zt5 (za1 (bv 3 rfl (zq8 (zb0 (ze11 ⟨_,rfl,?_⟩))))))));rw [ay5]
  by_cases h1 : (1 : Int) < es.length
  ·rw [decide_eq_true h1];refine zy3 (za5 (zc2 (i:=5) ndSf rfl (Or.inl rfl) (za4 N (hr.mono (by decide)) rfl DR.at_ DR.fn.kp DR.bd (za2 (bv 0 rfl (za1 (ze7 (zd0 rfl T.len_ zt5 (za1 (bv 3 rfl (zq8 (zb0 (za29 ⟨p,_,rfl,hw.at hpl,?_,?_,fun r W2 r0 r1 pw=>?_⟩)))))))))))))
   ·rw [ay5]; omega
   ·rw [ay5]; omega
   rw [ay5] at r1;have hw2:=hw.trans pw;obtain ⟨a,rfl⟩ : ∃ n : Nat,r = n:=⟨r.toNat,by omega⟩
   obtain ⟨d1,hd1⟩ : ∃ d,es[a]? = some d:=⟨es[a]'(by omega),cy0 _⟩
   obtain ⟨d2,hd2⟩ : ∃ d,es[a + 1]? = some d:=⟨es[a + 1]'(by omega),cy0 _⟩
   have m1 : (es.map dP)[a]? = some (dP d1):=by rw [ay9,hd1]; rfl
   have m2 : (es.map dP)[a + 1]? = some (dP d2):=by rw [ay9,hd2]; rfl
   have c1 : (a : Int) + 1 = ((a + 1 : Nat) : Int):=by omega
   have c2 : (a : Int) + 2 = ((a + 2 : Nat) : Int):=by omega
   have a2 : atI (es.map dP) ((a : Int) + 1) = some (dP d2):=by rw [c1]; exact zh8 m2
   have l1 : ((zn0 (es.map dP) none (some (a : Int))).length + [dP d2,dP d1].length) <= by0:=by
    have:=zE2 (es.map dP) none (some (a : Int));rw [ay5] at this;exact zc1 (by show _ + 2 <= _; omega)
   have l2 : (zn0 (es.map dP) none (some (a : Int))++[dP d2,dP d1]).length + (zn0 (es.map dP) (some ((a : Int) + 2)) none).length <= by0:=by
    have h1:=zE2 (es.map dP) none (some (a : Int));have h2:=zE2 (es.map dP) (some ((a : Int) + 2)) none;rw [ay5] at h1 h2;rw [by5];exact zc1 (by show _ + 2 + _ <= _; omega)
   refine za5 (zc2 (i:=6) ndSf rfl (Or.inl rfl) (ze7 (ze7 (ze0 (bv 3 rfl (zh3 (zd9 (bv 5 rfl ⟨_,rfl,zv6 (zk1 (za2 (zf0 (by intro _ _; rfl) (bv 3 rfl (ze7 (bv 5 rfl (zb0 (zo1 (zj2 a2 (za1 (zf0 (by intro _ _; rfl) (bv 3 rfl (bv 5 rfl (zj2 (zh8 m1) ⟨[dP d2,dP d1],rfl,(by show 2 <= by0; decide),zq7 l1 (ze0 (bv 3 rfl (zd9 (ze7 (bv 5 rfl (zb0 (zo1 ⟨_,rfl,zh3 (zv6 (zq7 l2 ?_))⟩)))))))⟩))))))))))))))⟩))))))));rw [c2,zs7,zu0,za87];refine zb1 (zh7 (BW.bt (zH0 (zd5 rfl (za4 NO (hr.mono (by decide)) rfl DO.at_ DO.fn.kp DO.bd (za1 (zf0 (by intro _ _; rfl) (bv 3 rfl (bv 5 rfl (zj2 (zh8 m1) ⟨d1,rfl,za4 NO (hr.mono (by decide)) rfl DO.at_ DO.fn.kp DO.bd (za1 (zf0 (by intro _ _; rfl) (bv 3 rfl (ze7 (bv 5 rfl (zb0 (zo1 (zj2 a2 ⟨d2,rfl,zP9 ⟨_,rfl,?_⟩⟩))))))))⟩))))))))))
   by_cases hh : handOf d1 = handOf d2
   ·rw [decide_eq_true hh];exact zk6 (zk6 (zf4 ⟨_,_,_,es,rfl,hw2,Sm⟩))
   ·rw [decide_eq_false hh];have hrow : zc7 hs (zn9 es a d1 d2):=Sm.row.of fun d hd=>zb95 hd1 hd2 hd;refine zy3 (zB5 (zg2 (za4 NC (hr.mono (by decide)) rfl DC.at_ DC.fn.kp DC.bd (za1 (bv 6 rfl ⟨zn9 es a d1 d2,rfl,hrow.ok,by rw [zS4 hd1 hd2]; omega,fun c hc=>⟨_,rfl,?_⟩⟩)))));cases c with
    | true =>
     refine zy3 (zb1 (zc2 (i:=3) ndSf rfl (Or.inl rfl) (bv 6 rfl ?_)));exact ⟨_,_,_,zn9 es a d1 d2,rfl,hw2,hrow,hc.mp rfl,by rw [zS4 hd1 hd2]; exact hel,fun x=>by rw [za86 hd1 hd2 hh]; exact Sm.view x⟩
    | false=>exact zk6 (zf4 ⟨_,_,_,es,rfl,hw2,Sm⟩)
  ·rw [decide_eq_false h1];exact zk6 (zf4 ⟨_,_,_,es,rfl,hw,Sm⟩)
 ·intro S' W' gX;refine exE4 gX fun o4 o5 o6 es qA=>?_;clear gX;refine anE3 qA fun qe0 hw Sm=>?_;clear qA;subst qe0;exact zb1 (zf2 (bv 3 rfl (hk es W' Sm hw)))
end
end K1
namespace L2
open PySem PySem.Spec PyProof.Rows PySem.SeqAt PySem.MeetsSeq
theorem zy7 (l : Addr) (items : Array Value) (n : Nat) (x : Value) (e : Value->Bool) (i : Nat) (t : Tok) (j : Nat) (hj : j < items.size) (hij : i <= j) (hsmall : (j : Int) < 2 ^ 63 - 1)
  (hit : e items[j] = true) (hno : ∀ m (hm : m < items.size),i <= m->m < j->e items[m] = false) :
  Meets (qy4.«list.index» ⟨[.ref l,x,.int i t],[]⟩)
   (fun A R s=>s.heap.get? l = some { cls:=.type "list",dict:=none,data:=.seq items n,slots:=#[] } /\ (∀ y,y∈items->EqAt A.in1 s y x (e y)) /\ R (.ok (.ret (.int j s.toks))) { s with toks:=s.toks + 1 }):=by
 intro prog w A R s h;refine za0 fun gG=>?_;obtain ⟨hp,g,d,tk,os⟩:=s;obtain ⟨hl,he,h⟩:=h;refine gG ?_;clear gG
 wp_walk using qy2 hl
 have a1 : ((fun i : Int=>if i < 0 then max 0 (i + (items.size : Int)) else i) ((some (i : Int)).getD 0)) = ((i : Nat) : Int):=by
  show (if (i : Int) < 0 then _ else (i : Int)) = _;rw [if_neg (by omega)]
 have a2 : ((fun i : Int=>if i < 0 then max 0 (i + (items.size : Int)) else i) ((none : Option Int).getD (2 ^ 63 - 1))) = 2 ^ 63 - 1:=by simp
 rw [a1,a2]
 exact ⟨ky3 plain_index_loop _,jy5 entry_index_loop (by
  rw [gy3 plain_index_loop _]
  exact PySem.SeqAt.index_loopAt l items n none #[] x e (2 ^ 63 - 1) j hj hsmall hit _ i rfl hij hno prog w A R _ ⟨hl,he,h⟩)⟩
section
variable {X : Bc} {S : Sl} {W : Wl} {k : KB}
theorem za88 (hu : X.A.units + 100 < cLine) : MtR X "list.index" (fun x vs H Q=>∃ l xs y ds d,∃ (i m : Nat),x = .ref l /\ vs = [y,.int i] /\ H l = some (.lst xs) /\ Paired (fun d v=>Rq X.K H v d) ds xs /\ Rq X.K H y d /\ ky9 ds = true /\ Dat d /\ i <= m /\ (∃ z,ds[m]? = some z /\ ly0 z d = true) /\ (∀ j z,i <= j->j < m->ds[j]? = some z->ly0 z d = false) /\ xs.length <= by0 /\ Q (.int m) H):=by
 intro pins s σ H x vs v us Q I rx rv h;refine za0 fun gG=>?_;obtain ⟨l,xs,y,ds,d,i,m,rfl,rfl,hH,pd,rd,hc,hd,him,⟨z,hz1,hz2⟩,hno,hz,q⟩:=h;refine gG ?_;clear gG;cases rx;obtain ⟨u,us',rfl,ru,rv'⟩ : ∃ u us',us = u :: us' /\ RelV y u /\ Vals [.int i] us':=by cases rv with | cons a b=>exact ⟨_,_,rfl,a,b⟩
 refine za0 fun gG=>?_;obtain ⟨u2,rfl,t,rfl⟩:=rv'.one;obtain ⟨z0,its,n,r,hl,e⟩:=I.lstM hH;obtain ⟨as,ra⟩:=Rqs.reads I ds hc (Rqs.of pd) r;obtain ⟨bs,rb⟩:=Rq.reads I d hd.lay rd ru;refine gG ?_;clear gG;have hlen : its.length = ds.length:=r.length.symm.trans (zb2 pd).symm
 have rdm : ∀ (i : Nat) (h1 : i < its.length) (h2 : i < ds.length),readOf s.heap its[i] = ds[i]:=fun i h1 h2=>by
  have:=readsAll_map ds _ _ hc ra;have e2:=congrArg (fun l=>l[i]?) this;simp [h1,h2] at e2;exact e2
 have hsz : its.length <= by0:=by rw [<- r.length]; exact hz
 obtain ⟨hm1,hm2⟩:=ay3.mp hz1;have l63:=zm7;refine call_meets PySem.F.slot_list_index ⟨_,e,rfl⟩ PySem.F.entry_list_index (PySem.F.args_list_index_3 _ _ _) (zy7 l its.toArray n u (fun y=>ly0 (readOf s.heap y) d) i t m (by rw [by7]; omega) him (by omega) ?_ ?_) ⟨e,?_,?_⟩
 ·have:=rdm m (by omega) hm1;simp [this];rw [hm2]; exact hz2
 ·intro j h1 h2 h3;have h1 : j < its.length:=by simpa using h1
  have:=rdm j h1 (by omega);simp [this];exact hno j _ h2 h3 (cy0 (by omega))
 ·refine items_eqAt (by simpa using ra) rb hc hd.lay ?_;have h1:=hd.dep;have h2 : min (oy7 ds) d.depth <= 64:=ey0 (Nat.min_le_right _ _) h1;omega
 ·exact ⟨.int m,H,I.tok _,⟨_,rfl⟩,q⟩
theorem zb96 {j i m : Nat} {ds : List PyData} {d z : PyData} (hu : X.A.units + 100 < cLine) (hj : W[j]? = some (.lst (zb6 ds))) (hc : ky9 ds = true) (hd : Dat d) (hl : ds.length <= by0) (him : i <= m) (hm : ds[m]? = some z) (hz : ly0 z d = true) (hno : ∀ j z,i <= j->j < m->ds[j]? = some z->ly0 z d = false) (h : k (.d (.int m)) W) :
  MB X "list" "list.index" (.o j) [.d d,.d (.int i)] W k:=.of (za88 hu) fun F A H Q v vs r zx zz q=>by
 refine za0 fun gG=>?_;obtain ⟨a,ws,rfl,ha,hH,p⟩:=r.at zx hj;obtain ⟨u,u2,rfl,zu,zu2⟩:=zs3 zz;refine gG ?_;clear gG;obtain rfl:=Rq.zd1 zu2;exact ⟨a,ws,u,ds,d,i,m,rfl,rfl,hH,zg1 (fun _ _ t=>Rq.same r.sub _ t) (zj0 p),Rq.same r.sub _ zu,hc,hd,him,⟨z,hm,hz⟩,hno,by rw [<- zb2 p]; simpa [zb6] using hl,q.same r (.dd (Rq.int _)) h⟩
theorem zY1 : MtR X "list.insert" (fun x vs H Q=>∃ l xs y,∃ (c : Int) (i : Nat),x = .ref l /\ vs = [.int c,y] /\ c = i /\ H l = some (.lst xs) /\ i <= xs.length /\ xs.length < by0 /\ Q .non (upd H l (.lst (xs.take i++y :: xs.drop i)))):=by
 intro pins s σ H x vs v us Q I rx rv h;refine za0 fun gG=>?_;obtain ⟨l,xs,y,c,i,rfl,rfl,hci,hH,hi,hz,q⟩:=h;refine gG ?_;clear gG;cases rx;refine za0 fun gG=>?_;obtain ⟨u0,u,rfl,⟨t,rfl⟩,ru⟩:=zs3 rv;obtain ⟨z,its,n,r,hl,e⟩:=I.lstM hH;refine gG ?_;clear gG;have hlen:=r.length;have l63:=zm7;have hfit : Builtin.List.listFitsIndex c = true:=fitsIndex_both (by omega) (by omega)
 refine call_meets PySem.F.slot_list_insert ⟨_,e,rfl⟩ PySem.F.entry_list_insert (PySem.F.args_list_insert_3 _ _ _)
  (PySem.AutoSeq1.list_insert_list_int_val_1 l _ n c t u (by simp [hfit]) (by rw [by7]; omega)) ⟨e,?_⟩
 refine ⟨.non,_,I.lset (its':=its.take i++u :: its.drop i) hH e ?_ ?_ ?_,rfl,q⟩
 ·show ((its.toArray.extract 0 (if c < 0 then (c + (its.toArray.size : Int)).toNat else min c.toNat its.toArray.size)).push u++its.toArray.extract (if c < 0 then (c + (its.toArray.size : Int)).toNat else min c.toNat its.toArray.size)) = _;have hc : c.toNat = i:=by omega
  rw [if_neg (by omega),by7,hc,oy6 (by omega)];apply Array.toList_inj.mp;simp [hy7]
 ·have p : Paired RelV xs its:=r;exact zo0 (zB3 i p) (.cons ru (zB4 i p))
 ·rw [by5,hy8,dy3,vy6];omega
theorem za89 {j i : Nat} {es : List El} {y : El} (hj : W[j]? = some (.lst es)) (hi : i <= es.length) (hl : es.length < by0) (h : k (.d .none) (W.set j (.lst (es.take i++y :: es.drop i)))) :
  MB X "list" "list.insert" (.o j) [.d (.int i),y] W k:=.of zY1 fun F A H Q v vs r zx zz q=>by
 refine za0 fun gG=>?_;obtain ⟨a,ws,rfl,ha,hH,p⟩:=r.at zx hj;obtain ⟨u,u2,rfl,zu,zu2⟩:=zs3 zz;refine gG ?_;clear gG;obtain rfl:=Rq.zd1 zu;have hlen:=zb2 p;refine ⟨a,ws,u2,_,i,rfl,rfl,rfl,hH,by omega,by omega,?_⟩;exact q.put r ha (o:=.lst (es.take i++y :: es.drop i)) ⟨_,rfl,zo0 (zB3 i p) (.cons zu2 (zB4 i p))⟩ (.dd Rq.non) h
theorem zd33 {j i : Nat} {es : List El} {y : El} (hj : W[j]? = some (.lst es)) (hi : es[i]? = some y) (hl : es.length <= by0) (h : k y (W.set j (.lst (es.eraseIdx i)))) : MB X "list" "list.pop" (.o j) [.d (.int i)] W k:=.of zP5 fun F A H Q v vs r zx z q=>by
 refine za0 fun gG=>?_;obtain ⟨a,ws,rfl,ha,hH,p⟩:=r.at zx hj;obtain ⟨u,rfl,zu⟩:=zi3 z;refine gG ?_;clear gG;obtain rfl:=Rq.zd1 zu;have hlen:=zb2 p;have l63:=zm7;have hi1:=(ay3.mp hi).1;refine za0 fun gG=>?_;obtain ⟨b,hb,zb⟩:=zi8 p hi;refine gG ?_;clear gG;refine ⟨a,ws,i,i,b,rfl,rfl,hH,by omega,by omega,?_,hb,?_⟩
 ·unfold seqIndex?
  have h1 : ((0 : Int) <= (i : Int) && decide ((i : Int) < (ws.length : Int))) = true:=by
   rw [my0];exact ⟨decide_eq_true (by omega),decide_eq_true (by omega)⟩
  simp only [if_neg (show ¬ (i : Int) < 0 by omega)];rw [if_pos h1];rfl
 ·exact q.put r ha (o:=.lst (es.eraseIdx i)) ⟨_,rfl,zQ7 i p⟩ zb h
end
end L2
namespace L2
open PySem PySem.Spec PyProof.Rows
def rngO (r : Addr) (a b : Int) : HO:=.ext fun h=>∃ t u v,PySem.IsRange h r a b (-1) t u v
def zY2 (a : Int) (n : Nat) : List PyData:=(iy3 n).map fun (i : Nat)=>.int (a - (i : Int))
theorem small_down {a b : Int} (h1 : -1000000 <= a) (h2 : a <= 1000000) (h3 : -1000000 <= b) (h4 : b <= 1000000) : Builtin.Range.small a b (-1) = true:=by
 unfold Builtin.Range.small ry2;simp only [Builtin.Range.rangeFitsLong,my0,Bool.or_eq_true,decide_eq_true_eq,beq_iff_eq,show ¬ (-1 : Int) > 0 by decide,if_false,show (- -1 : Int) = 1 by decide,Int.ediv_one]
 split <;> omega
theorem za90 {a b : Int} : ry2 a b (-1) = ((a - b).toNat : Int):=by
 unfold Builtin.Range.rangeSize;rw [if_neg (by decide)]
 split
 ·rw [show (- -1 : Int) = 1 by decide,Int.ediv_one]; omega
 ·omega
theorem za91 {α β : Type} {F : α->β->Prop} : ∀ {l : List α} {m : List β},l.length = m.length->(∀ (i : Nat) a b,l[i]? = some a->m[i]? = some b->F a b)->Paired F l m
 | [],[],_,_=>.nil
 | [],_ :: _,h,_=>by simp at h
 | _ :: _,[],h,_=>by simp at h
 | a :: l,b :: m,h,q=>.cons (q 0 a b rfl rfl) (za91 (by simpa using h) fun i x y hx hy=>q (i + 1) x y (by simpa using hx) (by simpa using hy))
section
variable {X : Cx}
theorem zO5 : zj8 X (.type "range") fun xs H Q=>∃ a b : Int,xs = [.int a,.int b,.int (-1)] /\ -1000000 <= a /\ a <= 1000000 /\ -1000000 <= b /\ b <= 1000000 /\ ∀ r,H r = none->Q (.ref r) (upd H r (rngO r a b)):=by
 intro pins s σ H xs us Q I r ⟨a,b,e,h1,h2,h3,h4,q⟩;subst e;obtain ⟨u1,us',rfl,⟨t1,rfl⟩,r'⟩ : ∃ u us',us = u :: us' /\ RelV (.int a) u /\ Vals [.int b,.int (-1)] us':=by cases r with | cons x y=>exact ⟨_,_,rfl,x,y⟩
 refine za0 fun gG=>?_;obtain ⟨u2,u3,rfl,⟨t2,rfl⟩,⟨t3,rfl⟩⟩:=zs3 r';refine gG ?_;clear gG;refine PySem.call_range_3 (by decide) ?_ (Or.inl (PyProof.noPylong_small (by omega)));exact ⟨.ref s.heap.objs.size,_,I.laid (t':=s.toks) (o:=rngO s.heap.objs.size a b) (fun b u q=>ay2 _ q) (ay6 _) ⟨⟨_,_,_,PySem.IsRange.new ..⟩,⟨_,ay7 _ rfl⟩,fun h1 h2 ⟨t,u,v,x⟩ k=>⟨t,u,v,k _ x⟩⟩,rfl,q _ (I.hok.fresh (ay6 _))⟩
theorem zY3 (hc : X.calm = true) : zj8 X (.type "list") fun xs H Q=>∃ (r : Addr) (a b : Int),xs = [.ref r] /\ H r = some (rngO r a b) /\ -1000000 <= a /\ a <= 1000000 /\ -1000000 <= b /\ b <= 1000000 /\ ∀ l,H l = none->Q (.ref l) (upd H l (.lst ((iy3 (a - b).toNat).map fun (i : Nat)=>V.int (a - (i : Int))))):=by
 intro pins s σ H xs us Q I r ⟨p,a,b,e,hp,h1,h2,h3,h4,q⟩;subst e;refine za0 fun gG=>?_;obtain ⟨u,rfl,rx⟩:=vals1 r;refine gG ?_;clear gG;cases rx;refine za0 fun gG=>?_;obtain ⟨⟨t,u,v,hr⟩,_,_⟩:=(show zb9 X.prog X.w H s.heap p (rngO p a b) from I.hok p _ hp)
 refine gG ?_;clear gG;refine PySem.call_list_range (I.ok.hd hc) hr (small_down h1 h2 h3 h4) za90 (by omega) fun h' tk acc c' k e ia=>?_;refine ⟨.ref s.heap.objs.size,_,I.laid (t':=tk) k (ay6 _) (show zb9 X.prog X.w _ h' _ (.lst _) from ⟨?_,acc.toList,c',?_,by simpa using e⟩),rfl,q _ (I.hok.fresh (ay6 _))⟩
 ·rw [ay5,List.length_range,ny6]; omega
 ·refine za91 (by rw [ay5,List.length_range,iy0,ia.1]) fun i x y hx hy=>?_;rw [ay9] at hx
  have hi : i < (a - b).toNat:=by
   have:=(ay3.mp hy).1;rw [iy0,ia.1] at this;exact this
  rw [List.getElem?_range hi] at hx;cases hx;refine za0 fun gG=>?_;obtain ⟨t,rfl⟩:=ia.2 i y (by simpa using hy);refine gG ?_;clear gG;exact ⟨t,by rw [show a - (i : Int) = a + (i : Int) * -1 by omega]⟩
end
section
variable {X : Bc} {S : Sl} {W : Wl} {k : KB}
theorem zd34 {a b c : Expr} {p1 p2 pos1 pos2 : Pos} (hc : X.calm = true) (hg1 : Gl X "list") (hm1 : X.mg "list" = none) (hv1 : ey9 "list" = some (.type "list")) (hg2 : Gl X "range") (hm2 : X.mg "range" = none) (hv2 : ey9 "range" = some (.type "range"))
  (h : BA X S W [a,b,c] fun as W1=>∃ i j : Int,as = [.d (.int i),.d (.int j),.d (.int (-1))] /\ -1000000 <= i /\ i <= 1000000 /\ -1000000 <= j /\ j <= 1000000 /\ k (.d (.list (zY2 i (i - j).toNat))) W1)
  (he : ey8 [a,b,c] X.env = (false,eval a X.env) :: ey8 [b,c] X.env:=by rfl) (hpl : (backTo pos2 (ey8 [b,c] X.env)).any (·.1) = false:=by rfl) (he2 : ey8 [.Call (.Name "range" p2) [a,b,c] [] pos2] X.env = [(false,eval (.Call (.Name "range" p2) [a,b,c] [] pos2) X.env)]:=by rfl) :
  BE X S W (.Call (.Name "list" p1) [.Call (.Name "range" p2) [a,b,c] [] pos2] [] pos1) k :=
 .of (zu9 (zY3 hc) hg1 hm1 hv1 (zm9 (zu9 zO5 hg2 hm2 hv2 pa_U (by decide) (by decide) he hpl) zz1 he2) (by decide) (by decide) he2 rfl) fun F A σ H Q x0 r sr q=>by
  refine h.use x0 r sr fun F1 A1 W1 H1 as vs e1 r1 z1 zR=>?_;refine za0 fun gG=>?_;obtain ⟨i,j,e,h1,h2,h3,h4,hk⟩:=zR;subst e;refine gG ?_;clear gG;obtain ⟨v1,vs',rfl,y1,z2⟩ : ∃ u us',vs = u :: us' /\ ElR X.K F1 A1 (.d (.int i)) u /\ Paired (ElR X.K F1 A1) [.d (.int j),.d (.int (-1))] us':=by cases z1 with | cons x y=>exact ⟨_,_,rfl,x,y⟩
  refine za0 fun gG=>?_;obtain ⟨v2,v3,rfl,y2,y3⟩:=zs3 z2;refine gG ?_;clear gG;obtain rfl:=Rq.zd1 y1;obtain rfl:=Rq.zd1 y2;obtain rfl:=Rq.zd1 y3;refine ⟨i,j,rfl,h1,h2,h3,h4,fun r hr=>?_⟩;obtain ⟨r2,e2⟩:=r1.newF hr (rngO r i j);refine ⟨r,i,j,rfl,zb3,h1,h2,h3,h4,fun l hl=>?_⟩;refine ((q.ext e1).ext e2).newL r2 hl (ds:=zY2 i (i - j).toNat) ?_ hk;refine za91 (by simp [zY2]) fun m x y hx hy=>?_;unfold zY2 at hx;rw [ay9] at hx hy;cases hm : (iy3 (i - j).toNat)[m]? with
  | none=>rw [hm] at hx; cases hx
  | some n =>
   rw [hm] at hx hy;cases hx;cases hy;exact Rq.int _
end
end L2
namespace K1
open PySem L2
def goF : Wd->List za7->Prop
 | _,[]=>True
 | f,d :: ds=>zl4 f d = true /\ goF (zc4 f d) ds
theorem zO6 : ∀ (ds : List za7) (f : Wd),(∀ i d,ds[i]? = some d->zl4 ((ds.take i).foldl zc4 f) d = true) ↔ goF f ds
 | [],f=>⟨fun _=>trivial,fun _ i d h=>by simp at h⟩
 | e :: ds,f=>by
  constructor
  ·intro h;refine ⟨h 0 e rfl,(zO6 ds _).mp fun i d hi=>?_⟩;have:=h (i + 1) d (by simpa using hi);simpa using this
  ·rintro ⟨h1,h2⟩ i d hi;cases i with
   | zero =>
    simp at hi;subst hi;exact h1
   | succ i =>
    have:=(zO6 ds _).mpr h2 i d (by simpa using hi);simpa using this
theorem zg6 (ds : List za7) : Goes ds ↔ goF (fun _ _=>[]) ds:=zO6 ds _
theorem zr4 : ∀ (a b : List za7) (f : Wd),goF f (a++b) ↔ goF f a /\ goF (a.foldl zc4 f) b
 | [],b,f=>by simp [goF]
 | d :: a,b,f=>by
  show zl4 f d = true /\ goF (zc4 f d) (a++b) ↔ (zl4 f d = true /\ goF (zc4 f d) a) /\ goF (a.foldl zc4 (zc4 f d)) b;rw [zr4 a b,and_assoc]
theorem zA2 {x d : za7} (hh : handOf x ≠ handOf d) (hx : x.x = d.x) (hy : x.y = d.y) : x.tk ≠ d.tk:=fun e=>hh (by unfold handOf; rw [e,hx,hy])
theorem zu4 {f : Wd} {x d : za7} (hh : handOf x ≠ handOf d) (h : zl4 f d = true) : zl4 (zc4 f x) d = true:=by
 unfold zl4 at h ⊢;cases ht : d.tk with
 | false=>rfl
 | true =>
  rw [ht] at h;have h : (f d.x d.y).take 1 = [d.w]:=by simpa using h
  have : (zc4 f x d.x d.y).take 1 = [d.w]:=by
   unfold zc4
   by_cases e : d.x = x.x /\ d.y = x.y
   ·rw [if_pos e]
    have hx : x.tk = false:=by
     cases hx : x.tk with
     | false=>rfl
     | true=>exact absurd (hx.trans ht.symm) (zA2 hh e.1.symm e.2.symm)
    unfold zh5;rw [hx];cases hf : f d.x d.y with
    | nil=>rw [hf] at h; simp at h
    | cons z ws=>rw [hf] at h; simpa using h
   ·rw [if_neg e]; exact h
  simp [this]
theorem zJ7 {f : Wd} {x d : za7} (hh : handOf x ≠ handOf d) (hx : zl4 f x = true) (hd : zl4 f d = true) : zc4 (zc4 f x) d = zc4 (zc4 f d) x:=by
 funext a b
 by_cases e : x.x = d.x /\ x.y = d.y
 ·have ht:=zA2 hh e.1 e.2;unfold zc4
  by_cases e1 : a = x.x /\ b = x.y
  ·have e2 : a = d.x /\ b = d.y:=⟨e1.1.trans e.1,e1.2.trans e.2⟩
   simp only [if_pos e2,if_pos e1]
   have e3 : f a b ≠ []:=by
    unfold zl4 at hx hd;intro z;cases h1 : x.tk with
    | true =>
     rw [h1,<- e1.1,<- e1.2,z] at hx;simp at hx
    | false =>
     cases h2 : d.tk with
     | true =>
      rw [h2,<- e2.1,<- e2.2,z] at hd;simp at hd
     | false=>exact ht (h1.trans h2.symm)
   unfold zh5;cases h1 : x.tk with
   | true =>
    have h2 : d.tk = false:=by
     cases h2 : d.tk with
     | false=>rfl
     | true=>exact absurd (h1.trans h2.symm) ht
    rw [h2];cases hf : f a b with
    | nil=>exact absurd hf e3
    | cons z ws=>simp
   | false =>
    have h2 : d.tk = true:=by
     cases h2 : d.tk with
     | true=>rfl
     | false=>exact absurd (h1.trans h2.symm) ht
    rw [h2];cases hf : f a b with
    | nil=>exact absurd hf e3
    | cons z ws=>simp
  ·have e2 : ¬ (a = d.x /\ b = d.y):=fun z=>e1 ⟨z.1.trans e.1.symm,z.2.trans e.2.symm⟩;simp only [if_neg e2,if_neg e1]
 ·unfold zc4
  by_cases e1 : a = x.x /\ b = x.y
  ·have e2 : ¬ (a = d.x /\ b = d.y):=fun z=>e ⟨e1.1.symm.trans z.1,e1.2.symm.trans z.2⟩;simp only [if_neg e2,if_pos e1]
  ·by_cases e2 : a = d.x /\ b = d.y
   ·simp only [if_pos e2,if_neg e1]
   ·simp only [if_neg e2,if_neg e1]
theorem zS5 {f : Wd} {x d : za7} {r : List za7} (h : goF f (x :: d :: r)) (hh : handOf x ≠ handOf d) (hd : zl4 f d = true) : goF f (d :: x :: r) :=
 ⟨hd,zu4 (fy4 hh) h.1,by rw [<- zJ7 hh h.1 hd]; exact h.2.2⟩
theorem zJ8 {d : za7} : ∀ (B : List za7) (f : Wd),zl4 f d = true->(∀ b∈B,handOf b ≠ handOf d)->zl4 (B.foldl zc4 f) d = true
 | [],_,h,_=>h
 | b :: B,f,h,q=>zJ8 B _ (zu4 (q b by2) h) fun e he=>q e (by1 _ he)
theorem za92 {A r : List za7} {x d : za7} (h : Goes (A++x :: d :: r)) (hh : handOf x ≠ handOf d) (hd : zl4 (zg5 A) d = true) : Goes (A++d :: x :: r):=by
 rw [zg6,zr4] at h ⊢;exact ⟨h.1,zS5 h.2 hh hd⟩
inductive Walk : List za7->List Nat->List za7->Prop
 | nil (r : List za7) : Walk r [] r
 | cons {r r' : List za7} {p : Nat} {ps : List Nat} {d1 d2 : za7} : r[p]? = some d1->r[p + 1]? = some d2->handOf d1 ≠ handOf d2->Goes (zn9 r p d1 d2)->Walk (zn9 r p d1 d2) ps r'->Walk r (p :: ps) r'
theorem Walk.app {a b c : List za7} {ps qs : List Nat} (h : Walk a ps b) (h' : Walk b qs c) : Walk a (ps++qs) c:=by
 induction h with
 | nil r=>exact h'
 | cons h1 h2 h3 h4 _ ih=>exact .cons h1 h2 h3 h4 (ih h')
def zx8 (hi n : Nat) : List Nat:=(iy3 n).map fun i=>hi - 1 - i
theorem zY4 (hi n : Nat) : zx8 (hi + 1) (n + 1) = hi :: zx8 hi n:=by
 unfold zx8;rw [List.range_succ_eq_map,ey6,gy1]
 congr 1
 exact ky7 fun i _=>by show hi + 1 - 1 - (i + 1) = hi - 1 - i; rw [Nat.add_sub_cancel,Nat.sub_sub,Nat.add_comm]
theorem zd35 {A r : List za7} {x d : za7} : (A++x :: d :: r)[A.length]? = some x /\ (A++x :: d :: r)[A.length + 1]? = some d /\ zn9 (A++x :: d :: r) A.length x d = A++d :: x :: r:=by
 refine ⟨by simp,by simp,?_⟩;unfold zn9;rw [sy6,List.drop_append,List.drop_of_length_le (by omega)];simp
theorem zJ9 {A : List za7} {d : za7} (hA : zl4 (zg5 A) d = true) : ∀ (n : Nat) (B C : List za7),B.length = n->(∀ b∈B,handOf b ≠ handOf d)->Goes (A++(B++d :: C))->Walk (A++(B++d :: C)) (zx8 (A.length + n) n) (A++d :: (B++C)) /\ Goes (A++d :: (B++C))
 | 0,B,C,hn,_,hg=>by
  have : B = []:=List.length_eq_zero_iff.mp hn;subst this;exact ⟨.nil _,hg⟩
 | n + 1,B,C,hn,hB,hg=>by
  obtain ⟨B1,x,rfl⟩ : ∃ B1 x,B = B1++[x]:=by
   have hne : B ≠ []:=fun z=>by rw [z] at hn; simp at hn
   exact ⟨B.dropLast,B.getLast hne,(List.dropLast_concat_getLast hne).symm⟩
  have hn1 : B1.length = n:=by simpa using hn
  have e0 : A++((B1++[x])++d :: C) = (A++B1)++x :: d :: C:=by simp
  have hx:=hB x (by simp);have hB1 : ∀ b∈B1,handOf b ≠ handOf d:=fun b hb=>hB b (by simp [hb])
  have hc : zl4 (zg5 (A++B1)) d = true:=by
   unfold zg5;rw [List.foldl_append];exact zJ8 B1 _ hA hB1
  rw [e0] at hg ⊢;have hg2:=za92 hg hx hc;refine za0 fun gG=>?_;obtain ⟨s1,s2,s3⟩:=zd35 (A:=A++B1) (r:=C) (x:=x) (d:=d);refine gG ?_;clear gG;have e1 : (A++B1)++d :: x :: C = A++(B1++d :: (x :: C)):=by simp
  obtain ⟨w,g⟩:=zJ9 hA n B1 (x :: C) hn1 hB1 (by rw [<- e1]; exact hg2);have e2 : A++d :: (B1++x :: C) = A++d :: ((B1++[x])++C):=by simp
  rw [e2] at w g;refine ⟨?_,g⟩;rw [show A.length + (n + 1) = (A.length + n) + 1 by omega,zY4];have e3 : A.length + n = (A++B1).length:=by rw [by5,hn1]
  rw [e3];refine .cons s1 s2 hx (by rw [s3]; exact hg2) ?_;rw [s3,e1,<- e3];exact w
theorem zp6 {d : za7} : ∀ {R vs : List za7},viewOf (handOf d) R = d :: vs->∃ B C,R = B++d :: C /\ ∀ b∈B,handOf b ≠ handOf d
 | [],_,h=>by simp [viewOf] at h
 | r :: R,vs,h=>by
  by_cases e : handOf r = handOf d
  ·have : viewOf (handOf d) (r :: R) = r :: viewOf (handOf d) R:=by simp [viewOf,e]
   rw [this] at h;injection h with h1 h2
   subst h1;exact ⟨[],R,rfl,by simp⟩
  ·have : viewOf (handOf d) (r :: R) = viewOf (handOf d) R:=by simp [viewOf,e]
   rw [this] at h;refine za0 fun gG=>?_;obtain ⟨B,C,rfl,hB⟩:=zp6 h;refine gG ?_;clear gG;refine ⟨r :: B,C,rfl,fun b hb=>?_⟩;rcases by8.mp hb with z | z
   ·rw [z]; exact e
   ·exact hB b z
theorem zh2 {x : Str} : ∀ {B : List za7},(∀ b∈B,handOf b ≠ x)->viewOf x B = []:=fun {B} h=>by
 unfold viewOf;exact List.filter_eq_nil_iff.mpr fun b hb=>by simpa using h b hb
theorem zc9 (x : Str) (d : za7) (r : List za7) : viewOf x (d :: r) = if handOf d = x then d :: viewOf x r else viewOf x r:=by
 unfold viewOf;rw [List.filter_cons];simp
theorem zK0 {d : za7} {B C T : List za7} (hB : ∀ b∈B,handOf b ≠ handOf d) (h : ∀ x,viewOf x (B++d :: C) = viewOf x (d :: T)) : ∀ x,viewOf x (B++C) = viewOf x T:=fun x=>by
 have h1:=h x;rw [zd7,zc9,zc9] at h1;rw [zd7]
 by_cases e : handOf d = x
 ·rw [if_pos e,if_pos e,zh2 (fun b hb=>by rw [<- e]; exact hB b hb)] at h1;rw [zh2 (fun b hb=>by rw [<- e]; exact hB b hb)];injection h1
 ·rw [if_neg e,if_neg e] at h1;exact h1
theorem zE6 {R : List za7} (h : ∀ x,viewOf x R = viewOf x []) : R = []:=by
 cases R with
 | nil=>rfl
 | cons d R =>
  have:=h (handOf d);rw [zc9,if_pos rfl] at this;simp [viewOf] at this
theorem zb97 {k : Nat} {A : Around} (r : zz0 k A) : A.units + 100 < cLine:=by have:=r.un; omega
def zk5 (a b : List za7) : Option Str:=(zb65 (zf1 (zE5 (a++b)))).find? fun x=>decide (viewOf x a ≠ viewOf x b)
def optD : Option Str->PyData
 | none=>.none
 | some x=>.str x
theorem zS6 {α : Type} {p : α->Bool} : ∀ {ss : List α} {i : Nat} {x : α},(∀ y∈ss.take i,p y = false)->ss[i]? = some x->p x = true->ss.find? p = some x
 | [],_,_,_,h,_=>by simp at h
 | s :: ss,0,x,_,h,hp=>by
  simp at h;subst h;rw [hy0,hp]
 | s :: ss,i + 1,x,hn,h,hp=>by
  have h0:=hn s (by simp);rw [hy0,h0];exact zS6 (i:=i) (fun y hy=>hn y (by rw [List.take_succ_cons]; exact by1 _ hy)) (by simpa using h) hp
theorem zb98 (a b : List za7) : zE5 (a++b) = zE5 a++zE5 b:=by unfold zE5; rw [List.flatMap_append]
theorem zS7 {c : List za7} {x : Str} (hx : x ∉ zE5 c) : viewOf x c = []:=zh2 fun d hd h=>hx (sy2.mpr ⟨d,hd,by
 unfold handOf at h
 split at h <;> simp [h]⟩)
theorem zA3 {a b : List za7} (h : zk5 a b = none) : ∀ x,viewOf x a = viewOf x b:=fun x=>by
 unfold zk5 at h;rw [ty6] at h
 by_cases hm : x∈zE5 (a++b)
 ·have:=h x ((zA0 _).mem_iff.mpr (zh0.mpr hm));simpa using this
 ·rw [zb98] at hm;rw [zS7 fun z=>hm (iy6 _ z),zS7 fun z=>hm (dy0 _ z)]
theorem zp7 {a b : List za7} (h : ∀ x,viewOf x a = viewOf x b) : zk5 a b = none:=by
 unfold zk5;rw [ty6];intro x _;simp [h x]
theorem zE7 {hs : List Str} {ds : List za7} (h : zc7 hs ds) (x : Str) : ∀ d∈viewOf x ds,d.Ok:=fun d hd=>h.ok d (gy6.mp hd).1
theorem zc7.app {hs : List Str} {a b : List za7} (h : zc7 hs a) (h' : zc7 hs b) : zc7 hs (a++b) :=
 ⟨fun d hd=>(dy9.mp hd).elim (h.ok d) (h'.ok d),fun d hd=>(dy9.mp hd).elim (h.x d) (h'.x d),fun d hd=>(dy9.mp hd).elim (h.y d) (h'.y d)⟩
section
variable {P : cy6} {w : World} {K : ay4} {mg : Str->Option Value} {base : Heap} {kA : Addr}
def zd36 : RB:=fun as W k=>∃ (hs : List Str) (a b : List za7),as = [.d (rP a),.d (rP b)] /\ zc7 hs a /\ zc7 hs b /\ hs.length <= 8 /\ a.length <= 400 /\ b.length <= 400 /\ k (.d (optD (zk5 a b))) W
abbrev nPa : List Str:=["row", "other", "hand"]
theorem scPa : zb5 nPa ["row", "other"] (za3 zk9):=⟨rfl,rfl,rfl,by decide +kernel,rfl,by decide +kernel,by decide +kernel⟩
theorem ndPa : nPa.Nodup:=by decide +kernel
structure zd37 (K : ay4) (mg : Str->Option Value) (fO fS fV : Addr) (dO dS dV : ey4) : Prop where
 handOf : Def K mg "hand_of" zj7 fO dO ["deed"]
 handsOf : Def K mg "hands_of" zf7 fS dS ["row"]
 view : Def K mg "view" zt4 fV dV nVi
theorem zK1 {f fO fS fV : Addr} {fd dO dS dV : ey4} (F : Fun K "parted_hand" "parted_hand" zk9 f fd) (T : Txt mg) (D : zd37 K mg fO fS fV dO dS dV) : zj9 P w K mg base CX0 3 f fd ["row", "other"] (spB K zd36):=by
 have NS:=@zm4 P w K mg base _ _ D.handsOf.fn T;have NV:=@zO4 P w K mg base _ _ _ _ D.view.fn T D.handOf;refine zn1 F scPa (fun as W k hR=>by obtain ⟨hs,a,b,e,_⟩:=hR; subst e; rfl) fun cc hr as W k hcl hR=>?_;refine exE3 hR fun hs a b qA=>?_;clear hR;refine anE7 qA fun e ha hb hh hal hbl hk=>?_;clear qA;subst e;refine za5 (zo6 jy7 rfl (zw1 (za4 NS (hr.mono (by decide)) rfl D.handsOf.at_ D.handsOf.fn.kp D.handsOf.bd (za1 (ze7 (bv 0 rfl (bv 1 rfl (zq7 (by rw [ay5,ay5]; exact zc1 (by omega)) ⟨hs,a++b,by simp [rP],ha.app hb,hh,by rw [by5]; omega,fun ss pm so=>⟨_,rfl,W.length,fun i S' W'=>W' = W /\ (∃ o2,S' = [some (.d (rP a)),some (.d (rP b)),o2]) /\ ∀ x∈ss.take i,viewOf x a = viewOf x b,ay6 _,dy7 _,ay6 _,⟨rfl,⟨none,rfl⟩,by simp⟩,fun _ _ _ _ _=>trivial,?_,?_⟩⟩))))))))
 ·intro i z S' W' hz gX;refine za0 fun gG=>?_;obtain ⟨rfl,⟨o2,rfl⟩,hall⟩:=gX;refine gG ?_;clear gG;have hss:=zI0 pm so;rw [ay9] at hz;cases hx : ss[i]? with
  | none=>rw [hx] at hz; cases hz
  | some x =>
   rw [hx] at hz;cases hz;refine zk7 (i:=2) ndPa rfl (Or.inl rfl) ?_;refine zb1 (zh7 (zd5 rfl (za4 NV (hr.mono (by decide)) rfl D.view.at_ D.view.fn.kp D.view.bd (za2 (bv 0 rfl (za1 (bv 2 rfl ⟨x,a,rfl,by omega,za4 NV (hr.mono (by decide)) rfl D.view.at_ D.view.fn.kp D.view.bd (za2 (bv 1 rfl (za1 (bv 2 rfl ⟨x,b,rfl,by omega,za32 hr.units (d:=rP (viewOf x a)) (e:=rP (viewOf x b)) (.inl rfl) (.inl rfl) (zV4 (zE7 ha x)) (zV4 (zE7 hb x)) ⟨_,rfl,?_⟩⟩))))⟩)))))));rw [zc98]
   by_cases hv : viewOf x a = viewOf x b
   ·rw [decide_eq_true hv];refine zk6 (zf4 ⟨rfl,⟨_,rfl⟩,fun y hy=>?_⟩);rw [ey7,hx] at hy;rcases dy9.mp hy with h | h
    ·exact hall y h
    ·simp at h; rw [h]; exact hv
   ·rw [decide_eq_false hv]
    have e : zk5 a b = some x:=by
     unfold zk5;rw [<- hss];exact zS6 (fun y hy=>by simp [hall y hy]) hx (by simp [hv])
    rw [e] at hk;exact zy3 (zb1 (zf2 (bv 2 rfl hk)))
 ·intro S' W' gX;refine za0 fun gG=>?_;obtain ⟨rfl,⟨o2,rfl⟩,hall⟩:=gX;refine gG ?_;clear gG;have hss:=zI0 pm so;rw [ay5,gy0] at hall
  have e : zk5 a b = none:=by
   unfold zk5;rw [<- hss,ty6];intro x hx;simp [hall x hx]
  rw [e] at hk;exact zb1 (zf2 (zs1 hk))
end
abbrev natD (n : Nat) : PyData:=.int (n : Int)
theorem down_eq (i n : Nat) : zY2 (((i + n : Nat) : Int) - 1) ((((i + n : Nat) : Int) - 1) - ((i : Int) - 1)).toNat = (zx8 (i + n) n).map natD:=by
 have e : ((((i + n : Nat) : Int) - 1) - ((i : Int) - 1)).toNat = n:=by omega
 rw [e];unfold zY2 zx8;rw [gy1];refine ky7 fun j hj=>?_;have:=List.mem_range.mp hj;show wy8 (((i + n : Nat) : Int) - 1 - (j : Int)) = wy8 ((i + n - 1 - j : Nat) : Int)
 congr 1
 omega
theorem za93 {α : Type} (A B C : List α) (d : α) : (A++(B++d :: C)).eraseIdx (A.length + B.length) = A++(B++C):=by
 rw [<- ky2,<- by5,List.eraseIdx_append_of_length_le (ay6 _)];simp
structure zy8 (hs : List Str) (a b : List za7) (i : Nat) (R : List za7) (ps : List Nat) : Prop where
 walk : Walk a ps (b.take i++R)
 row : zc7 hs (b.take i++R)
 go : Goes (b.take i++R)
 len : (b.take i++R).length = a.length
 view : ∀ x,viewOf x R = viewOf x (b.drop i)
 few : ps.length <= 100 * i
theorem zy8.start {hs : List Str} {a b : List za7} (ha : zc7 hs a) (hg : Goes a) (hv : ∀ x,viewOf x a = viewOf x b) : zy8 hs a b 0 a [] :=
 ⟨.nil _,ha,hg,rfl,hv,ay6 _⟩
theorem zy8.split {hs : List Str} {a b : List za7} {i : Nat} {R : List za7} {ps : List Nat} (h : zy8 hs a b i R ps) {d : za7} (hd : b[i]? = some d) : ∃ B C,R = B++d :: C /\ ∀ z∈B,handOf z ≠ handOf d:=by
 obtain ⟨hl,e⟩:=ay3.mp hd;have h1:=h.view (handOf d);rw [py9 hl,e,zc9,if_pos rfl] at h1;exact zp6 h1
theorem zy8.next {hs : List Str} {a b B C : List za7} {i : Nat} {ps : List Nat} {d : za7} (h : zy8 hs a b i (B++d :: C) ps) (hd : b[i]? = some d) (hB : ∀ z∈B,handOf z ≠ handOf d) (hgb : Goes b) (hal : a.length <= 100) : zy8 hs a b (i + 1) (B++C) (ps++zx8 (i + B.length) B.length):=by
 obtain ⟨hl,e⟩:=ay3.mp hd;have ht : b.take (i + 1) = b.take i++[d]:=by rw [ey7,hd]; rfl
 have hil : (b.take i).length = i:=by rw [dy3]; omega
 obtain ⟨w,g⟩:=zJ9 (A:=b.take i) (d:=d) (hgb i d hd) B.length B C rfl hB h.go;have e1 : b.take i++d :: (B++C) = b.take (i + 1)++(B++C):=by rw [ht]; simp
 rw [e1] at w g;rw [hil] at w;have hlen:=h.len;simp only [by5,hy8] at hlen;refine ⟨h.walk.app w,h.row.of fun z hz=>?_,g,?_,?_,?_⟩
 ·rw [ht] at hz;simp only [dy9,by8,my1,or_false] at hz ⊢;rcases hz with (hz | hz) | hz | hz
  ·exact .inl hz
  ·exact .inr (.inr (.inl hz))
  ·exact .inr (.inl hz)
  ·exact .inr (.inr (.inr hz))
 ·rw [ht];simp only [by5,hy8,List.length_nil];omega
 ·refine zK0 hB (T:=b.drop (i + 1)) ?_;have:=h.view;rw [py9 hl,e] at this;exact this
 ·rw [by5];have : (zx8 (i + B.length) B.length).length = B.length:=by simp [zx8]
  have:=h.few;omega
theorem zy8.done {hs : List Str} {a b R : List za7} {ps : List Nat} (h : zy8 hs a b b.length R ps) : Walk a ps b:=by
 have h1:=h.view;rw [List.drop_length] at h1;have h2:=h.walk;rw [zE6 h1,gy0,wy5] at h2;exact h2
theorem zx9 {n m : Nat} (h : n <= m) : ∀ {e : El},e.below n->e.below m
 | .d _,_=>trivial
 | .s _,_=>trivial
 | .x _,_=>trivial
 | .p _,_=>trivial
 | .t _,q=>fun k hk=>by3 (q k hk) h
 | .o _,q=>by3 q h
theorem zb99 {n m : Nat} (h : n <= m) : ∀ {o : OD},o.below n->o.below m
 | .lst _,q=>fun e he=>zx9 h (q e he)
 | .dK _,q=>fun e he=>zx9 h (q e he)
 | .dT _,q=>fun e he=>zx9 h (q e he)
 | .fT _ _,q=>fun e he=>zx9 h (q e he)
 | .fK _ _,q=>fun e he=>zx9 h (q e he)
theorem take1 {W : Wl} {x y : OD} : (W++[x,y]).take (W.length + 1) = W++[x]:=by rw [List.take_append,hy7 (by omega)]; simp
section
variable {P : cy6} {w : World} {K : ay4} {mg : Str->Option Value} {base : Heap} {kA : Addr}
def zd38 : RB:=fun as W k=>∃ (hs : List Str) (a b : List za7),as = [.d (rP a),.d (rP b)] /\ zc7 hs a /\ zc7 hs b /\ Goes a /\ Goes b /\ (∀ x,viewOf x a = viewOf x b) /\ a.length <= 100 /\ b.length <= 100 /\ ∀ (ps : List Nat) (o : OD),Walk a ps b->ps.length <= 10000->k (.d (.list (ps.map natD))) (W++[o])
abbrev nPl : List Str:=["row", "other", "now", "places", "place", "deed", "at"]
theorem scPl : zb5 nPl ["row", "other"] (za3 zl9):=⟨rfl,rfl,rfl,by decide +kernel,rfl,by decide +kernel,by decide +kernel⟩
theorem ndPl : nPl.Nodup:=by decide +kernel
def dE (l : List za7) : List El:=l.map fun d=>.d (dP d)
theorem zu5 (l : List za7) : zb6 (l.map dP) = dE l:=by unfold zb6 dE; rw [gy1]; rfl
theorem zK2 (a b : List za7) : dE (a++b) = dE a++dE b:=by unfold dE; rw [gy2]
theorem zS8 (a : List za7) : (dE a).length = a.length:=by unfold dE; rw [ay5]
theorem za94 {f : Addr} {fd : ey4} (F : Fun K "places_to" "places_to" zl9 f fd) (T : Txt mg) : zj9 P w K mg base CX0 1 f fd ["row", "other"] (spB K zd38):=by
 refine zn1 F scPl (fun as W k hR=>by obtain ⟨hs,a,b,e,_⟩:=hR; subst e; rfl) fun cc hr as W k hcl hR=>?_;refine exE3 hR fun hs a b qA=>?_;clear hR;refine anE9 qA fun e ha hb hga hgb hv hal hbl hk=>?_;clear qA;subst e;refine za5 (zc2 (i:=2) ndPl rfl (Or.inl rfl) (zj1 rfl T.list_ za73 (za1 (bv 0 rfl (za37 ?_)))));refine za5 (zc2 (i:=3) ndPl rfl (Or.inl rfl) (zq6 (zi9 ⟨dy7 _,?_⟩)));refine za5 (za53 jy7 rfl rfl T.enum_ (za1 (bv 1 rfl ⟨b.map dP,W.length,fun i S' W'=>∃ (o4 o5 o6 : Option El) (R : List za7) (ps : List Nat),S' = [some (.d (rP a)),some (.d (rP b)),some (.o W.length),some (.o (W.length + 1)),o4,o5,o6] /\ W' = W++[.lst (zb6 ((b.take i++R).map dP)),.lst (zb6 (ps.map natD))] /\ zy8 hs a b i R ps,rfl,ay6 _,by simp,⟨none,none,none,a,[],by simp [zz8],by simp [zb6],.start ha hga hv⟩,?_,?_⟩)))
 ·intro i z S' W' hz gX;refine exE5 gX fun o4 o5 o6 R ps qA=>?_;clear gX;refine anE3 qA fun qe0 qe1 O=>?_;clear qA;subst qe0;subst qe1;rw [ay9] at hz;cases hd : b[i]? with
  | none=>rw [hd] at hz; cases hz
  | some d =>
  rw [hd] at hz;cases hz;have hdk:=hb.ok d (cy3 hd);have hi : i < b.length:=(ay3.mp hd).1;have hil : (b.take i).length = i:=by rw [dy3]; omega
  refine za0 fun gG=>?_;obtain ⟨B,C,rfl,hB⟩:=O.split hd;refine gG ?_;clear gG;have hlen:=O.len;have hfew:=O.few;simp only [by5,hy8] at hlen
  have m0 : (b.take i++(B++d :: C))[i + B.length]? = some d:=by
   have : i + B.length = (b.take i++B).length:=by rw [by5,hil]
   rw [<- ky2,this,cy7 (ay6 _)];simp
  refine zz6 rfl (.cons (i:=4) ndPl rfl (Or.inl rfl) (.cons (i:=5) ndPl rfl (Or.inl rfl) .nil)) rfl ?_;refine za5 (zc2 (i:=6) ndPl rfl (Or.inl rfl) (zm5 fy5 PySem.F.slot_list_index PySem.F.type_list_index (bv 2 rfl ⟨.inl ⟨rfl,_,gU rfl⟩,za2 (bv 5 rfl (za1 (bv 4 rfl (zb96 (m:=i + B.length) (z:=dP d) (zb97 hr) (gU rfl) (za47 O.row.ok).1 (ze26 hdk) (by rw [ay5]; simp only [by5,hy8]; exact zc1 (by omega)) (by omega) (by rw [ay9,m0]; rfl) (by rw [zc97]; simp) ?_ ?_))))⟩)))
  ·intro j z h1 h2 hj;rw [ay9] at hj;cases hj2 : (b.take i++(B++d :: C))[j]? with
   | none=>rw [hj2] at hj; cases hj
   | some y =>
    rw [hj2] at hj;cases hj;rw [cy7 (by omega),hil,ay8 (by omega)] at hj2;have:=hB y (cy3 hj2);rw [zc97];exact decide_eq_false fun z=>this (by rw [z])
  refine za5 (ze18 (i:=3) ndPl rfl (Or.inl rfl) rfl (zd34 rfl rfl T.list_ za73 rfl T.range_ zd16 (za2 (ze7 (bv 6 rfl (zb0 (za29 (za2 (ze7 (bv 4 rfl (zb0 (za29 (za1 (zN1 (zb0 ⟨1,rfl,_,_,rfl,by omega,by omega,by omega,by omega,ze21 (gR rfl) rfl ?_ ?_⟩)))))))))))))))
  ·rw [down_eq];simp [zb6,zx8];exact zc1 (by omega)
  rw [down_eq,za74,<- gy2,sR rfl];have ee : zb6 ((b.take i++(B++d :: C)).map dP) = dE (b.take i)++(dE B++.d (dP d) :: dE C):=by rw [zu5,zK2,zK2]; rfl
  have hi2 : (dE (b.take i)).length = i:=by rw [zS8,hil]
  refine zb1 (ze1 (zm5 fy5 PySem.F.slot_list_insert PySem.F.type_list_insert (bv 2 rfl ⟨.inl ⟨rfl,_,gU rfl⟩,za2 (bv 4 rfl (za1 (zm5 fy5 PySem.F.slot_list_pop PySem.F.type_list_pop (bv 2 rfl ⟨.inl ⟨rfl,_,gU rfl⟩,za1 (bv 6 rfl (zd33 (y:=.d (dP d)) (gU rfl) ?_ ?_ ?_))⟩))))⟩)))
  ·rw [zu5];unfold dE;rw [ay9,m0];rfl
  ·rw [zu5,zS8];simp only [by5,hy8];exact zc1 (by omega)
  have er : (zb6 ((b.take i++(B++d :: C)).map dP)).eraseIdx (i + B.length) = dE (b.take i)++(dE B++dE C):=by
   rw [ee];have:=za93 (dE (b.take i)) (dE B) (dE C) (.d (dP d));rw [hi2,zS8] at this;exact this
  rw [er,sU rfl];refine za89 (gU rfl) ?_ ?_ ?_
  ·simp only [by5,hi2]; omega
  ·simp only [by5,hi2,zS8]; exact hL (by omega)
  rw [sU rfl];have et : (dE (b.take i)++(dE B++dE C)).take i = dE (b.take i):=List.take_left' hi2;have ed : (dE (b.take i)++(dE B++dE C)).drop i = dE B++dE C:=List.drop_left' hi2;rw [et,ed];refine ⟨_,_,_,B++C,ps++zx8 (i + B.length) B.length,rfl,?_,O.next hd hB hgb hal⟩;rw [zu5,ey7,hd,zK2,zK2,zK2];simp [dE]
 ·intro S' W' gX;refine exE5 gX fun o4 o5 o6 R ps qA=>?_;clear gX;refine anE3 qA fun qe0 qe1 O=>?_;clear qA;subst qe0;subst qe1;have hfew:=O.few;rw [ay5] at O hfew;refine zb1 (zV2 (bv 3 rfl ⟨W.length + 1,_,rfl,by omega,gR rfl,?_,?_⟩))
  ·rw [take1];intro o ho;rcases dy9.mp ho with h | h
   ·exact zb99 (Nat.le_succ _) (hcl o h)
   ·have : o = OD.lst (zb6 ((b.take (b.map dP).length++R).map dP)):=by simpa using h
    subst this;intro e he;refine za0 fun gG=>?_;obtain ⟨z,_,rfl⟩:=cy4.mp he;refine gG ?_;clear gG;trivial
  ·rw [take1];exact hk ps _ O.done (by omega)
end
section
variable {P : cy6} {w : World} {K : ay4} {mg : Str->Option Value} {base : Heap} {kA : Addr}
structure zf58 (K : ay4) (mg : Str->Option Value) (fN fD fC fO fB : Addr) (dN dD dC dO dB : ey4) : Prop where
 name : Def K mg "is_name" zt3 fN dN ["thing"]
 deed : Def K mg "is_deed" zD9 fD dD ["thing"]
 can : Def K mg "can_be_done" zZ1 fC dC ["lines", "deed"]
 do_ : Def K mg "do_deed" sDo fO dO ["lines", "deed"]
 behind : Def K mg "lines_behind" zl8 fB dB ["row"]
def zc00 : RB:=fun as W k=>∃ (hs : List Str) (a b : List za7),as = [.d (rP a),.d (rP b)] /\ zc7 hs a /\ zc7 hs b /\ Goes a /\ Goes b /\ hs.length <= 8 /\ a.length <= 100 /\ b.length <= 100 /\ zk5 a b = none /\ ∀ ps : List Nat,Walk a ps b->ps.length <= 10000->k (.d (.tuple [.str "changes",.tuple (ps.map natD)])) W
abbrev nCh : List Str:=["row", "other", "hand"]
theorem scCh : zb5 nCh ["row", "other"] (za3 zl0):=⟨rfl,rfl,rfl,by decide +kernel,rfl,by decide +kernel,by decide +kernel⟩
theorem ndCh : nCh.Nodup:=ndPa
theorem zY5 {f fN fD fC fO fB fO2 fS fV fP fL : Addr} {fd dN dD dC dO dB dO2 dS dV dP' dL : ey4} (F : Fun K "changed" "changed" zl0 f fd) (T : zO2 K mg kA) (D : zf58 K mg fN fD fC fO fB dN dD dC dO dB) (DV : zd37 K mg fO2 fS fV dO2 dS dV) (DP : Def K mg "parted_hand" zk9 fP dP' ["row", "other"]) (DL : Def K mg "places_to" zl9 fL dL ["row", "other"]) : zj9 P w K mg base CX0 4 f fd ["row", "other"] (spB K zc00):=by
 have NB:=@zp4 P w K mg base kA _ _ _ _ _ _ _ _ _ _ D.behind.fn T D.name D.deed D.can D.do_;have NP:=@zK1 P w K mg base _ _ _ _ _ _ _ _ DP.fn T.t DV;have NL:=@za94 P w K mg base _ _ DL.fn T.t;refine zn1 F scCh (fun as W k hR=>by obtain ⟨hs,a,b,e,_⟩:=hR; subst e; rfl) fun cc hr as W k hcl hR=>?_;refine exE3 hR fun hs a b qA=>?_;clear hR;refine zd61 qA fun e ha hb hga hgb hh hal hbl ho hk2=>?_;clear qA;subst e;refine za5 (ze1 (za4 NB (hr.mono (by decide)) rfl D.behind.at_ D.behind.fn.kp D.behind.bd (za1 (bv 0 rfl ⟨a,rfl,ha.ok,by omega,hga,fun V1 _ _ _=>?_⟩))));refine za5 (ze1 (za4 NB (hr.mono (by decide)) rfl D.behind.at_ D.behind.fn.kp D.behind.bd (za1 (bv 1 rfl ⟨b,rfl,hb.ok,by omega,hgb,fun V2 _ _ _=>?_⟩))));refine za5 (zc2 (i:=2) ndCh rfl (Or.inl rfl) (za4 NP (hr.mono (by decide)) rfl DP.at_ DP.fn.kp DP.bd (za2 (bv 0 rfl (za1 (bv 1 rfl ⟨hs,a,b,rfl,ha,hb,hh,by omega,by omega,?_⟩))))));refine za5 (zh7 (zd5 rfl (bv 2 rfl (zs1 (zL6 ⟨_,rfl,?_⟩)))));rw [ho];refine zk6 (zf4 (zb1 (zf5 (zk1 (za2 (zc3 (za1 (zj1 rfl T.t.tuple_ zn7 (za1 (za4 NL (hr.mono (by decide)) rfl DL.at_ DL.fn.kp DL.bd (za2 (bv 0 rfl (za1 (bv 1 rfl ⟨hs,a,b,rfl,ha,hb,hga,hgb,zA3 ho,hal,hbl,fun ps o hw hp=>zv8 (.inl rfl) ⟨[.str "changes",.tuple (ps.map natD)],rfl,(by show 2 <= by0; decide),⟨_,W,V1++V2++[o],rfl,by simp,rfl,hcl,hk2 ps hw hp⟩⟩⟩))))))))))))))
end
end K1
namespace L2
open PySem PySem.Spec PyProof.Rows
section
variable {prog : cy6} {w : World} {A : Around} {E : Value->Shared->Prop} {s : Shared} {R : Result->Shared->Prop}
theorem codeAny_compStart_dict {kx vx : Expr} {gens : List Comprehension} {scope : Scope} {pos : Pos} {it acc : Value} {env : Env} {d : Nat} {g : Comprehension} (hg : gens[d]? = some g) (ha : g.is_async = 0)
  (h1 : my2 (model prog w) A (.compLoop (.DictComp kx vx gens scope pos) d it acc env) R s)
  (h2 : wpAny (model prog w) A (pyIter it) (fun it' s'=>my2 (model prog w) A (.compLoop (.DictComp kx vx gens scope pos) d it' acc env) R s') (fun _ _=>False) s) :
  my2 (model prog w) A (.compStart (.DictComp kx vx gens scope pos) d it acc env) R s:=by
 refine codeAny_of_tree ?_;show wpAny _ A ((compStart (.DictComp kx vx gens scope pos) d it acc env).onRaise (fun x=>do noteFrame x env; standAt theWindowsPlace)) _ _ s;refine wpAny_notedAt ?_;unfold compStart;have e1 : (clausesOf (.DictComp kx vx gens scope pos))[d]? = some g:=hg;have e2 : ((some g).elim false (·.is_async != 0)) = false:=by simp [ha]
 rw [e1,e2];refine ay0 (wpAny_askSetting (wpAny_ite ?_))
 by_cases hq : ((model prog w).w.params.followText "comprehension-iter-twice") = true
 ·rw [if_pos hq];exact ay0 (ay1 (ay1 ⟨rfl,h1⟩))
 ·rw [if_neg hq];refine ay0 (ny4 (ay0 (ly4 (ay0 (fy2 h2 (fun it' s' h'=>ay1 ⟨rfl,h'⟩) fun _ _ h=>h.elim)))))
theorem zY6 {kx vx target iter : Expr} {scope : Scope} {pos : Pos} {it : Value} {D : Addr} {env : Env} (J : Nat->Shared->Prop)
  (turn : ∀ n s,J n s->wpAny (model prog w) A (pyNext it) (fun r s1=>match r with
   | none=>R (.ok .next) s1
   | some v=>wpAny (model prog w) A (oy4 target it v) (fun _ s1'=>wpAny (model prog w) A (assign target env v) (fun _ s2 =>
     wpAny (model prog w) A (eval kx env) (fun kv s3=>wpAny (model prog w) A (eval vx env) (fun vv s4=>wpAny (model prog w) A (dictSet D kv vv) (fun _ s5=>∃ m,m < n /\ J m s5)
      (fun _ _=>False) s4) (fun _ _=>False) s3) (fun _ _=>False) s2) (fun _ _=>False) s1') (fun _ _=>False) s1) (fun _ _=>False) s)
  (n : Nat) (h : J n s) : my2 (model prog w) A (.compLoop (.DictComp kx vx [⟨target,iter,[],0⟩] scope pos) 0 it (.ref D) env) R s:=by
 refine codeAny_loop rfl J (fun n s hI=>?_) n h;show wpAny _ A ((compTurn (.DictComp kx vx [⟨target,iter,[],0⟩] scope pos) 0 it (.ref D) env).onRaise (fun x=>do noteFrame x env; theTreesLotGoes x)) _ _ s;refine wpAny_noted ?_;unfold compTurn;refine ay0 (ly4 (ay0 (fy2 (turn n s hI) (fun r s1 h1=>?_) fun _ _ h'=>h'.elim)));cases r with
 | none=>exact ay1 h1
 | some v =>
  refine ay0 (fy2 h1 (fun _ s1' h1'=>?_) fun _ _ h'=>h'.elim);refine ay0 (fy2 h1' (fun _ s2 h2=>?_) fun _ _ h'=>h'.elim);refine ay0 (ay1 ?_);refine ay0 (ay0 (fy2 h2 (fun kv s3 h3=>?_) fun _ _ h'=>h'.elim));refine ay0 (fy3 (fy2 h3 (fun vv s4 h4=>?_) fun _ _ h'=>h'.elim));refine ay0 (ly4 ?_);exact fy3 (fy2 h4 (fun _ s5 h5=>ay1 ⟨rfl,h5⟩) fun _ _ h'=>h'.elim)
end
theorem zi6 {P : cy6} {w : World} {h h' : Heap} {a : Addr} {vs : List (Key × Value)} (x : h.DictOf (zc5 P w) a vs) (k : ∀ o,h.get? a = some o->h'.get? a = some o) : h'.DictOf (zc5 P w) a vs:=by
 refine za0 fun gG=>?_;obtain ⟨o,es,ep,ho,r⟩:=x;refine gG ?_;clear gG;exact ⟨o,es,ep,k o ho,r⟩
theorem zY7 {P : cy6} {w : World} {h : Heap} {a : Addr} {vs : List (Key × Value)} (x : h.DictOf (zc5 P w) a vs) : ∃ o,h.get? a = some o /\ ∀ v,o.data ≠ .cell v:=by
 refine za0 fun gG=>?_;obtain ⟨o,es,ep,ho,_,hd,_⟩:=x;refine gG ?_;clear gG;exact ⟨o,ho,fun v z=>by rw [hd] at z; cases z⟩
def tDC (wi : TI) (O : List Str) (cap : List Nat) (g : TG) (tk tv : TE) : TE:=fun σ H Q=>wi σ H fun J H1=>∃ W : Nat->Nat->List (Key × V)->Hp->Prop,(∃ m,W 0 m [] H1) /\ ∀ i m kvs H,W i m kvs H->kvs.length < by0 /\
  ((J.stop i H /\ ∀ l,H l = none->Q (.ref l) (upd H l (.dK kvs))) \/
   (J.go i H /\ ∀ x H',J.yld i H x H'->g x (zc0 O cap σ) H' fun σ2 H2=>tk σ2 H2 fun kz H3=>∃ k : Str,kz = .str k /\ tv σ2 H3 fun z H4=>∃ m',m' < m /\ W (i + 1) m' (putK kvs (.inr k) z) H4))
section
variable {X : Cx} {tg iter kx vx : Expr} {scope : Scope} {pos : Pos} {wi : TI} {g : TG} {tk tv : TE} {O F : List Str} {cap : List Nat}
theorem zA4 {use : Option (Value->Sem Unit)} {R : Value->Shared->Prop} {pins : List (Addr × Obj)} {s : Shared} {σ : St} {H : Hp} {Q : VK} {ps0 : Pos} (hc : X.calm = true) (S : zb7 X.N X.env.scope O F cap scope) (hi : PI X tg iter wi)
  (hg : ∀ cl C ex s H,PG (zb8 X (O++F) scope cl C ex s H) tg g) (hk : ∀ cl C ex s H,PE (zb8 X (O++F) scope cl C ex s H) kx tk) (hv : ∀ cl C ex s H,PE (zb8 X (O++F) scope cl C ex s H) vx tv)
  (ho : Own O.length g) (hs : ∀ x,ey2 iter X.env x = pure x) (I : Inv X pins σ H s) (h : tDC wi O cap g tk tv σ H Q)
  (post : ∀ (s4 : Shared) (D C : Addr) (H4 : Hp) (kvs : List (Key × V)),(∃ m,s4.heap.Ns C m)->D ≠ C->(∀ h',fy0 C s4.heap h'->Inv X pins σ (upd H4 D (.dK kvs)) { s4 with heap:=h' })->zr8 X pins (upd H4 D (.dK kvs)) C->Q (.ref D) (upd H4 D (.dK kvs)) ->
   compPost (model X.prog X.w) X.A X.xe use R (.ref D) C (.ok .next) s4) :
  wpAny (model X.prog X.w) X.A (comprehension (.DictComp kx vx [⟨tg,iter,[],0⟩] scope pos) scope X.env ps0 newDict false (eval iter X.env) use) R X.xe s:=by
 have hfr : ∀ y∈scope.names,y.2 = .free->∃ c,X.env.cells.lookup y.1 = some c:=fun y hy e=>I.ok.has y.1 (S.frees y hy e);refine wpAny_comprehension_free (use:=use) rfl hs (zq2 hfr) S.kind S.names (thn (hi pins s σ H _ I h) fun v s1 h1=>thn h1 fun itv s2 h2=>?_);refine zF8 h2 fun it fp tn J H2 e I2 T st2 f2 qR=>?_;refine za0 fun gG=>?_;obtain ⟨W,⟨m0,w0⟩,turn⟩:=qR;subst e;refine gG ?_;clear gG;refine ey3 (wpAny_newFunctionEnv S.nocell (by intro y hy; simp at hy) (fun h1 hns1 hsb1=>?_) S.kind);dsimp only at hns1 hsb1 ⊢;have hS0 : (s2.heap.push { cls:=.type "dict",data:=.dict #[] }).DictOf (zc5 X.prog X.w) s2.heap.objs.size []:=Heap.DictOf.new _;generalize hH0 : s2.heap.push { cls:=.type "dict",data:=.dict #[] } = h0 at hns1 hsb1 hS0 ⊢;have h0s : h0.objs.size = s2.heap.objs.size + 1:=by rw [<- hH0,sy4]
 have k0 : ∀ b o,s2.heap.get? b = some o->h0.get? b = some o:=fun b o e=>hH0 ▸ ay2 _ e;have k1 : ∀ b o,h0.get? b = some o->h1.get? b = some o:=fun b o e=>hsb1.extBut b o (cy1 (by6 e)) (ay2 _ e);have hDC : s2.heap.objs.size < h0.objs.size:=by rw [h0s]; exact ny8 _
 have hsC : s2.heap.objs.size <= h0.objs.size:=ly8 hDC
 have flt : ∀ b∈fp,b < s2.heap.objs.size:=fun b hb=>by
  refine za0 fun gG=>?_;obtain ⟨o,e,_⟩:=T.obj _ _ st2 b hb;refine gG ?_;clear gG;exact by6 e
 have Dfp : s2.heap.objs.size ∉ fp:=fun z=>my5 _ (flt _ z)
 have I3 : Inv (zb8 X (O++F) scope (zt7 X.env.cells scope.names []) h0.objs.size (s2.heap.objs.size :: fp) { s2 with heap:=h0 } H2) [] (zc0 O cap σ) H2 { s2 with heap:=h1,toks:=s2.toks + ([] : List (Str × Value)).length } :=
  I2.comp S f2 (T.obj _ _ st2) hsC s2.heap.objs.size (ay6 _) hDC rfl k0 k1 hns1
 generalize hX' : zb8 X (O++F) scope (zt7 X.env.cells scope.names []) h0.objs.size (s2.heap.objs.size :: fp) { s2 with heap:=h0 } H2 = X' at I3;have hg' : PG X' tg g:=hX' ▸ hg _ _ _ _ _;have hk' : PE X' kx tk:=hX' ▸ hk _ _ _ _ _;have hv' : PE X' vx tv:=hX' ▸ hv _ _ _ _ _;have epn : X'.pn = []:=by rw [<- hX']; rfl
 have fpok : ∀ {H' : Hp} {b : Addr},b∈s2.heap.objs.size :: fp->H' b = none->zr8 X' [] H' b:=fun {H' b} hb hn=>by
  have hex : b∈X'.ex:=by rw [<- hX']; exact hb
  refine ⟨hn,(I3.ok.exf b hex).1,I3.ok.exfs b hex,.inl hex,(I3.ok.exf b hex).2,fun p hp=>?_⟩;rw [epn] at hp;exact absurd (show p∈([] : List (Addr × Obj)) from hp) (by simp)
 have eP : X'.prog = X.prog:=by rw [<- hX']; rfl
 have eW : X'.w = X.w:=by rw [<- hX']; rfl
 have eK : X'.K = X.K:=by rw [<- hX']; rfl
 have eA : X'.A = X.A:=by rw [<- hX']; rfl
 have eC : X'.calm = true:=by rw [<- hX']; exact hc
 have eE : X'.env = compEnvC scope (zt7 X.env.cells scope.names []) h0.objs.size X.env:=by rw [<- hX']; rfl
 have eX : X'.xe = fun _ _=>False:=by rw [<- hX']; rfl
 have sys : (s2.heap.objs.size == ly6) = false:=beq_eq_false_iff_ne.mpr (fy4 (cy1 I2.big))
 have loop : ∀ s3 : Shared,s3 = { s2 with heap:=h1,toks:=s2.toks + ([] : List (Str × Value)).length } ->
   my2 (model X.prog X.w) X.A (.compLoop (.DictComp kx vx [⟨tg,iter,[],0⟩] scope pos) 0 (.ref it) (.ref s2.heap.objs.size) (compEnvC scope (zt7 X.env.cells scope.names []) h0.objs.size X.env))
    (compPost (model X.prog X.w) X.A X.xe use R (.ref s2.heap.objs.size) h0.objs.size) s3:=by
  rintro s3 rfl
  refine zY6 (fun n s'=>∃ i kvs vs H',Inv X' [] (zc0 O cap σ) H' s' /\ tn i s'.heap /\ (∀ b∈s2.heap.objs.size :: fp,H' b = none) /\ s'.heap.DictOf (zc5 X.prog X.w) s2.heap.objs.size vs /\ KV kvs vs /\ W i n kvs H') ?_ m0
   ⟨0,[],[],H2,I3,T.keep _ _ _ st2 (fun b _ o e=>k1 b o (k0 b o e)),fun b hb=>?_,zi6 hS0 fun o e=>k1 _ _ e,.nil,w0⟩
  ·intro n s3 gX;refine za0 fun gG=>?_;obtain ⟨i,kvs,vs,H3,I3',st3,fr3,hS3,rv3,w3⟩:=gX;obtain ⟨hz,step⟩:=turn i n kvs H3 w3;obtain ⟨oD,gD,cD⟩:=zY7 hS3;refine gG ?_;clear gG;have hD3 : H3 s2.heap.objs.size = none:=fr3 _ by2
   have J3 : Inv X' ([]++ze6 [s2.heap.objs.size] s3.heap) (zc0 O cap σ) H3 s3:=I3'.pinned (fp:=[s2.heap.objs.size]) (fun b hb=>by
    have e : b = s2.heap.objs.size:=by simpa using hb
    subst e; exact fpok by2 hD3) fun b hb=>by
    have e : b = s2.heap.objs.size:=by simpa using hb
    subst e; exact ⟨oD,gD,cD⟩
   have fpJ : ∀ b∈fp,zr8 X' ([]++ze6 [s2.heap.objs.size] s3.heap) H3 b:=fun b hb=>(fpok (by1 _ hb) (fr3 b (by1 _ hb))).more fun p hp=>by
    have:=(zg8 hp).1;have e : p.1 = s2.heap.objs.size:=by simpa using this
    rw [e];exact fun z=>Dfp (z ▸ hb)
   rcases step with ⟨stop,q⟩ | ⟨go,step⟩
   ·have fin:=T.done X' eP eW eK eC i _ s3 (zc0 O cap σ) H3 (fun _ _=>False) J3 fpJ st3 stop;rw [eA] at fin;refine thn fin fun r s4 zR=>?_;refine za0 fun gG=>?_;obtain ⟨hr,J4⟩:=zR;subst hr;refine gG ?_;clear gG;have g4:=J4.zn5 (b:=s2.heap.objs.size) (by simp) gD;have hS4 : s4.heap.DictOf (zc5 X.prog X.w) s2.heap.objs.size vs:=zi6 hS3 fun o e=>by rw [gD] at e; cases e; exact g4.1
    have I4 : Inv X' [] (zc0 O cap σ) H3 s4:=J4.zD3;refine za0 fun gG=>?_;obtain ⟨m,hm,_⟩:=id I4.loc;refine gG ?_;clear gG;rw [eE] at hm
    have fC : H3 h0.objs.size = none:=by
     have:=I4.free;rw [eE] at this;exact this
    have nCD : h0.objs.size ≠ s2.heap.objs.size:=oy3 hDC;refine post s4 s2.heap.objs.size h0.objs.size H3 kvs ⟨m,hm⟩ (fy4 nCD) (fun h' sb=>?_) (I2.fpOk hsC (by rw [za8 nCD]; exact fC)) (q _ hD3);rw [<- hX'] at I4;refine I2.za60 f2 hsC (ay6 _) hDC k0 I4 hD3 (zc45 (ly8 hz) sys rv3 (zi6 hS4 fun o e=>?_)) sb;exact (sb.2 _ (cy1 hDC)).trans e
   ·have it3:=T.item X' eP eW eK eC i _ s3 (zc0 O cap σ) H3 (fun _ _=>False) J3 fpJ st3 go;rw [eA] at it3;refine thn it3 fun r s4 zR=>?_;refine za0 fun gG=>?_;obtain ⟨u,hr,h4⟩:=zR;subst hr;refine gG ?_;clear gG;refine thn h4 fun _ s5 zR=>?_;refine za0 fun gG=>?_;obtain ⟨x,H5,I5,r5,y5,st5,fr5⟩:=zR;refine gG ?_;clear gG;have g5:=I5.zn5 (b:=s2.heap.objs.size) (by simp) gD;have hS5 : s5.heap.DictOf (zc5 X.prog X.w) s2.heap.objs.size vs:=zi6 hS3 fun o e=>by rw [gD] at e; cases e; exact g5.1
    have fr5' : ∀ b∈s2.heap.objs.size :: fp,H5 b = none:=fun b hb=>(by8.mp hb).elim (fun z=>by rw [z]; exact g5.2) (fr5 b)
    have ob5 : ∀ b∈s2.heap.objs.size :: fp,∃ o,s5.heap.get? b = some o /\ ∀ v,o.data ≠ .cell v:=fun b hb=>by
     rcases by8.mp hb with e | hb
     ·subst e; exact ⟨oD,g5.1,cD⟩
     ·exact T.obj _ _ st5 b hb
    have I5' : Inv X' ([]++ze6 (s2.heap.objs.size :: fp) s5.heap) (zc0 O cap σ) H5 s5:=I5.zD3.pinned (fp:=s2.heap.objs.size :: fp) (fun b hb=>fpok hb (fr5' b hb)) ob5;have a5:=hg' _ s5 (zc0 O cap σ) H5 x u _ I5' r5 (ho _ _ _ _ (step x H5 y5));rw [eP,eW,eA,eE,eX] at a5;refine thn a5 fun _ s6 zR=>?_;refine za0 fun gG=>?_;obtain ⟨σ6,H6,I6,⟨l6,w6⟩,q6⟩:=zR;refine gG ?_;clear gG;have e7:=hk' _ s6 σ6 H6 _ I6 q6;rw [eP,eW,eA,eE,eX] at e7;refine thn e7 fun ku s7 zR=>?_;refine za0 fun gG=>?_;obtain ⟨kz,H7,I7,r7,k,hkz,q7⟩:=zR;subst hkz;obtain ⟨tk7,rfl⟩:=r7;refine gG ?_;clear gG;have e8:=hv' _ s7 σ6 H7 _ I7 q7;rw [eP,eW,eA,eE,eX] at e8;refine thn e8 fun y s8 zR=>?_;refine za0 fun gG=>?_;obtain ⟨z,H8,I8,r8,m',hm',w8⟩:=zR;refine gG ?_;clear gG;have g8:=I8.zn5 (b:=s2.heap.objs.size) by2 g5.1;have hS8 : s8.heap.DictOf (zc5 X.prog X.w) s2.heap.objs.size vs:=zi6 hS5 fun o e=>by rw [g5.1] at e; cases e; exact g8.1
    have w6' : ∀ (j : Nat) v,(zc0 O cap σ)[j]? = some (some v)->σ6[j]? = some (some v):=fun j v e=>by
     by_cases hj : O.length <= j
     ·rw [w6 j hj]; exact e
     ·exfalso;unfold zc0 at e;rw [ay8 (by simpa using Nat.not_le.mp hj),ay9] at e;cases q : O[j]? with
      | none=>rw [q] at e; cases e
      | some z=>rw [q] at e; cases e
    have I9 : Inv X' [] (zc0 O cap σ) H8 s8:=I8.zD3.weak l6.symm w6';refine wpAny_dictSet_pairs (zu6 X.prog X.w k tk7) hS8 (fun h' hS9 sb=>?_) (by rw [<- rv3.length]; exact ly8 hz);refine za0 fun gG=>?_;obtain ⟨q0,q1,q2,q3,q4,q5⟩:=fpok by2 g8.2;refine gG ?_;clear gG;refine ⟨m',hm',i + 1,putK kvs (.inr k) z,stored vs (.inr k) y,H8,I9.turned (t':=s8.toks + 1) (fun b o hb e=>(sb.2 b hb).trans e) q0 q1 q3 q4 q5,?_,fun b hb=>?_,hS9,rv3.put _ r8,w8⟩
    ·refine T.keep _ _ _ st5 fun b hb o e=>(sb.2 b (fun z=>Dfp (z ▸ hb))).trans (I8.zn5 (by1 _ hb) e).1
    ·refine za0 fun gG=>?_;obtain ⟨o,e,_⟩:=ob5 b hb;refine gG ?_;clear gG;exact (I8.zn5 hb e).2
  ·rcases by8.mp hb with e | hb
   ·rw [e]; exact I2.hok.fresh (ay6 _)
   ·exact (f2 b hb).1
 exact codeAny_compStart_dict (g:=⟨tg,iter,[],0⟩) rfl rfl (loop _ rfl) (T.self _ 0 _ _ _ (T.keep _ _ _ st2 (fun b _ o e=>k1 b o (k0 b o e))) (loop _ rfl))
theorem zc01 (hc : X.calm = true) (S : zb7 X.N X.env.scope O F cap scope) (hi : PI X tg iter wi)
  (hg : ∀ cl C ex s H,PG (zb8 X (O++F) scope cl C ex s H) tg g) (hk : ∀ cl C ex s H,PE (zb8 X (O++F) scope cl C ex s H) kx tk) (hv : ∀ cl C ex s H,PE (zb8 X (O++F) scope cl C ex s H) vx tv)
  (ho : Own O.length g) (hs : ∀ x,ey2 iter X.env x = pure x:=by intro _; rfl) : PE X (.DictComp kx vx [⟨tg,iter,[],0⟩] scope pos) (tDC wi O cap g tk tv):=by
 intro pins s σ H Q I h;rw [arm_eval_DictComp];exact zA4 (use:=none) (R:=EP X pins σ Q) hc S hi hg hk hv ho hs I h fun s4 D C H4 ys hm hDC hI fp q=>hm.elim fun m hm=>⟨m,hm,fun h' sb=>⟨.ref D,_,hI h' sb,rfl,q⟩⟩
end
section
variable {X : Bc} {n : Nat} {S : Sl} {W : Wl} {D : DB} {k : KB} {tg iter kx vx : Expr} {O Fv : List Str} {cap : List Nat} {scope : Scope} {pos : Pos}
abbrev KD (X : Bc) (O Fv : List Str) (cap : List Nat) (scope : Scope) (S : Sl) (tg kx vx : Expr) (k : List (Key × El)->Wl->Prop) : Nat->(Wl->Prop)->List PyData->Wl->Prop:=fun m G ds W1=>∃ P : Nat->List (Key × El)->Wl->Prop,
 P 0 [] W1 /\ (∀ i kvs W',i <= ds.length->P i kvs W'->G W' /\ kvs.length < by0) /\
  (∀ i d kvs W',ds[i]? = some d->P i kvs W'->BGc X (O++Fv) scope O.length (zQ1 O cap S) W' tg (.d d) fun S2 W2=>BEc X (O++Fv) scope S2 W2 kx fun kz W3=>∃ x : Str,kz = .d (.str x) /\ BEc X (O++Fv) scope S2 W3 vx fun z W4=>P (i + 1) (zF5 kvs (.inr x) z) W4) /\
  ∀ kvs W',P ds.length kvs W'->k kvs W'
theorem zY8 {F : Hp} {A : List Addr} {σ : St} {H : Hp} {Q : VK} {k : List (Key × El)->Wl->Prop} (h : BI X S W tg iter (KD X O Fv cap scope S tg kx vx k)) (x0 : X.Am F A) (r : RW X.K F A W H) (sr : SR X.K F A S σ)
  (q : ∀ F' A' W' H' kvs vs p,Ext F A F' A'->RW X.K F' A' W' H'->Paired (fun p q=>p.1 = q.1 /\ ElR X.K F' A' p.2 q.2) kvs vs->H' p = none->k kvs W'->Q (.ref p) (upd H' p (.dK vs))) :
  tDC (tUI X tg iter) O cap (tUGc X (O++Fv) scope O.length tg) (zL9 X (O++Fv) scope kx) (zL9 X (O++Fv) scope vx) σ H Q :=
 h F A σ H _ x0 r sr fun m G F1 A1 W1 H1 ds J e1 r1 hm1 wk zR=>by
  refine za0 fun gG=>?_;obtain ⟨P,p0,hG,hs,hd⟩:=zR;refine gG ?_;clear gG;have up : ∀ {F F' : Hp} {A A' : List Addr} {a : List (Key × El)} {b : List (Key × V)},Ext F A F' A'->Paired (fun p q=>p.1 = q.1 /\ ElR X.K F A p.2 q.2) a b->Paired (fun p q=>p.1 = q.1 /\ ElR X.K F' A' p.2 q.2) a b:=fun e p=>zg1 (fun _ _ t=>⟨t.1,t.2.ext e⟩) p;refine ⟨fun i μ vs H'=>μ = ds.length - i /\ i <= ds.length /\ ∃ F' A' W' kvs,Ext F1 A1 F' A' /\ RW X.K F' A' W' H' /\ Paired (fun p q=>p.1 = q.1 /\ ElR X.K F' A' p.2 q.2) kvs vs /\ P i kvs W',⟨ds.length,by simp,dy7 _,F1,A1,W1,[],.refl,r1,.nil,p0⟩,?_⟩;intro i μ vs H' gX;refine za0 fun gG=>?_;obtain ⟨rfl,hi,F',A',W',kvs,x,r',z',p⟩:=gX;obtain ⟨g,hz⟩:=hG i kvs W' hi p;refine gG ?_;clear gG;refine ⟨by rw [<- zb2 z']; exact hz,?_⟩
  by_cases hlt : i < ds.length
  ·refine .inr ⟨wk.go i F' A' W' H' hlt (x.ex1 hm1) r' g,fun v H'' hy=>?_⟩;refine za0 fun gG=>?_;obtain ⟨rfl,d,hd',zd⟩:=wk.yld i F' A' W' H' v H'' hlt (x.ex1 hm1) r' g hy;refine gG ?_;clear gG;have srx:=sr.ext (e1.trans x);refine hs i d kvs W' hd' p F' A' (zc0 O cap σ) H'' v _ r' srx.cmp zd fun S2 σ2 sr2 h2=>?_;refine ⟨tD X S2 W' _,fun cl C ex s H=>h2 cl C ex s H,F',A',x0.trans (e1.trans x),r',sr2,fun F3 A3 W3 H3 kz vk e3 r3 z3 ⟨y,hy,h3⟩=>?_⟩;subst hy;obtain rfl:=Rq.zg9 z3;refine ⟨y,rfl,tD X S2 W3 _,fun cl C ex s H=>h3 cl C ex s H,F3,A3,(x0.trans (e1.trans x)).trans e3,r3,sr2.ext e3,fun F4 A4 W4 H4 z vz e4 r4 z4 h4=>?_⟩;exact ⟨ds.length - (i + 1),by omega,rfl,hlt,F4,A4,W4,zF5 kvs (.inr y) z,(x.trans e3).trans e4,r4,za63 z4 (up (e3.trans e4) z'),h4⟩
  ·have hie : i = ds.length:=by omega
   subst hie;exact .inl ⟨wk.stop F' A' W' H' (x.ex1 hm1) r' g,fun l hl=>q F' A' W' H' kvs vs l (e1.trans x) r' z' hl (hd kvs W' p)⟩
theorem zS9 (hc : X.calm = true) (cs : zb7 X.N X.env.scope O Fv cap scope) (h : BI X S W tg iter (KD X O Fv cap scope S tg kx vx fun kvs W'=>k (.o W'.length) (W'++[.dK kvs])))
  (hs : ∀ x,ey2 iter X.env x = pure x:=by intro _; rfl) : BE X S W (.DictComp kx vx [⟨tg,iter,[],0⟩] scope pos) k :=
 .of (zc01 (g:=tUGc X (O++Fv) scope O.length tg) (tk:=zL9 X (O++Fv) scope kx) (tv:=zL9 X (O++Fv) scope vx) hc cs pi_U (fun cl C ex s H=>fun pins s' σ' H' v u Q I r zR=>by obtain ⟨t,h,_,q⟩:=zR; exact h cl C ex s H pins s' σ' H' v u Q I r q) (fun cl C ex s H=>fun pins s' σ' H' Q I zR=>by obtain ⟨t,h,q⟩:=zR; exact h cl C ex s H pins s' σ' H' Q I q)
  (fun cl C ex s H=>fun pins s' σ' H' Q I zR=>by obtain ⟨t,h,q⟩:=zR; exact h cl C ex s H pins s' σ' H' Q I q) za40 hs) fun F A σ H Q x0 r sr q=>zY8 h x0 r sr fun F' A' W' H' kvs vs p x r' z hp hk=>(q.ext x).newO r' hp (o:=.dK kvs) ⟨vs,rfl,z⟩ hk
end
section
variable {X : Cx} {tg iter kx vx : Expr} {scope : Scope} {pos : Pos} {wi : TI} {g : TG} {tk tv : TE} {O F : List Str} {cap : List Nat}
theorem zd39 {i : Nat} {x : Str} {pos' spos : Pos} (hN : X.N.Nodup) (hix : X.N[i]? = some x) (hx : Loc X.env.scope x) (hc : X.calm = true) (S : zb7 X.N X.env.scope O F cap scope) (hi : PI X tg iter wi)
  (hg : ∀ cl C ex s H,PG (zb8 X (O++F) scope cl C ex s H) tg g) (hk : ∀ cl C ex s H,PE (zb8 X (O++F) scope cl C ex s H) kx tk) (hv : ∀ cl C ex s H,PE (zb8 X (O++F) scope cl C ex s H) vx tv)
  (ho : Own O.length g) (hsw : swapsWith (.DictComp kx vx [⟨tg,iter,[],0⟩] scope pos) (some (.Name x pos')) spos.line X.env = pure true:=by rfl) (hs : ∀ x,ey2 iter X.env x = pure x:=by intro _; rfl)
  (hf : X.fn x = true \/ X.env.scope.names.lookup x = some .local:=by first | exact .inl rfl | exact .inr rfl | assumption) :
  PS X (.Assign [.Name x pos'] (.DictComp kx vx [⟨tg,iter,[],0⟩] scope pos) spos) (tAsg (tDC wi O cap g tk tv) (zm8 i)):=by
 intro pins s σ H D I h;rw [exec_Assign_Name_used _ _ _ _ hsw];refine ay0 (ly4 (ay0 ?_));show wpAny _ X.A (do let _ <- comprehension (.DictComp kx vx [⟨tg,iter,[],0⟩] scope pos) scope X.env _ newDict false (eval iter X.env) (some (assign (.Name x pos') X.env))) _ _ s;refine ay0 (fy2 (zA4 (R:=fun _ s'=>SP X pins D .next s') hc S hi hg hk hv ho hs I h ?_) (fun _ s' hq=>ay1 (ay1 hq)) fun _ _ e=>e);intro s4 D' C H4 kvs ⟨m,hm⟩ hDC hI fp q;show wpAny (model X.prog X.w) X.A (assign (.Name x pos') X.env (.ref D')) (fun _ s''=>∃ m,s''.heap.Ns C m /\ ∀ h',fy0 C s''.heap h'->SP X pins D .next { s'' with heap:=h' }) X.xe s4;refine za0 fun gG=>?_;obtain ⟨f0,f1,f2,f3,f4,f5⟩:=fp;refine gG ?_;clear gG;refine wpAny_assign_Name (zu7 (v:=.ref D') (hI s4.heap ⟨rfl,fun _ _=>rfl⟩) hN hix hx rfl (fun s5 I5 z=>?_) hf);refine za0 fun gG=>?_;obtain ⟨a,sb,ha⟩:=z;refine gG ?_;clear gG
 have hCa : C ≠ a:=by
  rcases ha with e | e
  ·rw [e]; exact f1
  ·exact fy4 (f4 x a e)
 refine ⟨m,hm.sameBut sb hCa,fun h' sb'=>?_⟩;exact ⟨_,upd H4 D' (.dK kvs),I5.turned (t':=s5.toks) (fun b o hb e=>(sb'.2 b hb).trans e) f0 f1 f3 f4 f5,q⟩
end
section
variable {X : Bc} {n : Nat} {S : Sl} {W : Wl} {D : DB} {tg iter kx vx : Expr} {O Fv : List Str} {cap : List Nat} {scope : Scope} {pos : Pos}
end
def ltL : List Str->List Str->Bool
 | x :: xs,y :: ys=>if x = y then ltL xs ys else ltS x y
 | _,_=>false
theorem za95 : ∀ xs : List Str,ltL xs xs = false
 | []=>rfl
 | x :: xs=>by simp [ltL,za95 xs]
theorem zy0 : ∀ {a b c : List Str},a.length = b.length->b.length = c.length->ltL a b = true->ltL b c = true->ltL a c = true
 | [],_,_,_,_,h,_=>by simp [ltL] at h
 | x :: a,[],_,h1,_,_,_=>by simp at h1
 | x :: a,y :: b,[],_,h2,_,_=>by simp at h2
 | x :: a,y :: b,z :: c,h1,h2,h,h'=>by
  have h1 : a.length = b.length:=by simpa using h1
  have h2 : b.length = c.length:=by simpa using h2
  unfold ltL at h h' ⊢
  by_cases e : x = y
  ·rw [if_pos e] at h
   by_cases e' : y = z
   ·rw [if_pos e'] at h'; rw [if_pos (e.trans e')]; exact zy0 h1 h2 h h'
   ·rw [if_neg e'] at h'; rw [if_neg (by rw [e]; exact e'),e]; exact h'
  ·rw [if_neg e] at h
   by_cases e' : y = z
   ·rw [if_pos e'] at h'; rw [if_neg (by rw [<- e']; exact e),<- e']; exact h
   ·rw [if_neg e'] at h';have h3:=zx2 h h';have : x ≠ z:=fun w=>by rw [w,za67] at h3; cases h3
    rw [if_neg this]; exact h3
theorem za96 : ∀ {a b : List Str},a.length = b.length->a ≠ b->ltL a b = false->ltL b a = true
 | [],[],_,h,_=>absurd rfl h
 | [],_ :: _,h,_,_=>by simp at h
 | _ :: _,[],h,_,_=>by simp at h
 | x :: a,y :: b,h1,h,h'=>by
  have h1 : a.length = b.length:=by simpa using h1
  unfold ltL at h' ⊢
  by_cases e : x = y
  ·rw [if_pos e] at h'; rw [if_pos e.symm];exact za96 h1 (fun z=>h (by rw [e,z])) h'
  ·rw [if_neg e] at h'; rw [if_neg (fy4 e)];exact zN0 e h'
section
variable {prog : cy6} {w : World} {A : Around} {E : Value->Shared->Prop} {s : Shared}
theorem zT0 {β : Type} {f : Value × Value->β->Sem (ForInStep β)} {b0 : β} {fin : Bool->β}
  (heq : ∀ (x : Str) (t u : Tok) (Q : ForInStep β->Shared->Prop) (s : Shared),Q (.yield b0) s->wpAny (model prog w) A (f (.str x t,.str x u) b0) Q E s)
  (hne : ∀ (x y : Str) (t u : Tok) (Q : ForInStep β->Shared->Prop) (s : Shared),x ≠ y->Q (.done (fin (ltS x y))) s->wpAny (model prog w) A (f (.str x t,.str y u) b0) Q E s) :
  ∀ (xs ys : List Str) (its its2 : List Value),Vals (xs.map V.str) its->Vals (ys.map V.str) its2->xs.length = ys.length->∀ (Q : β->Shared->Prop) (s : Shared),(xs = ys->Q b0 s)->(xs ≠ ys->Q (fin (ltL xs ys)) s)->wpAny (model prog w) A (forIn (its.zip its2) b0 f) Q E s
 | [],[],_,_,.nil,.nil,_,Q,s,h1,_=>by
  rw [List.zip_nil_left];exact ay1 (h1 rfl)
 | [],_ :: _,_,_,_,_,h,_,_,_,_=>by simp at h
 | _ :: _,[],_,_,_,_,h,_,_,_,_=>by simp at h
 | x :: xs,y :: ys,_,_,.cons (b:=v) rx r,.cons (b:=v') ry r',hl,Q,s,h1,h2=>by
  refine za0 fun gG=>?_;obtain ⟨t,rfl⟩:=rx;obtain ⟨u,rfl⟩:=ry;refine gG ?_;clear gG;rw [List.zip_cons_cons,List.forIn_cons]
  by_cases e : x = y
  ·subst e;refine ay0 (heq x t u _ s ?_);refine zT0 heq hne xs ys _ _ r r' (by simpa using hl) Q s (fun z=>h1 (by rw [z])) fun z=>?_;have:=h2 (fun z'=>z (by injection z'));unfold ltL at this;rw [if_pos rfl] at this;exact this
  ·refine ay0 (hne x y t u _ s e (ay1 ?_));have:=h2 (fun z'=>e (by injection z'));unfold ltL at this;rw [if_neg e] at this;exact this
theorem zc02 {xs ys : List Str} {its its2 : List Value} {a b : Addr} {oa ob : Obj} {n m : Nat} {Q : Bool->Shared->Prop} (hu : A.units < cLine) (ha : s.heap.get? a = some oa) (ca : oa.cls = .type "tuple") (da : oa.data = .seq its.toArray n)
  (hb : s.heap.get? b = some ob) (cb : ob.cls = .type "tuple") (db : ob.data = .seq its2.toArray m) (rx : Vals (xs.map V.str) its) (ry : Vals (ys.map V.str) its2) (hl : xs.length = ys.length) (hne : xs ≠ ys) (h : Q (ltL xs ys) s) : wpAny (model prog w) A (fy7 .Lt (.ref a) (.ref b)) (PySem.W.BoolBack Q) E s:=by
 have hTa : s.TypeIs (.ref a) "tuple" := ⟨_,ha,ca⟩
 have hTb : s.TypeIs (.ref b) "tuple" := ⟨_,hb,cb⟩
 refine wpAny_richCompare_same_room (op:=.Lt) hTa hTb F.slot_tuple_lt (dy6 F.slot_tuple_lt hTa F.entry_tuple_lt ?_ (F.args_tuple_lt_2 _ _)) hu;show wpAny _ _ (isInstance (.ref b) (.type "tuple") >>= _) _ _ s;refine ay0 (py0 hTb isSubtype_tuple_tuple ?_);simp only [Bool.not_true,iy8,if_false];refine ay0 (wpAny_tupleItemsOf ha da (ay0 (wpAny_tupleItemsOf hb db (ay0 ?_))));show wpAny _ _ (forIn (its.zip its2) _ _) _ _ s;refine zT0 (fin:=fun c=>⟨some (.done (.ret (.bool c))),⟨⟩⟩) ?_ ?_ xs ys its its2 rx ry hl _ s (fun z=>absurd z hne) (fun _=>?_)
 ·intro x t u Q s hq;refine ay0 (vy5 ?_);rw [decide_eq_true rfl];simp only [Bool.not_true,iy8,if_false];exact ay1 hq
 ·intro x y t u Q s e hq;refine ay0 (vy5 ?_);rw [decide_eq_false e];simp only [Bool.not_false,if_true];refine ay0 (ny4 (ay0 (PySem.P.lt_str ?_)));exact ay0 (ay1 (ay1 hq))
 ·exact ay1 ⟨_,rfl,by simp,h⟩
end
theorem zT1 {a b : List Str} (hl : a.length = b.length) (h : ltL a b = true) : ltL b a = false:=by
 cases h' : ltL b a with
 | false=>rfl
 | true =>
  have:=zy0 hl hl.symm h h';rw [za95] at this;cases this
theorem zd40 {ks : List (List Str)} {m : Nat} (nd : ks.Nodup) (hm : ∀ k∈ks,k.length = m) : Ord ks.length fun i j=>ltL (ks.getD i []) (ks.getD j []):=by
 have e : ∀ k (hk : k < ks.length),ks.getD k [] = ks[k]:=fun k hk=>by simp [sy1,hk]
 have hl : ∀ k (hk : k < ks.length),(ks.getD k []).length = m:=fun k hk=>by rw [e k hk]; exact hm _ (ry9 hk)
 refine ⟨fun i j hi hj h=>zT1 ((hl i hi).trans (hl j hj).symm) h,fun i j k hi hj hk h h'=>zy0 ((hl i hi).trans (hl j hj).symm) ((hl j hj).trans (hl k hk).symm) h h',fun i j hi hj hij h=>?_⟩;refine za96 ((hl i hi).trans (hl j hj).symm) (fun z=>hij ?_) h;rw [e i hi,e j hj] at z;exact (jy8 nd).mp z
end L2
namespace L2
open PySem PySem.Spec PyProof.Rows
open PySem.W
section
variable {prog : cy6} {w : World} {A : Around} {E : Value->Shared->Prop} {s : Shared}
end
def IsTL (h : Heap) (b : Addr) (p : List Str) : Prop:=∃ o n,∃ its : List Value,h.get? b = some o /\ o.cls = .type "tuple" /\ o.data = .seq its.toArray n /\ Vals (p.map V.str) its
section
variable {X : Cx}
end
section
variable {α : Type}
end
section
variable {X : Bc} {S : Sl} {W : Wl} {k : KB}
theorem zc03 {K : ay4} {F : Hp} {xs : List Str} {vs : List V} (h : Paired (fun d v=>Rq K F v d) (xs.map iy4) vs) : vs = xs.map V.str:=zB6 h
end
section
variable {P : cy6} {w : World} {A : Around} {s : Shared} {l I S : Addr} {vs : List Value} {h0 : Heap} {n : Nat} {lt : Nat->Nat->Bool} {R : Result->Shared->Prop}
theorem zc04 (O : Ord vs.length lt) (hh : A.handled = none) (hlI : l ≠ I) (hSI : S ≠ I) (hSl : S ≠ l) (hI : h0.get? I = none) (hS : h0.get? S = none)
  (hc : ∀ (s' : Shared) i j vi vj (Q : Value->Shared->Prop) (E : Value->Shared->Prop),(∀ b o,h0.get? b = some o->s'.heap.get? b = some o)->vs[i]? = some vi->vs[j]? = some vj->i ≠ j->Q (.bool (lt i j)) s'->wpAny (model P w) A.in1 (richCompare .Lt vi vj) Q E s')
  (hR : ∀ i v h' tk,vs[i]? = some v->(∀ j,j < vs.length->j ≠ i->lt i j = true)->(∀ b o,h0.get? b = some o->h'.get? b = some o)->R (.ok (.ret v)) { s with heap:=h',toks:=tk }) :
  ∀ (k j i : Nat) (vb : Value) (h : Heap) (tk c : Nat),j + k = vs.length->i < j->vs[i]? = some vb->(∀ j',j' < j->j' ≠ i->lt i j' = true)->h.IsListIter I l j->h.IsList l vs.toArray->h.get? S = some { cls:=.type "list",data:=.seq #[vb,vb] c }->(∀ b o,h0.get? b = some o->h.get? b = some o) ->
   my2 (model P w) A (.builtin "min.loop" ⟨[.ref I,.none,.ref S],[]⟩) R { s with heap:=h,toks:=tk }:=by
 have Wk:=Walks.list (prog:=P) (w:=w) (A:=A.in1) hh I l hlI vs.toArray;have n0I : ∀ b o,h0.get? b = some o->b ≠ I:=fun b o e z=>by rw [z,hI] at e; cases e
 have n0S : ∀ b o,h0.get? b = some o->b ≠ S:=fun b o e z=>by rw [z,hS] at e; cases e
 have wr : ∀ {b : Addr},b ≠ I->¬ b∈[I]:=fun h z=>h (fy1.mp z);intro k
 induction k with
 | zero =>
  intro j i vb h tk c hk hij hvb hbest hit hl hSo hkeep;obtain rfl : j = vs.length:=by omega
  refine jy5 PySem.F.entry_min_loop ?_;rw [gy3 ky6 _];show wpAny _ A.in1 (seqItems? (.ref S) >>= _) _ _ _;refine ay0 (sy7 (s:={ s with heap:=h,toks:=tk }) hSo rfl ?_);refine ay0 (wpAny_tryCatch ?_);refine Wk.done { s with heap:=h,toks:=tk } _ _ ?_ fun h' tk' kp=>?_
  ·rw [by7]; exact ⟨hit,hl⟩
  ·have hS':=kp S _ (wr hSI) hSo;refine ay0 (oy9 (s:={ s with heap:=h',toks:=tk' }) hS' rfl ?_ (by show 2 <= by0; decide) (by show 0 <= by0 + 1; decide));refine ay0 (wpAny_letGo (ay1 (hR i vb _ tk' hvb hbest fun b o e=>?_)));exact (dy8 _ _ (fy4 (n0S b o e))).trans (kp b o (wr (n0I b o e)) (hkeep b o e))
 | succ k ih =>
  intro j i vb h tk c hk hij hvb hbest hit hl hSo hkeep;have hlt : j < vs.length:=by omega
  refine jy5 PySem.F.entry_min_loop ?_;rw [gy3 ky6 _];show wpAny _ A.in1 (seqItems? (.ref S) >>= _) _ _ _;refine ay0 (sy7 (s:={ s with heap:=h,toks:=tk }) hSo rfl ?_);refine ay0 (wpAny_tryCatch ?_);refine Wk.item j { s with heap:=h,toks:=tk } _ _ (by rw [by7]; exact hlt) ⟨hit,hl⟩ fun v h' tk' hv st' kp=>?_;have hv' : vs[j]? = some v:=by simpa using hv
  have hS':=kp S _ (wr hSI) hSo;have keep' : ∀ b o,h0.get? b = some o->h'.get? b = some o:=fun b o e=>kp b o (wr (n0I b o e)) (hkeep b o e);show wpAny _ A.in1 (pure v >>= _) _ _ _;refine ay0 (ay1 ?_);refine ay0 (wpAny_tryCatch (fy3 (ay0 ?_)));refine hc { s with heap:=h',toks:=tk' } j i v vb _ _ keep' hv' hvb (by omega) ?_;refine ay0 (fy3 (ky8 (ay0 (wpAny_letGo (ay1 ?_)))));cases hb : lt j i with
  | true =>
   rw [if_pos rfl];refine ay0 (oy9 (s:={ s with heap:=h',toks:=tk' }) hS' rfl ?_ (by show 2 <= by0; decide) (by show 2 <= by0 + 1; decide));obtain ⟨c',eS⟩ : ∃ c',(h'.update S (iy9 fun _=>#[v,v])).get? S = some { cls:=.type "list",data:=.seq #[v,v] c' }:=⟨_,get?_update_seq (n:=c) (c := "list") (xs:=#[vb,vb]) hS' (fun _=>#[v,v])⟩
   have up : ∀ b o,b ≠ S->h'.get? b = some o->(h'.update S (iy9 fun _=>#[v,v])).get? b = some o:=fun b o hb e=>(dy8 _ _ (fy4 hb)).trans e;refine ay0 (wpAny_letGo (ay1 ⟨ky3 ky6 _,ih (j + 1) j v _ tk' c' (by omega) (by omega) hv' (fun j' hj' hne=>?_) ?_ ?_ eS fun b o e=>up b o (n0S b o e) (keep' b o e)⟩))
   ·by_cases e : j' = i
    ·rw [e]; exact hb
    ·exact O.trans j i j' hlt (by omega) (by omega) hb (hbest j' (by omega) e)
   ·refine za0 fun gG=>?_;obtain ⟨o,e,r⟩:=st'.1;refine gG ?_;clear gG;exact ⟨o,up I o (fy4 hSI) e,r⟩
   ·refine za0 fun gG=>?_;obtain ⟨o,e,r⟩:=st'.2;refine gG ?_;clear gG;exact ⟨o,up l o (fy4 hSl) e,r⟩
  | false =>
   rw [if_neg (by simp)];refine ay0 (wpAny_letGo (ay1 ⟨ky3 ky6 _,ih (j + 1) i vb _ tk' c (by omega) (by omega) hvb (fun j' hj' hne=>?_) st'.1 st'.2 hS' keep'⟩))
   by_cases e : j' = j
   ·rw [e]; exact O.tot j i hlt (by omega) (by omega) hb
   ·exact hbest j' (by omega) hne
theorem za97 (O : Ord vs.length lt) (hh : A.handled = none) (hlI : l ≠ I) (hSI : S ≠ I) (hSl : S ≠ l) (hI : h0.get? I = none) (hS : h0.get? S = none)
  (hc : ∀ (s' : Shared) i j vi vj (Q : Value->Shared->Prop) (E : Value->Shared->Prop),(∀ b o,h0.get? b = some o->s'.heap.get? b = some o)->vs[i]? = some vi->vs[j]? = some vj->i ≠ j->Q (.bool (lt i j)) s'->wpAny (model P w) A.in1 (richCompare .Lt vi vj) Q E s')
  (hR : ∀ i v h' tk,vs[i]? = some v->(∀ j,j < vs.length->j ≠ i->lt i j = true)->(∀ b o,h0.get? b = some o->h'.get? b = some o)->R (.ok (.ret v)) { s with heap:=h',toks:=tk })
  (h : Heap) (tk c : Nat) (h0l : 0 < vs.length) (hit : h.IsListIter I l 0) (hl : h.IsList l vs.toArray) (hSo : h.get? S = some { cls:=.type "list",data:=.seq #[] c }) (hkeep : ∀ b o,h0.get? b = some o->h.get? b = some o) :
   my2 (model P w) A (.builtin "min.loop" ⟨[.ref I,.none,.ref S],[]⟩) R { s with heap:=h,toks:=tk }:=by
 have Wk:=Walks.list (prog:=P) (w:=w) (A:=A.in1) hh I l hlI vs.toArray;have n0I : ∀ b o,h0.get? b = some o->b ≠ I:=fun b o e z=>by rw [z,hI] at e; cases e
 have n0S : ∀ b o,h0.get? b = some o->b ≠ S:=fun b o e z=>by rw [z,hS] at e; cases e
 have wr : ∀ {b : Addr},b ≠ I->¬ b∈[I]:=fun h z=>h (fy1.mp z);refine jy5 PySem.F.entry_min_loop ?_;rw [gy3 ky6 _];show wpAny _ A.in1 (seqItems? (.ref S) >>= _) _ _ _;refine ay0 (sy7 (s:={ s with heap:=h,toks:=tk }) hSo rfl ?_);refine ay0 (wpAny_tryCatch ?_);refine Wk.item 0 { s with heap:=h,toks:=tk } _ _ (by rw [by7]; exact h0l) ⟨hit,hl⟩ fun v h' tk' hv st' kp=>?_;have hv' : vs[0]? = some v:=by simpa using hv
 have hS':=kp S _ (wr hSI) hSo;have keep' : ∀ b o,h0.get? b = some o->h'.get? b = some o:=fun b o e=>kp b o (wr (n0I b o e)) (hkeep b o e);show wpAny _ A.in1 (pure v >>= _) _ _ _;refine ay0 (ay1 ?_);show wpAny _ A.in1 (updateSeq S (fun _=>#[v,v]) >>= _) _ _ _;refine ay0 (oy9 (s:={ s with heap:=h',toks:=tk' }) hS' rfl ?_ (by show 0 <= by0; decide) (by show 2 <= by0 + 1; decide));obtain ⟨c',eS⟩ : ∃ c',(h'.update S (iy9 fun _=>#[v,v])).get? S = some { cls:=.type "list",data:=.seq #[v,v] c' }:=⟨_,get?_update_seq (n:=c) (c := "list") (xs:=#[]) hS' (fun _=>#[v,v])⟩
 have up : ∀ b o,b ≠ S->h'.get? b = some o->(h'.update S (iy9 fun _=>#[v,v])).get? b = some o:=fun b o hb e=>(dy8 _ _ (fy4 hb)).trans e;refine ay1 ⟨ky3 ky6 _,zc04 O hh hlI hSI hSl hI hS hc hR (vs.length - 1) 1 0 v _ tk' c' (by omega) (by omega) hv' (fun j' hj' hne=>absurd hj' (by omega)) ?_ ?_ eS fun b o e=>up b o (n0S b o e) (keep' b o e)⟩
 ·refine za0 fun gG=>?_;obtain ⟨o,e,r⟩:=st'.1;refine gG ?_;clear gG;exact ⟨o,up I o (fy4 hSI) e,r⟩
 ·refine za0 fun gG=>?_;obtain ⟨o,e,r⟩:=st'.2;refine gG ?_;clear gG;exact ⟨o,up l o (fy4 hSl) e,r⟩
theorem zO7 {Q : Value->Shared->Prop} {E : Value->Shared->Prop} (O : Ord vs.length lt) (hh : A.handled = none) (hl : s.heap.IsList l vs.toArray) (h0l : 0 < vs.length)
  (hc : ∀ (s' : Shared) i j vi vj (Q : Value->Shared->Prop) (E : Value->Shared->Prop),(∀ b o,s.heap.get? b = some o->s'.heap.get? b = some o)->vs[i]? = some vi->vs[j]? = some vj->i ≠ j->Q (.bool (lt i j)) s'->wpAny (model P w) A.in1 (richCompare .Lt vi vj) Q E s')
  (hQ : ∀ i v h' tk,vs[i]? = some v->(∀ j,j < vs.length->j ≠ i->lt i j = true)->(∀ b o,s.heap.get? b = some o->h'.get? b = some o)->Q v { s with heap:=h',toks:=tk }) : wpAny (model P w) A (call (.builtin "min") [.ref l]) Q E s:=by
 refine call_function_tree PySem.F.kind_min PySem.F.plain_min PySem.F.entry_min (PySem.F.args_min1 (dy2 l)) ?_;show wpAny _ _ (Builtin.Builtins.bindParams "min" ["key", "default"] 0 ⟨[],[]⟩ >>= _) _ _ s;refine ay0 (wpAny_of_eq (a:=[none,none]) rfl ?_);show wpAny _ _ (pure (dy2 l) >>= _) _ _ s;refine ay0 (ay1 (ay0 (wpAny_pyIter_list hl (ay0 (wpAny_newList ?_)))));have hll : l < s.heap.objs.size:=by obtain ⟨_,e,_⟩:=hl; exact by6 e
 have hnone : ∀ b,s.heap.objs.size <= b->s.heap.get? b = none:=fun b hb=>by
  cases e : s.heap.get? b with
  | none=>rfl
  | some o=>exact absurd (by6 e) (Nat.not_lt.mpr hb)
 have sz : ∀ o,(s.heap.push o).objs.size = s.heap.objs.size + 1:=fun o=>sy4 ..;refine ay1 ⟨ky3 ky6 _,?_⟩;refine za97 (s:=s) (h0:=s.heap) (l:=l) (I:=s.heap.objs.size) (S:=(s.heap.push { cls:=.type "list_iterator",data:=.fields #[.ref l,.int 0 0] }).objs.size) O hh (cy1 hll) ?_ ?_ (hnone _ (ay6 _)) ?_ hc (fun i v h' tk h1 h2 h3=>?_) ((s.heap.push { cls:=.type "list_iterator",data:=.fields #[.ref l,.int 0 0] }).push { cls:=.type "list",data:=.seq #[] }) s.toks 0 h0l ?_ ?_ ?_ ?_
 ·rw [sz]; exact Nat.succ_ne_self _
 ·rw [sz]; exact oy3 (vy0 hll)
 ·rw [sz]; exact hnone _ (Nat.le_succ _)
 ·exact hQ i v h' tk h1 h2 h3
 ·exact ⟨_,ay2 _ (ay7 _ rfl),rfl,rfl⟩
 ·refine za0 fun gG=>?_;obtain ⟨o,e,r⟩:=hl;refine gG ?_;clear gG;exact ⟨o,ay2 _ (ay2 _ e),r⟩
 ·exact ay7 _ rfl
 ·exact fun b o e=>ay2 _ (ay2 _ e)
end
section
variable {X : Cx}
theorem za98 (hcm : X.calm = true) (hu : X.A.units + 1 < cLine) : zj8 X (.builtin "min") fun xs H Q=>∃ (p : Addr) (vs : List V) (ps : List (List Str)) (m : Nat),xs = [.ref p] /\ SqL X.K H p vs /\ Paired (fun (p : List Str) v=>∃ b,v = .ref b /\ SqT X.K H b (p.map V.str)) ps vs /\ ps.Nodup /\ 0 < ps.length /\ (∀ k∈ps,k.length = m) /\
  ∀ (i : Nat) v,vs[i]? = some v->(∀ j,j < ps.length->j ≠ i->ltL (ps.getD i []) (ps.getD j []) = true)->Q v H:=by
 intro pins s σ H xs us Q I r h;refine za0 fun gG=>?_;obtain ⟨p,vs,ps,m,rfl,hq,hv,nd,hp0,hm,q⟩:=h;obtain ⟨u,rfl,rx⟩:=vals1 r;refine gG ?_;clear gG;cases rx;refine za0 fun gG=>?_;obtain ⟨its,r',pl,hz⟩:=I.list hq;refine gG ?_;clear gG;have hlen:=r'.length;have hpl : ps.length = vs.length:=zb2 hv;have gp : ∀ k (hk : k < ps.length),ps.getD k [] = ps[k]:=fun k hk=>by simp [sy1,hk]
 have tup : ∀ i v,its[i]? = some v->i < ps.length /\ ∃ b,v = .ref b /\ IsTL s.heap b (ps.getD i []):=fun i v hi=>by
  have hil : i < its.length:=(ay3.mp hi).1;have hip : i < ps.length:=by omega
  refine za0 fun gG=>?_;obtain ⟨x,hx,rx⟩:=zf3 r' hi;obtain ⟨v',hv',b,e1,hb⟩:=zi8 hv (cy0 hip);refine gG ?_;clear gG;rw [hx] at hv';cases hv';subst e1;have rx' : v = dy2 b:=rx;refine ⟨hip,b,rx',?_⟩;refine za0 fun gG=>?_;obtain ⟨ws,rw',⟨o,g1,g2,n,g3⟩,_⟩:=I.tuple hb;refine gG ?_;clear gG;rw [gp i hip];exact ⟨o,n,ws,g1,g2,g3,rw'⟩
 have O:=zd40 nd hm;rw [hpl,hlen] at O;have gl : ∀ k (hk : k < ps.length),(ps.getD k []).length = m:=fun k hk=>by rw [gp k hk]; exact hm _ (ry9 hk)
 refine zO7 O (I.ok.hd hcm) pl.isList (by omega) (fun s' i j vi vj Q' E' kp hi hj hij hQ=>?_) fun i v h' tk hi hb kp=>?_
 ·refine za0 fun gG=>?_;obtain ⟨hip,b,rfl,o,n,ws,g1,g2,g3,rw1⟩:=tup i vi hi;obtain ⟨hjp,b',rfl,o',n',ws',g1',g2',g3',rw2⟩:=tup j vj hj;refine gG ?_;clear gG;refine thn (zc02 (s:=s') (A:=X.A.in1) (Q:=fun b s=>Q' (.bool b) s) ?_ (kp _ _ g1) g2 g3 (kp _ _ g1') g2' g3' rw1 rw2 ((gl i hip).trans (gl j hjp).symm) (fun z=>?_) hQ) fun v s2 hv=>?_
  ·exact hu
  ·rw [gp i hip,gp j hjp] at z;exact hij ((jy8 nd).mp z)
  ·cases v <;> first | exact hv | exact hv.elim
 ·refine za0 fun gG=>?_;obtain ⟨x,hx,rx⟩:=zf3 r' hi;refine gG ?_;clear gG;exact ⟨x,H,I.kept kp,rx,q i x hx fun j hj hne=>hb j (by omega) hne⟩
end
section
variable {X : Bc} {S : Sl} {W : Wl} {k : KB}
theorem zd41 {α : Type} {x : El} {L : List α} {m : Nat} (hcm : X.calm = true) (hu : X.A.units + 64 < cLine) (key : α->List Str) (g : α->PyData) (hg : ∀ a∈L,g a = .tuple ((key a).map .str)) (hx : lstD W x (L.map g)) (nd : (L.map key).Nodup) (h0 : L ≠ []) (hm : ∀ a∈L,(key a).length = m)
  (h : ∀ a∈L,(∀ b∈L,key b ≠ key a->ltL (key a) (key b) = true)->k (.d (g a)) W) : CB X (.builtin "min") [x] W k:=.of (za98 hcm (by omega)) fun F A H Q vs r zs q=>by
 refine za0 fun gG=>?_;obtain ⟨v,rfl,z⟩:=zi3 zs;obtain ⟨a,vs,rfl,hs,z⟩:=r.lst z hx;refine gG ?_;clear gG;have hl : L.length = vs.length:=by have:=zb2 z; simpa using this
 refine ⟨a,vs,L.map key,m,rfl,.inl hs,?_,nd,?_,fun k hk=>?_,fun i v hv hb=>?_⟩
 ·refine zc30 ?_;refine zv9 (zP6 z) fun x hx v hv=>?_;have hv : Rq X.K F v (g x):=hv;rw [hg x hx] at hv;refine za0 fun gG=>?_;obtain ⟨b,ws,rfl,hb,pw⟩:=Rq.zh6 hv;refine gG ?_;clear gG;obtain rfl:=zc03 pw;exact ⟨b,rfl,r.sub.zt9 hb⟩
 ·rw [ay5]; exact List.length_pos_iff.mpr h0
 ·refine za0 fun gG=>?_;obtain ⟨a,ha,rfl⟩:=cy4.mp hk;refine gG ?_;clear gG;exact hm a ha
 ·refine za0 fun gG=>?_;obtain ⟨d,hd,zd⟩:=zf3 z hv;rw [ay9] at hd;obtain ⟨a',ha',rfl⟩:=gy8.mp hd;refine gG ?_;clear gG;have hil : i < L.length:=(ay3.mp ha').1;have e : ∀ k (hk : k < L.length),(L.map key).getD k [] = key L[k]:=fun k hk=>by simp [sy1,hk]
  refine q.same r (.dd zd) (h a' (cy3 ha') fun b hb' hne=>?_);refine za0 fun gG=>?_;obtain ⟨j,hj,rfl⟩:=vy2.mp hb';refine gG ?_;clear gG;have ea : L[i] = a':=(ay3.mp ha').2;have hji : j ≠ i:=fun z=>hne (by subst z; rw [ea]);have:=hb j (by rw [ay5]; exact hj) hji;rw [e i hil,e j hj,ea] at this;exact this
end
theorem za99 {P : cy6} {w : World} {es : List my9} {vs : List (Key × Value)} (h : Pairs (zc5 P w) es vs) : es.length = vs.length /\ ∀ (i : Nat) q,vs[i]? = some q->∃ en,es[i]? = some en /\ zK6 q.1 en.key = true /\ en.val = q.2:=by
 induction h with
 | nil=>exact ⟨rfl,fun i q h=>by simp at h⟩
 | @cons e kv es kvs h1 h2 h3 ih =>
  refine ⟨by simp [ih.1],fun i q hq=>?_⟩;cases i with
  | zero=>simp at hq; subst hq; exact ⟨e,rfl,h1,h2⟩
  | succ i=>exact ih.2 i q (by simpa using hq)
theorem zd3 {P : cy6} {w : World} {H : Hp} {h : Heap} {d : Addr} {o : Obj} {vs : List (Key × V)} (x : zb9 P w H h d (.frz o (.dK vs))) : h.get? d = some o /\ (d == ly6) = false /\ ∃ es ep,o.ExactDict /\ o.data = .dict es ep /\ es.size = vs.length /\ ∀ (i : Nat) p,vs[i]? = some p->∃ en,es[i]? = some en /\ RelV (kV p.1) en.key /\ RelV p.2 en.val:=by
 refine za0 fun gG=>?_;obtain ⟨hg,_,hs,qs,kv,o',es,ep,h1,h2,h3,h4,h5,h6⟩:=x;refine gG ?_;clear gG;rw [hg] at h1;cases h1;obtain ⟨g1,g2⟩:=za99 h5
 have hl : es.size = vs.length:=by
  have:=kv.length;rw [<- iy0,g1];exact this.symm
 refine ⟨hg,hs,es,ep,h2,h3,hl,fun i p hp=>?_⟩;refine za0 fun gG=>?_;obtain ⟨q,hq,e1,e2⟩:=zi8 kv hp;obtain ⟨en,a1,a2,a3⟩:=g2 i q hq;refine gG ?_;clear gG;refine ⟨en,by rw [<- my8]; exact a1,?_,by rw [a3]; exact e2⟩;rw [e1];rcases zd4 a2 with ⟨j,t,hj,hk⟩ | ⟨y,t,hy,hk⟩
 ·rw [hj,hk]; exact ⟨t,rfl⟩
 ·rw [hy,hk]; exact ⟨t,rfl⟩
section
variable {X : Cx} {tg : Expr}
theorem Inv.frzK {pins : List (Addr × Obj)} {σ : St} {H : Hp} {s : Shared} {d : Addr} {kvs : List (Key × V)} (I : Inv X pins σ H s) (e : H d = some (.dK kvs)) : ∃ o,Inv X pins σ (upd H d (.frz o (.dK kvs))) s:=by
 refine za0 fun gG=>?_;obtain ⟨z,hs,vs,kv,o,es,ep,h1,h2⟩:=I.hok d _ e;refine gG ?_;clear gG;refine ⟨o,?_⟩
 have ht : ∀ b ys,H b = some (.tup ys)->upd H d (.frz o (.dK kvs)) b = some (.tup ys):=fun b ys hb=>by
  rw [za8 (zK8 hb e (by simp))]; exact hb
 refine I.write (x:=d) (e:=d) (h':=s.heap) (t':=s.toks) (o:=.frz o (.dK kvs)) (by rw [e]; trivial) (.inl rfl) (fun _ _ _ q=>q) ⟨o,h1⟩ ⟨h1,?_⟩;exact zb9.zU0 (I.hok d _ e) (fun _ _ _ q=>q) (fun b hb=>by rw [za8 (zK8 hb e (by simp))]; exact hb) ht
theorem zd42 {e : Expr} {t : TE} (h : PE X e t) : PE X e fun σ H Q=>∃ d kvs,H d = some (.dK kvs) /\ ∀ o,t σ (upd H d (.frz o (.dK kvs))) fun v H'=>∃ kvs',H' d = some (.frz o (.dK kvs')) /\ Q v (upd H' d (.dK kvs')):=by
 intro pins s σ H Q I ⟨d,kvs,hd,q⟩;obtain ⟨o,I1⟩:=I.frzK hd
 have h0 : ∀ o' u',X.H₀ d ≠ some (.frz o' u'):=fun o' u' z=>by
  have:=I.base.frzs d o' u' z;rw [hd] at this;cases this
 refine thn (h pins s σ _ _ I1 (q o)) fun v s1 zR=>?_;refine za0 fun gG=>?_;obtain ⟨y,H1,I2,r,kvs',e1,q1⟩:=zR;refine gG ?_;clear gG;exact ⟨y,_,I2.zX1 e1 h0,r,q1⟩
theorem zd43 {st : Stmt} {t : TS} (h : PS X st t) : PS X st fun E σ H=>∃ d kvs,H d = some (.dK kvs) /\ ∀ o,t ⟨fun σ' H'=>∃ kvs',H' d = some (.frz o (.dK kvs')) /\ E.nx σ' (upd H' d (.dK kvs')),fun v H'=>∃ kvs',H' d = some (.frz o (.dK kvs')) /\ E.rt v (upd H' d (.dK kvs')),fun σ' H'=>∃ kvs',H' d = some (.frz o (.dK kvs')) /\ E.bk σ' (upd H' d (.dK kvs')),fun σ' H'=>∃ kvs',H' d = some (.frz o (.dK kvs')) /\ E.ct σ' (upd H' d (.dK kvs'))⟩ σ (upd H d (.frz o (.dK kvs))):=by
 intro pins s σ H E I ⟨d,kvs,hd,q⟩;obtain ⟨o,I1⟩:=I.frzK hd
 have h0 : ∀ o' u',X.H₀ d ≠ some (.frz o' u'):=fun o' u' z=>by
  have:=I.base.frzs d o' u' z;rw [hd] at this;cases this
 refine thn (h pins s σ _ _ I1 (q o)) fun f s1 hf=>?_;cases f with
 | next=>obtain ⟨σ',H',I2,kvs',e1,q1⟩:=hf; exact ⟨σ',_,I2.zX1 e1 h0,q1⟩
 | brk=>obtain ⟨σ',H',I2,kvs',e1,q1⟩:=hf; exact ⟨σ',_,I2.zX1 e1 h0,q1⟩
 | cont=>obtain ⟨σ',H',I2,kvs',e1,q1⟩:=hf; exact ⟨σ',_,I2.zX1 e1 h0,q1⟩
 | ret u=>obtain ⟨v,σ',H',I2,r,kvs',e1,q1⟩:=hf; exact ⟨v,σ',_,I2.zX1 e1 h0,r,q1⟩
end
section
variable {X : Bc} {n : Nat} {S : Sl} {W : Wl} {k : KB} {D : DB}
theorem zb00 {e : Expr} {j : Nat} {kvs : List (Key × El)} (hj : W[j]? = some (.dK kvs)) (h : ∀ o,BE X S (W.set j (.fK o kvs)) e fun y W1=>W1[j]? = some (.fK o kvs) /\ k y (W1.set j (.dK kvs))) : BE X S W e k :=
 .of (zd42 zi7) fun F A σ H Q x0 r sr q=>by
  have hlW : j < W.length:=(ay3.mp hj).1;have hlA : j < A.length:=by rw [r.len]; exact hlW
  have hjA : A[j]? = some A[j]:=by simp [hlA]
  refine za0 fun gG=>?_;obtain ⟨ho,eH,vs,rfl,p⟩:=r.obj j _ _ hjA hj;refine gG ?_;clear gG;refine ⟨A[j],vs,eH,fun o=>?_⟩;have r2 : RW X.K F A (W.set j (.fK o kvs)) (upd H A[j] (.frz o (.dK vs))):=r.put hjA ⟨vs,rfl,p⟩;refine (h o).use x0 r2 sr fun F2 A2 W2 H2 y v x2 r3 z3 zR=>?_;refine za0 fun gG=>?_;obtain ⟨hw,hk⟩:=zR;have hjA2 : A2[j]? = some A[j]:=zv4 x2.pre hjA;obtain ⟨h',e',vs',rfl,p'⟩:=r3.obj j _ _ hjA2 hw;refine gG ?_;clear gG;exact ⟨vs',e',q F2 A2 _ _ y v x2 (r3.put (o:=.dK kvs) hjA2 ⟨vs',rfl,p'⟩) z3 hk⟩
theorem zd44 {st : Stmt} {j mb : Nat} {kvs : List (Key × El)} (hj : W[j]? = some (.dK kvs)) (hnm : n <= mb) (hn' : j < mb) (hmW : mb <= W.length) (h : ∀ o,BS X mb S (W.set j (.fK o kvs)) st ⟨fun S1 W1=>W1[j]? = some (.fK o kvs) /\ D.nx S1 (W1.set j (.dK kvs)),fun y W1=>W1[j]? = some (.fK o kvs) /\ D.rt y (W1.set j (.dK kvs)),fun S1 W1=>W1[j]? = some (.fK o kvs) /\ D.bk S1 (W1.set j (.dK kvs)),fun S1 W1=>W1[j]? = some (.fK o kvs) /\ D.ct S1 (W1.set j (.dK kvs))⟩) : BS X n S W st D :=
 .of (zd43 ps_U) fun F A σ H E hn x0 r sr q=>by
  have hlW : j < W.length:=(ay3.mp hj).1;have hlA : j < A.length:=by rw [r.len]; exact hlW
  have hmA : mb <= A.length:=by rw [r.len]; exact hmW
  have hjA : A[j]? = some A[j]:=by simp [hlA]
  refine za0 fun gG=>?_;obtain ⟨ho,eH,vs,rfl,p⟩:=r.obj j _ _ hjA hj;refine gG ?_;clear gG;refine ⟨A[j],vs,eH,fun o=>?_⟩;have r2 : RW X.K F A (W.set j (.fK o kvs)) (upd H A[j] (.frz o (.dK vs))):=r.put hjA ⟨vs,rfl,p⟩
  have at_ : ∀ {F2 A2},Ex1 mb F A F2 A2->A2[j]? = some A[j]:=fun {F2 A2} x=>by
   have e:=zo4 x.pre hmA;have:=congrArg (fun l=>l[j]?) e;simp only [gy9 hn'] at this;rw [this]; exact hjA
  have back : ∀ {F2 A2 W2 H2},Ex1 mb F A F2 A2->RW X.K F2 A2 W2 H2->W2[j]? = some (.fK o kvs)->∃ vs',H2 A[j] = some (.frz o (.dK vs')) /\ RW X.K F2 A2 (W2.set j (.dK kvs)) (upd H2 A[j] (.dK vs')):=fun {F2 A2 W2 H2} x r3 hw=>by
   refine za0 fun gG=>?_;obtain ⟨h',e',vs',rfl,p'⟩:=r3.obj j _ _ (at_ x) hw;refine gG ?_;clear gG;exact ⟨vs',e',r3.put (o:=.dK kvs) (at_ x) ⟨vs',rfl,p'⟩⟩
  refine (h o).use hmA (x0.up hnm) r2 sr ⟨fun F2 A2 W2 H2 S2 σ2 x r3 sr3 ⟨hw,hk⟩=>?_,fun F2 A2 W2 H2 S2 σ2 x r3 sr3 ⟨hw,hk⟩=>?_,fun F2 A2 W2 H2 S2 σ2 x r3 sr3 ⟨hw,hk⟩=>?_,fun F2 A2 W2 H2 e v x r3 z3 ⟨hw,hk⟩=>?_⟩
  ·refine za0 fun gG=>?_;obtain ⟨vs',e',r4⟩:=back x r3 hw;refine gG ?_;clear gG;exact ⟨vs',e',q.nx _ _ _ _ _ _ (x.le hnm) r4 sr3 hk⟩
  ·refine za0 fun gG=>?_;obtain ⟨vs',e',r4⟩:=back x r3 hw;refine gG ?_;clear gG;exact ⟨vs',e',q.bk _ _ _ _ _ _ (x.le hnm) r4 sr3 hk⟩
  ·refine za0 fun gG=>?_;obtain ⟨vs',e',r4⟩:=back x r3 hw;refine gG ?_;clear gG;exact ⟨vs',e',q.ct _ _ _ _ _ _ (x.le hnm) r4 sr3 hk⟩
  ·refine za0 fun gG=>?_;obtain ⟨vs',e',r4⟩:=back x r3 hw;refine gG ?_;clear gG;exact ⟨vs',e',q.rt _ _ _ _ _ _ (x.le hnm) r4 z3 hk⟩
end
def ItVK (d : Addr) (o : Obj) : It:=⟨fun i H=>∃ vs,H d = some (.frz o (.dK vs)) /\ i < vs.length,fun i H x H'=>H' = H /\ ∀ vs,H d = some (.frz o (.dK vs))->∃ p,vs[i]? = some p /\ x = p.2,fun i H=>∃ vs,H d = some (.frz o (.dK vs)) /\ vs.length <= i⟩
theorem zY9 {P : cy6} {w : World} {K : ay4} {tg : Expr} {d : Addr} {o : Obj} {es : Array my9} {ep : Nat} (it : Addr) (hd : o.data = .dict es ep) :
  Turn P w K tg (ItVK d o) [it] it (fun i h=>h.IsValIter it d i es.size ep) where
 mem:=by simp
 obj:=fun i h st b hb=>by
  have e : b = it:=by simpa using hb
  subst e;refine za0 fun gG=>?_;obtain ⟨o,e,c,d⟩:=st;refine gG ?_;clear gG;exact ⟨o,e,fun v z=>by rw [d] at z; cases z⟩
 keep:=fun i h h' st k=>by
  refine za0 fun gG=>?_;obtain ⟨o,e,r⟩:=st;refine gG ?_;clear gG;exact ⟨o,k it (by simp) o e,r⟩
 item:=by
  intro X hP hw hK hcm i pins s σ H E I hf st hg;subst hP hw hK;refine za0 fun gG=>?_;obtain ⟨f0,f1,f2,f3,f4,f5⟩:=hf it (by simp);obtain ⟨vs,hu,hi⟩:=hg;obtain ⟨hget,hs,es',ep',g1,g2,g3,g4⟩:=zd3 (show zb9 X.prog X.w H s.heap d (.frz o (.dK vs)) from I.hok d _ hu);refine gG ?_;clear gG;rw [hd] at g2;cases g2;refine za0 fun gG=>?_;obtain ⟨en,hen,rk,rv⟩:=g4 i vs[i] (cy0 hi);refine gG ?_;clear gG;refine zD6 st ⟨o,hget,g1,hd⟩ hen fun h' hit' hs'=>?_;have I1 : Inv X pins σ H { s with heap:=h' }:=I.turned (t':=s.toks) (fun b o hb e=>hs'.extBut b o hb e) f0 f1 f3 f4 f5;refine za0 fun gG=>?_;obtain ⟨o',e,c,dd⟩:=id hit';refine gG ?_;clear gG
  exact ⟨_,rfl,zU3 (s:={ s with heap:=h' }) e c dd (by decide) ⟨vs[i].2,H,I1,rv,⟨rfl,fun vs' hv'=>by
   rw [hu] at hv';cases hv'
   exact ⟨_,cy0 hi,rfl⟩⟩,hit',fun b hb=>(hf b hb).1⟩⟩
 done:=by
  intro X hP hw hK hcm i pins s σ H E I hf st hg;subst hP hw hK;refine za0 fun gG=>?_;obtain ⟨f0,f1,f2,f3,f4,f5⟩:=hf it (by simp);obtain ⟨vs,hu,hi⟩:=hg;obtain ⟨hget,hs,es',ep',g1,g2,g3,g4⟩:=zd3 (show zb9 X.prog X.w H s.heap d (.frz o (.dK vs)) from I.hok d _ hu);refine gG ?_;clear gG;rw [hd] at g2;cases g2;exact zN2 (I.ok.hd hcm) st ⟨o,hget,g1,hd⟩ (by omega) fun h' eb=>⟨rfl,I.turned (t':=s.toks) (fun b o hb e=>eb b o hb e) f0 f1 f3 f4 f5⟩
 self:=fun _ _ _ _ _ st h=>wpAny_pyIter_valiter st h
section
variable {X : Cx} {tg : Expr}
theorem zT2 {o : Expr} {to : TE} {apos cpos : Pos} (ho : PE X o to) (hbase : oy1 o "values" X.env (eval o X.env) = eval o X.env:=by rfl) (hline : (apos.endLine == cpos.line) = true:=by rfl) :
  PE X (.Call (.Attribute o "values" apos) [] [] cpos) (fun σ H Q=>to σ H fun x H1=>∃ d ob vs,x = .ref d /\ H1 d = some (.frz ob (.dK vs)) /\ ∀ v,H1 v = none->Q (.ref v) (upd H1 v (zj5 v d))):=by
 intro pins s σ H Q I h;refine wpAny_Call_method0_late hbase hline (thn (ho pins s σ H _ I h) fun v s1 ⟨x,H1,I1,r1,d,ob,vs,hx,hd,q⟩=>?_);subst hx;cases r1;refine za0 fun gG=>?_;obtain ⟨hget,hs,es,ep,g1,g2,_⟩:=zd3 (show zb9 X.prog X.w H1 s1.heap d (.frz ob (.dK vs)) from I1.hok d _ hd);refine gG ?_;clear gG;have ty : s1.TypeIs (.ref d) "dict" := ⟨ob,hget,g1.1⟩
 refine ⟨"dict", "dict.values",iy1,ry1,PySem.F.type_dict_values,ty,fun a e=>by cases e; exact ⟨ob,hget,g1.2.1⟩,ty2 rfl (PySem.evalArgs_none ?_)⟩;refine dy6 ry1 ty PySem.F.entry_dict_values ?_ (PySem.F.args_dict_values_1 _);refine ay0 ?_;unfold Builtin.Dict.noArgs;refine ay0 (py1 ty ?_);show wpAny _ _ (pure d) _ _ s1;refine ay1 ?_;show wpAny _ _ (jy6 d >>= _) _ _ s1;unfold Builtin.Dict.showsAll;rw [if_neg (by rw [hs]; exact by9)];refine ay0 (ay1 (ay0 (ey3 (ay1 ⟨_,rfl,?_⟩))));refine ⟨.ref s1.heap.objs.size,_,I1.laid (t':=s1.toks) (o:=zj5 s1.heap.objs.size d) (fun b u q=>ay2 _ q) (ay6 _) ?_,rfl,q _ (I1.hok.fresh (ay6 _))⟩;exact ⟨⟨_,ay7 _ rfl,rfl,rfl⟩,⟨_,ay7 _ rfl⟩,fun h1 h2 ⟨o,a,b,c⟩ k=>⟨o,k o a,b,c⟩⟩
theorem zc05 {l : Expr} {tl : TE} (hl : PE X l tl) : PI X tg l (fun σ H R=>tl σ H fun v H1=>∃ vw d o vs,v = .ref vw /\ H1 vw = some (zj5 vw d) /\ H1 d = some (.frz o (.dK vs)) /\ R (ItVK d o) H1):=by
 intro pins s σ H R I h;refine thn (hl pins s σ H _ I h) fun v s1 zR=>?_;refine za0 fun gG=>?_;obtain ⟨y,H1,I1,r1,vw,d,o,vs,hy,hv,hd,q⟩:=zR;subst hy;refine gG ?_;clear gG;cases r1;refine za0 fun gG=>?_;obtain ⟨hvw,_,_⟩:=(show zb9 X.prog X.w H1 s1.heap vw (zj5 vw d) from I1.hok vw _ hv)
 obtain ⟨hget,hs,es,ep,g1,g2,_⟩:=zd3 (show zb9 X.prog X.w H1 s1.heap d (.frz o (.dK vs)) from I1.hok d _ hd);refine gG ?_;clear gG;refine zD7 hvw ⟨o,hget,g1,g2⟩ ?_;refine ⟨s1.heap.objs.size,[s1.heap.objs.size],_,_,H1,rfl,I1.kept (t':=s1.toks) fun b o e=>ay2 _ e,zY9 _ g2,⟨_,ay7 _ rfl,rfl,rfl⟩,fun b hb=>?_,q⟩;have e : b = s1.heap.objs.size:=by simpa using hb
 subst e;exact I1.fpOk (ay6 _) (I1.hok.fresh (ay6 _))
end
section
variable {X : Bc} {S : Sl} {W : Wl} {k : KB}
theorem zc06 {tg o : Expr} {apos cpos : Pos} {ki : Nat->(Wl->Prop)->List El->Wl->Prop} (h : BE X S W o fun y W1=>∃ (j : Nat) (ob : Obj) (L : List (Key × El)),y = .o j /\ W1[j]? = some (.fK ob L) /\ ki (j + 1) (fun W'=>W'[j]? = some (.fK ob L)) (L.map (·.2)) W1)
  (hbase : oy1 o "values" X.env (eval o X.env) = eval o X.env:=by rfl) (hline : (apos.endLine == cpos.line) = true:=by rfl) : BIE X S W tg (.Call (.Attribute o "values" apos) [] [] cpos) ki:=fun F A σ H R x0 r sr q =>
 ⟨_,zc05 (zT2 zi7 hbase hline),h.use x0 r sr fun F1 A1 W1 H1 y vy e1 r1 z1 zR=>by
  refine za0 fun gG=>?_;obtain ⟨j,ob,L,hy,hj,h1⟩:=zR;subst hy;obtain ⟨a,ha,rfl⟩:=z1;have hja : j < A1.length:=(ay3.mp ha).1
  have ha' : ∀ {F' A'},Ex1 (j + 1) F1 A1 F' A'->A'[j]? = some a:=fun {F' A'} x=>by
   have e:=zo4 x.pre (by omega);have:=congrArg (fun l=>l[j]?) e;simp only [gy9 (ny8 j)] at this;rw [this]; exact ha
  obtain ⟨u0,e0,vs0,rfl,p0⟩:=r1.obj j a _ ha hj;refine gG ?_;clear gG;refine ⟨a,ob,vs0,rfl,e0,fun v hv=>⟨v,a,ob,vs0,rfl,zb3,by rw [za8 (za6 e0 hv)]; exact e0,?_⟩⟩;have r2 : RW X.K F1 A1 W1 (upd H1 v (zj5 v a)):=r1.grown (zk0 hv)
  have key : ∀ {F' A' W' H'},Ex1 (j + 1) F1 A1 F' A'->RW X.K F' A' W' H'->W'[j]? = some (.fK ob L)->∃ vs,H' a = some (.frz ob (.dK vs)) /\ Paired (fun p q=>p.1 = q.1 /\ ElR X.K F' A' p.2 q.2) L vs:=fun x r' hG=>by
   refine za0 fun gG=>?_;obtain ⟨u,e,vs,rfl,p⟩:=r'.obj j a _ (ha' x) hG;refine gG ?_;clear gG;exact ⟨vs,e,p⟩
  refine q (j + 1) _ F1 A1 W1 _ _ _ e1 r2 hja ⟨fun i F' A' W' H' hi x r' hG=>?_,fun i F' A' W' H' y H'' hi x r' hG hy=>?_,fun F' A' W' H' x r' hG=>?_⟩ h1
  ·refine za0 fun gG=>?_;obtain ⟨vs,e,p⟩:=key x r' hG;refine gG ?_;clear gG;refine ⟨vs,e,?_⟩;have:=zb2 p;rw [ay5] at hi;omega
  ·refine za0 fun gG=>?_;obtain ⟨vs,e,p⟩:=key x r' hG;obtain ⟨e',hy⟩:=hy;obtain ⟨pp,hp,rfl⟩:=hy vs e;obtain ⟨b,hb,zb⟩:=zf3 p hp;refine gG ?_;clear gG;exact ⟨e',b.2,by rw [ay9,hb]; rfl,zb.2⟩
  ·refine za0 fun gG=>?_;obtain ⟨vs,e,p⟩:=key x r' hG;refine gG ?_;clear gG;refine ⟨vs,e,?_⟩;have:=zb2 p;rw [ay5]
   omega⟩
end
section
variable {P : cy6} {w : World} {A : Around} {s : Shared} {I d : Addr} {es : Array my9} {ep : Nat} {h0 : Heap} {bs : List Bool} {R : Result->Shared->Prop}
theorem zc07 (hh : A.handled = none) (hI : h0.get? I = none) (hd : zJ0 h0 d es ep) (hb : bs.length = es.size)
  (hc : ∀ (h' : Heap) (tk i : Nat) (en : my9) (b : Bool) (Q : Bool->Shared->Prop) (E : Value->Shared->Prop),(∀ b o,h0.get? b = some o->h'.get? b = some o)->es[i]? = some en->bs[i]? = some b->(∀ tk',Q b { s with heap:=h',toks:=tk' })->wpAny (model P w) A.in1 (truthy en.val) Q E { s with heap:=h',toks:=tk })
  (hR : ∀ (h' : Heap) (tk : Nat),(∀ b o,h0.get? b = some o->h'.get? b = some o)->R (.ok (.ret (.bool (bs.any id)))) { s with heap:=h',toks:=tk }) :
  ∀ (k i : Nat) (h : Heap) (tk : Nat),i + k = es.size->(bs.take i).any id = false->h.IsValIter I d i es.size ep->(∀ b o,h0.get? b = some o->h.get? b = some o) ->
   my2 (model P w) A (.builtin "any.loop" ⟨[.ref I],[]⟩) R { s with heap:=h,toks:=tk }:=by
 have n0I : ∀ b o,h0.get? b = some o->b ≠ I:=fun b o e z=>by rw [z,hI] at e; cases e
 intro k
 induction k with
 | zero =>
  intro i h tk hk hb0 hit hkeep;refine jy5 PySem.F.entry_any_loop ?_;rw [gy3 ty3 _];unfold Builtin.«any.loop»;refine ay0 (zN2 (s:={ s with heap:=h,toks:=tk }) (A:=A.in1) hh hit (hd.move (hkeep d)) (by omega) fun h' he=>?_);refine ay0 (ny4 (ay1 ?_));have e : bs.any id = false:=by rw [<- hb0,hy7 (by omega)]
  have:=hR h' tk fun b o z=>he b o (n0I b o z) (hkeep b o z);rw [e] at this;exact this
 | succ k ih =>
  intro i h tk hk hb0 hit hkeep;have hlt : i < es.size:=by omega
  refine jy5 PySem.F.entry_any_loop ?_;rw [gy3 ty3 _];unfold Builtin.«any.loop»;refine ay0 (zD6 (s:={ s with heap:=h,toks:=tk }) (A:=A.in1) hit (hd.move (hkeep d)) (py6 hlt) fun h' hit' sb=>?_);have keep' : ∀ b o,h0.get? b = some o->h'.get? b = some o:=fun b o e=>sb.extBut b o (n0I b o e) (hkeep b o e);have hbi : bs[i]? = some bs[i]:=cy0 (by omega);refine ay0 (fy3 (hc h' tk i _ bs[i] _ _ keep' (py6 hlt) hbi fun tk'=>?_));refine ay0 (wpAny_letGo ?_);cases e : bs[i] with
  | true =>
   rw [if_pos rfl];refine ay0 (ny4 (ay1 ?_));have e' : bs.any id = true:=vy7.mpr ⟨bs[i],ry9 _,e⟩;have:=hR h' tk' keep';rw [e'] at this;exact this
  | false =>
   rw [if_neg (by simp)];refine ay1 ⟨ky3 ty3 _,ih (i + 1) h' tk' (by omega) ?_ hit' keep'⟩;rw [ey7,hbi,List.any_append,hb0,e];rfl
theorem zE8 {v : Addr} {Q : Value->Shared->Prop} {E : Value->Shared->Prop} (hh : A.handled = none) (hv : s.heap.IsValuesView v d) (hd : zJ0 s.heap d es ep) (hb : bs.length = es.size)
  (hc : ∀ (h' : Heap) (tk i : Nat) (en : my9) (b : Bool) (Q : Bool->Shared->Prop) (E : Value->Shared->Prop),(∀ b o,s.heap.get? b = some o->h'.get? b = some o)->es[i]? = some en->bs[i]? = some b->(∀ tk',Q b { s with heap:=h',toks:=tk' })->wpAny (model P w) A.in1 (truthy en.val) Q E { s with heap:=h',toks:=tk })
  (hQ : ∀ (h' : Heap) (tk : Nat),(∀ b o,s.heap.get? b = some o->h'.get? b = some o)->Q (.bool (bs.any id)) { s with heap:=h',toks:=tk }) : wpAny (model P w) A (call (.builtin "any") [.ref v]) Q E s:=by
 refine call_function_tree PySem.F.kind_any PySem.F.plain_any PySem.F.entry_any (PySem.F.args_any1 (dy2 v)) ?_;show wpAny _ _ (pure (dy2 v) >>= _) _ _ s;refine ay0 (ay1 (ay0 (zD7 hv hd ?_)))
 have hnone : ∀ b,s.heap.objs.size <= b->s.heap.get? b = none:=fun b hb=>by
  cases e : s.heap.get? b with
  | none=>rfl
  | some o=>exact absurd (by6 e) (Nat.not_lt.mpr hb)
 refine ay1 ⟨ky3 ty3 _,?_⟩;exact zc07 (s:=s) (h0:=s.heap) hh (hnone _ (ay6 _)) hd hb hc (fun h' tk hk=>hQ h' tk hk) es.size 0 _ s.toks (by omega) rfl ⟨_,ay7 _ rfl,rfl,rfl⟩ fun b o e=>ay2 _ e
end
section
variable {X : Cx}
theorem zb01 (hcm : X.calm = true) : zj8 X (.builtin "any") fun xs H Q=>∃ (v d : Addr) (o : Obj) (vs : List (Key × V)) (bs : List Bool),xs = [.ref v] /\ H v = some (zj5 v d) /\ H d = some (.frz o (.dK vs)) /\ Paired (fun (p : Key × V) (b : Bool)=>∃ a xs,p.2 = .ref a /\ SqL X.K H a xs /\ b = !xs.isEmpty) vs bs /\ Q (.bl (bs.any id)) H:=by
 intro pins s σ H xs us Q I r h;refine za0 fun gG=>?_;obtain ⟨v,d,o,vs,bs,rfl,hv,hd,hp,q⟩:=h;obtain ⟨u,rfl,rx⟩:=vals1 r;refine gG ?_;clear gG;cases rx;refine za0 fun gG=>?_;obtain ⟨hvw,_,_⟩:=(show zb9 X.prog X.w H s.heap v (zj5 v d) from I.hok v _ hv)
 obtain ⟨hget,hs,es,ep,g1,g2,g3,g4⟩:=zd3 (show zb9 X.prog X.w H s.heap d (.frz o (.dK vs)) from I.hok d _ hd);refine gG ?_;clear gG;have hl63:=zm7;have hsl : by0 = 16777216:=ny6;refine zE8 (I.ok.hd hcm) hvw ⟨o,hget,g1,g2⟩ (by rw [g3]; exact (zb2 hp).symm) (fun h' tk i en b Q' E' kp hen hb hQ=>?_) fun h' tk kp=>⟨.bl (bs.any id),H,I.kept kp,rfl,q⟩
 refine za0 fun gG=>?_;obtain ⟨p,hpi,a,xs,e1,hx,e2⟩:=zf3 hp hb;obtain ⟨en',hen',rk,rv⟩:=g4 i p hpi;refine gG ?_;clear gG;rw [hen] at hen';cases hen';rw [e1] at rv;have rv' : en.val = dy2 a:=rv;rw [rv'];have I' : Inv X pins σ H { s with heap:=h',toks:=tk }:=I.kept kp;refine za0 fun gG=>?_;obtain ⟨its,r,pl,hz⟩:=I'.list hx;refine gG ?_;clear gG;have hlen:=r.length;refine wpAny_truthy_list pl.isList (by simp only [by7]; omega) ?_;rw [zq0 r,<- e2];exact hQ _
end
section
variable {X : Bc} {S : Sl} {W : Wl} {k : KB}
theorem zd45 {o : Expr} {p pos apos cpos : Pos} (hc : X.calm = true) (hg : Gl X "any") (hm : X.mg "any" = none) (hv : ey9 "any" = some (.builtin "any"))
  (h : BE X S W o fun y W1=>∃ (j : Nat) (ob : Obj) (L : List (Key × El)) (bs : List Bool),y = .o j /\ W1[j]? = some (.fK ob L) /\ Paired (fun (e : Key × El) (b : Bool)=>∃ i es,e.2 = .o i /\ W1[i]? = some (.lst es) /\ b = !es.isEmpty) L bs /\ k (.d (.bool (bs.any id))) W1)
  (hbase : oy1 o "values" X.env (eval o X.env) = eval o X.env:=by rfl) (hline : (apos.endLine == cpos.line) = true:=by rfl) (he : ey8 [.Call (.Attribute o "values" apos) [] [] cpos] X.env = (false,eval (.Call (.Attribute o "values" apos) [] [] cpos) X.env) :: ey8 [] X.env:=by rfl) (hpl : (backTo pos (ey8 [] X.env)).any (·.1) = false:=by rfl) :
  BE X S W (.Call (.Name "any" p) [.Call (.Attribute o "values" apos) [] [] cpos] [] pos) k :=
 .of (zt6 (zb01 hc) hg hm hv (zm9 (zT2 zi7 hbase hline) zz1 he) (by decide) (by decide) he hpl) fun F A σ H Q x0 r sr q =>
  h.use x0 r sr fun F1 A1 W1 H1 y vy e1 r1 z1 zR=>by
   refine za0 fun gG=>?_;obtain ⟨j,ob,L,bs,hy,hj,hp,h1⟩:=zR;subst hy;obtain ⟨a,ha,rfl⟩:=z1;obtain ⟨u,eH,vs,rfl,pk⟩:=r1.obj j a _ ha hj;refine gG ?_;clear gG;refine ⟨a,ob,vs,rfl,eH,fun v hv0=>?_⟩;have hav : a ≠ v:=fun z=>by rw [z,hv0] at eH; cases eH
   have r2 : RW X.K F1 A1 W1 (upd H1 v (zj5 v a)):=r1.grown (zk0 hv0);refine ⟨v,a,ob,vs,bs,rfl,zb3,by rw [za8 hav]; exact eH,?_,(q.ext e1).same r2 (.dd (Rq.bl _)) h1⟩
   have : ∀ {L : List (Key × El)} {vs : List (Key × V)} {bs : List Bool},Paired (fun p q=>p.1 = q.1 /\ ElR X.K F1 A1 p.2 q.2) L vs->Paired (fun (e : Key × El) (b : Bool)=>∃ i es,e.2 = .o i /\ W1[i]? = some (.lst es) /\ b = !es.isEmpty) L bs->Paired (fun (p : Key × V) (b : Bool)=>∃ a' xs,p.2 = .ref a' /\ SqL X.K (upd H1 v (zj5 v a)) a' xs /\ b = !xs.isEmpty) vs bs:=by
    intro L
    induction L with
    | nil=>intro vs bs h1 h2; cases h1; cases h2; exact .nil
    | cons e L ih =>
     intro vs bs h1 h2;cases h1 with
     | cons z1 t1 =>
      cases h2 with
      | cons z2 t2 =>
       refine .cons ?_ (ih t1 t2);refine za0 fun gG=>?_;obtain ⟨i,es,e2,hw,rfl⟩:=z2;have z:=z1.2;rw [e2] at z;obtain ⟨a',ha',e3⟩:=z;obtain ⟨u,eU,ws,rfl,pw⟩:=r2.obj i a' _ ha' hw;refine gG ?_;clear gG;refine ⟨a',ws,e3,SqL.of eU,?_⟩;cases pw <;> rfl
   exact this pk hp
end
end L2
namespace L2
open PySem PySem.Spec PyProof.Rows
section
variable {X : Bc} {n : Nat} {S : Sl} {W : Wl} {D : DB} {k : KB} {tg iter elt : Expr} {ifs : List Expr} {O Fv : List Str} {cap : List Nat} {scope : Scope} {pos : Pos}
theorem zc08 (hc : X.calm = true) (cs : zb7 X.N X.env.scope O Fv cap scope) (h : BIE X S W tg iter (KCE X O Fv cap scope S tg elt ifs fun ys W'=>k (.d (.list ys)) W'))
  (hs : ∀ x,ey2 iter X.env x = pure x:=by intro _; rfl) : BE X S W (.ListComp elt [⟨tg,iter,ifs,0⟩] scope pos) k :=
 .of (za24 (g:=tUGc X (O++Fv) scope O.length tg) (tt:=tUTc X (O++Fv) scope ifs) (te:=zL9 X (O++Fv) scope elt) hc cs pi_U (fun cl C ex s H=>fun pins s' σ' H' v u Q I r zR=>by obtain ⟨t,h,_,q⟩:=zR; exact h cl C ex s H pins s' σ' H' v u Q I r q) (fun cl C ex s H=>fun pins s' σ' H' Q I zR=>by obtain ⟨t,h,q⟩:=zR; exact h cl C ex s H pins s' σ' H' Q I q)
  (fun cl C ex s H=>fun pins s' σ' H' Q I zR=>by obtain ⟨t,h,q⟩:=zR; exact h cl C ex s H pins s' σ' H' Q I q) za40 hs) fun F A σ H Q x0 r sr q=>zz7 h x0 r sr fun F' A' W' H' ys vs p x r' z hp hk=>(q.ext x).newL r' hp z hk
end
end L2
namespace L2
open PySem PySem.Spec PyProof.Rows
open PySem.W
section
variable {P : cy6} {w : World} {A : Around} {E : Value->Shared->Prop} {s : Shared} {it d : Addr} {i ep : Nat} {es : Array my9}
theorem zb02 {Q : Option Value->Shared->Prop} {en : my9} {ok ov : Value} (hI : IsItemIter s.heap it d i es.size ep ok ov) (hm : zJ0 s.heap d es ep) (hx : es[i]? = some en)
  (hQ : ∀ h' : Heap,IsItemIterOut h' it d (i + 1) es.size ep en.key en.val s.heap.objs.size->h'.get? s.heap.objs.size = some { cls:=.type "tuple",data:=.seq #[en.key,en.val] }->(∀ b o,b ≠ it->s.heap.get? b = some o->h'.get? b = some o)->Q (some (.ref s.heap.objs.size)) { s with heap:=h' }) : wpAny (model P w) A (pyNext (.ref it)) Q E s:=by
 refine za0 fun gG=>?_;obtain ⟨ob,b1,b2,b3⟩:=hm;refine gG ?_;clear gG
 have lt : i < es.size:=by
  rcases Nat.lt_or_ge i es.size with z | z
  ·exact z
  ·rw [my4 z] at hx; cases hx
 have ty : s.TypeIs (.ref it) "dict_itemiterator" := ⟨_,hI,rfl⟩
 have own : gy4 "dict_itemiterator" = true:=by decide
 unfold pyNext;refine ay0 (py3 (ey5 (name:=ly9 "__next__") ty iy2 (dy6 iy2 ty F.entry_dict_itemiterator_next ?_ (F.args_dict_itemiterator_next_1 _))));refine ay0 (ay1 (ay0 (ay0 ?_)))
 first | refine ay0 (ny3 ty (ay1 ?_)) | refine ay0 (py8 ty (ay1 ?_))
 refine ay0 (sy9 hI rfl ?_);simp only [own,if_true];show wpAny _ _ (if (dy2 d == ey1) = true then _ else _) _ _ s;rw [if_neg (show ¬ ((dy2 d == ey1) = true) from by9)];refine ay0 (ay1 (ay0 (ky1 b1 b3 ?_)));rw [if_neg (by simp)];refine ay0 (ay1 (ay0 (ny2 b1 b3 ?_)));rw [if_neg (by simp)];refine ay1 ?_;simp only [show ¬ ((i : Int) < 0) from by omega,if_false,ky0,hx];refine ay0 ?_
 first | refine ay0 (ny3 ty (ay1 ?_)) | refine ay0 (py8 ty (ay1 ?_))
 refine ay0 (wpAny_isOneOf_itemiter ty ?_);show wpAny _ _ (ty5 (.ref it) 3 (rawInt ((i : Int) + 1)) >>= _) _ _ s;refine ay0 (iy7 hI (by simp) fun h1 e1 s1=>?_)
 have e1' : h1.get? it = some { cls:=.type "dict_itemiterator",dict:=none,data:=.fields #[.none,.bool false,.ref d,.int ((i + 1 : Nat) : Int) 0,.int es.size 0,.int ep 0,ok,ov],slots:=#[] }:=by
  rw [show ((i + 1 : Nat) : Int) = (i : Int) + 1 by omega];simpa [rawInt] using e1
 have ty1 : Shared.TypeIs { s with heap:=h1 } (.ref it) "dict_itemiterator" := ⟨_,e1',rfl⟩
 refine ay0 (fy3 (ay0 (wpAny_isOneOf_itemiter ty1 (ay0 (wpAny_isOneOf_itemiter ty1 ?_)))));show wpAny _ _ (Builtin.Dict_items.pairFromOwner (.ref it) 6 en.key en.val) _ _ { s with heap:=h1 };unfold Builtin.Dict_items.pairFromOwner;refine ay0 (wpAny_newTuple ?_);have z1 : h1.objs.size = s.heap.objs.size:=s1.1;have lit : it < s.heap.objs.size:=by6 hI;have e2:=ay2 ({ cls:=.type "tuple",data:=.seq #[en.key,en.val] } : Obj) e1';have t2 : (h1.push { cls:=.type "tuple",data:=.seq #[en.key,en.val] }).get? s.heap.objs.size = some { cls:=.type "tuple",data:=.seq #[en.key,en.val] }:=by rw [<- z1]; exact ay7 _ rfl
 have k2 : ∀ b o,b ≠ it->s.heap.get? b = some o->(h1.push { cls:=.type "tuple",data:=.seq #[en.key,en.val] }).get? b = some o:=fun b o hb e=>ay2 _ (s1.extBut b o hb e);show wpAny _ _ (wy2 (.ref it) >>= _) _ _ { s with heap:=h1.push { cls:=.type "tuple",data:=.seq #[en.key,en.val] } };rw [z1];generalize h1.push { cls:=.type "tuple",data:=.seq #[en.key,en.val] } = h2 at e2 t2 k2;clear e1 e1' s1 ty1 z1;refine ay0 ?_;unfold Builtin.Dict_items.ownedTupleIsFree;refine ay0 (jy3 e2 rfl (x:=.none) rfl (ay1 ?_));simp only [if_true];refine ay0 (jy3 e2 rfl (x:=ok) rfl (ay0 (jy3 e2 rfl (x:=ov) rfl ?_)));refine ay0 (iy7 e2 (by simp) fun h3 e3 s3=>?_);refine ay0 (iy7 e3 (by simp) fun h4 e4 s4=>?_);refine ay0 (iy7 e4 (by simp) fun h5 e5 s5=>?_);refine ay0 (iy7 e5 (by simp) fun h6 e6 s6=>?_);have all : Heap.ExtBut it h2 h6:=fun b o hb e=>s6.extBut b o hb (s5.extBut b o hb (s4.extBut b o hb (s3.extBut b o hb e)));exact ay0 (wpAny_letGo (ay1 (ay1 ⟨_,rfl,ay1 (hQ h6 e6 (all _ _ (oy3 lit) t2) fun b o hb e=>all b o hb (k2 b o hb e))⟩)))
end
theorem zy1 : entryFor table "dict_itemiterator.__iter__" = some qy4.«dict_keyiterator.__iter__»:=entryFor_alias (id' := "dict_keyiterator.__iter__") (by kernel_rfl) rfl (by decide +kernel) (by kernel_rfl)
theorem zb03 {P : cy6} {w : World} {A : Around} {E : Value->Shared->Prop} {s : Shared} {it d : Addr} {i n ep : Nat} {ok ov : Value} {Q : Value->Shared->Prop} (st : IsItemIter s.heap it d i n ep ok ov) (h : Q (.ref it) s) : wpAny (model P w) A (pyIter (.ref it)) Q E s:=by
 have ty : s.TypeIs (.ref it) "dict_itemiterator" := ⟨_,st,rfl⟩
 refine qy6 ty F.slot_dict_itemiterator_iter (dy6 F.slot_dict_itemiterator_iter ty zy1 ?_ (F.args_dict_itemiterator_iter_1 _));exact ay1 ⟨_,rfl,_,_,ty,iy2.lookup,h⟩
def ItIK (d : Addr) (o : Obj) : It:=⟨fun i H=>∃ vs,H d = some (.frz o (.dK vs)) /\ i < vs.length,fun i H x H'=>∃ p q,x = .ref p /\ H p = none /\ H' = upd H p (.tup [kV q.1,q.2]) /\ ∀ vs,H d = some (.frz o (.dK vs))->vs[i]? = some q,fun i H=>∃ vs,H d = some (.frz o (.dK vs)) /\ vs.length <= i⟩
theorem zO8 {P : cy6} {w : World} {K : ay4} {elts : List Expr} {c : Nat} {tp : Pos} {d : Addr} {o : Obj} {es : Array my9} {ep : Nat} (it : Addr) (hd : o.data = .dict es ep) :
  Turn P w K (.Tuple elts c tp) (ItIK d o) [it] it (fun i h=>∃ ok ov,IsItemIter h it d i es.size ep ok ov) where
 mem:=by simp
 obj:=fun i h ⟨ok,ov,st⟩ b hb=>by
  have e : b = it:=by simpa using hb
  subst e;exact ⟨_,st,fun v z=>by cases z⟩
 keep:=fun i h h' ⟨ok,ov,st⟩ k=>⟨ok,ov,k it (by simp) _ st⟩
 item:=by
  intro X hP hw hK hcm i pins s σ H E I hf ⟨ok,ov,st⟩ hg;subst hP hw hK;have fi:=hf it (by simp);refine za0 fun gG=>?_;obtain ⟨vs,hu,hi⟩:=hg;obtain ⟨hget,hs,es',ep',g1,g2,g3,g4⟩:=zd3 (show zb9 X.prog X.w H s.heap d (.frz o (.dK vs)) from I.hok d _ hu);refine gG ?_;clear gG;rw [hd] at g2;cases g2;refine za0 fun gG=>?_;obtain ⟨en,hen,rk,rv⟩:=g4 i vs[i] (cy0 hi);refine gG ?_;clear gG;have nn : H s.heap.objs.size = none:=I.hok.fresh (ay6 _);refine zb02 st ⟨o,hget,g1,hd⟩ hen fun g eo t' kp=>?_;refine ⟨_,rfl,wpAny_letOwnedTupleGo_items eo fun h2 e2 sb=>?_⟩;have sb : fy0 it g h2:=sb;have hel : s.heap.objs.size ≠ it:=oy3 (by6 st);have k2 : ∀ b o,b ≠ it->s.heap.get? b = some o->h2.get? b = some o:=fun b o bi hb=>(sb.2 b bi).trans (kp b o bi hb);have tracked : ∀ b u,H b = some u->b ≠ it:=fun b u hb=>za6 hb fi.1;have t2 : h2.get? s.heap.objs.size = some { cls:=.type "tuple",data:=.seq #[en.key,en.val] }:=(sb.2 _ hel).trans t';refine ⟨.ref s.heap.objs.size,upd H s.heap.objs.size (.tup [kV vs[i].1,vs[i].2]),I.zb28 (ch:=[it]) rfl ⟨fun b o q n hb hx=>?_,fun b o q n hb hx=>?_,fun b o q n hx=>?_,fun b o q hx=>?_,fun b ys q=>?_,fun b o v q=>?_,fun b ps q=>?_⟩ (fun b v q=>?_) I.bare (fun b hb=>?_),rfl,⟨_,vs[i],rfl,nn,rfl,fun vs' hv'=>?_⟩,⟨_,_,e2⟩,fun b hb=>?_⟩
  ·exact k2 b o (fun z=>hx (by simp [z])) q
  ·exact ⟨o.slots,k2 b o (fun z=>hx (by simp [z])) q⟩
  ·rw [za8 (cy1 (by6 q))];exact n
  ·exact ⟨o,k2 b o (fun z=>hx (by simp [z])) q⟩
  ·rw [za8 (za6 q nn)]; exact q
  ·rw [za8 (za6 q nn)]; exact q
  ·exact ⟨#[],by rw [za8 (za6 q nn),Array.append_empty]; exact q⟩
  ·by_cases hb : b = s.heap.objs.size
   ·subst hb;rw [zb3] at q;cases q;exact ⟨by show 2 <= by0; decide,[en.key,en.val],.cons rk (.cons rv .nil),_,t2,rfl,_,rfl⟩
   ·rw [za8 hb] at q;refine (I.hok b v q).zU0 (fun c w' hc z=>?_) (fun c z=>by rw [za8 (za6 z nn)]; exact z) fun c ys z=>by rw [za8 (za6 z nn)]; exact z
    rcases hc with rfl | hc
    ·exact k2 c w' (tracked c v q) z
    ·exact k2 c w' (tracked c _ hc) z
  ·cases fy1.mp hb;exact ⟨fi.2.2.2.1,fi.2.1,fi.2.2.2.2⟩
  ·rw [hu] at hv';cases hv';exact cy0 hi
  ·cases fy1.mp hb;rw [za8 (fy4 hel)];exact fi.1
 done:=by
  intro X hP hw hK hcm i pins s σ H E I hf ⟨ok,ov,st⟩ hg;subst hP hw hK;refine za0 fun gG=>?_;obtain ⟨f0,f1,f2,f3,f4,f5⟩:=hf it (by simp);obtain ⟨vs,hu,hi⟩:=hg;obtain ⟨hget,hs,es',ep',g1,g2,g3,g4⟩:=zd3 (show zb9 X.prog X.w H s.heap d (.frz o (.dK vs)) from I.hok d _ hu);refine gG ?_;clear gG;rw [hd] at g2;cases g2;exact zb78 (S:=it + 1) (I.ok.hd hcm) (.inl ⟨ok,ov,st⟩) ⟨o,hget,g1,hd⟩ (by omega) fun h' eb=>⟨rfl,I.turned (t':=s.toks) (fun b o hb e=>eb b o hb e) f0 f1 f3 f4 f5⟩
 self:=fun _ _ _ _ _ ⟨_,_,st⟩ h=>zb03 st h
section
variable {X : Cx}
theorem zb04 {o : Expr} {to : TE} {apos cpos : Pos} (ho : PE X o to) (hbase : oy1 o "items" X.env (eval o X.env) = eval o X.env:=by rfl) (hline : (apos.endLine == cpos.line) = true:=by rfl) :
  PE X (.Call (.Attribute o "items" apos) [] [] cpos) (fun σ H Q=>to σ H fun x H1=>∃ d ob vs,x = .ref d /\ H1 d = some (.frz ob (.dK vs)) /\ ∀ v,H1 v = none->Q (.ref v) (upd H1 v (za70 v d))):=by
 intro pins s σ H Q I h;refine wpAny_Call_method0_late hbase hline (thn (ho pins s σ H _ I h) fun v s1 ⟨x,H1,I1,r1,d,ob,vs,hx,hd,q⟩=>?_);subst hx;cases r1;refine za0 fun gG=>?_;obtain ⟨hget,hs,es,ep,g1,g2,_⟩:=zd3 (show zb9 X.prog X.w H1 s1.heap d (.frz ob (.dK vs)) from I1.hok d _ hd);refine gG ?_;clear gG;have ty : s1.TypeIs (.ref d) "dict" := ⟨ob,hget,g1.1⟩
 refine ⟨"dict", "dict.items",iy1,PySem.F.slot_dict_items,PySem.F.type_dict_items,ty,fun a e=>by cases e; exact ⟨ob,hget,g1.2.1⟩,ty2 rfl (PySem.evalArgs_none ?_)⟩;refine dy6 PySem.F.slot_dict_items ty PySem.F.entry_dict_items ?_ (PySem.F.args_dict_items_1 _);unfold Builtin.«dict.items»;refine ay0 ?_;unfold Builtin.Dict.noArgs;refine ay0 (py1 ty ?_);show wpAny _ _ (pure d) _ _ s1;refine ay1 ?_;show wpAny _ _ (jy6 d >>= _) _ _ s1;unfold Builtin.Dict.showsAll;rw [if_neg (by rw [hs]; exact by9)];refine ay0 (ay1 (ay0 (ey3 (ay1 ⟨_,rfl,?_⟩))));refine ⟨.ref s1.heap.objs.size,_,I1.laid (t':=s1.toks) (o:=za70 s1.heap.objs.size d) (fun b u q=>ay2 _ q) (ay6 _) ?_,rfl,q _ (I1.hok.fresh (ay6 _))⟩;exact ⟨⟨_,ay7 _ rfl,rfl,rfl⟩,⟨_,ay7 _ rfl⟩,fun h1 h2 ⟨o,a,b,c⟩ k=>⟨o,k o a,b,c⟩⟩
theorem zb05 {elts : List Expr} {c : Nat} {tp : Pos} {l : Expr} {tl : TE} (hl : PE X l tl) : PI X (.Tuple elts c tp) l (fun σ H R=>tl σ H fun v H1=>∃ vw d o vs,v = .ref vw /\ H1 vw = some (za70 vw d) /\ H1 d = some (.frz o (.dK vs)) /\ R (ItIK d o) H1):=by
 intro pins s σ H R I h;refine thn (hl pins s σ H _ I h) fun v s1 zR=>?_;refine za0 fun gG=>?_;obtain ⟨y,H1,I1,r1,vw,d,o,vs,hy,hv,hd,q⟩:=zR;subst hy;refine gG ?_;clear gG;cases r1;refine za0 fun gG=>?_;obtain ⟨hvw,_,_⟩:=(show zb9 X.prog X.w H1 s1.heap vw (za70 vw d) from I1.hok vw _ hv)
 obtain ⟨hget,hs,es,ep,g1,g2,_⟩:=zd3 (show zb9 X.prog X.w H1 s1.heap d (.frz o (.dK vs)) from I1.hok d _ hd);refine gG ?_;clear gG;refine za69 hvw ⟨o,hget,g1,g2⟩ ?_;refine ⟨s1.heap.objs.size,[s1.heap.objs.size],_,_,H1,rfl,I1.kept (t':=s1.toks) fun b o e=>ay2 _ e,zO8 _ g2,⟨.none,.none,ay7 _ rfl⟩,fun b hb=>?_,q⟩;have e : b = s1.heap.objs.size:=by simpa using hb
 subst e;exact I1.fpOk (ay6 _) (I1.hok.fresh (ay6 _))
end
section
variable {X : Bc} {n : Nat} {S : Sl} {W : Wl} {D : DB} {k : KB} {kx vx : Expr} {O Fv : List Str} {cap : List Nat} {scope : Scope} {pos : Pos} {elts : List Expr} {c : Nat} {tp : Pos}
theorem zO9 {o : Expr} {apos cpos : Pos} {F : Hp} {A : List Addr} {σ : St} {H : Hp} {Q : VK} {k : List (Key × El)->Wl->Prop}
  (h : BE X S W o fun y W1=>∃ (j : Nat) (ob : Obj) (L : List (Str × PyData)),y = .o j /\ W1[j]? = some (.fK ob (L.map fun p=>(.inr p.1,.d p.2))) /\
   ∃ P : Nat->List (Key × El)->Wl->Prop,P 0 [] W1 /\ (∀ i kvs W',i <= L.length->P i kvs W'->W'[j]? = some (.fK ob (L.map fun p=>(.inr p.1,.d p.2))) /\ kvs.length < by0) /\
    (∀ i p kvs W',L[i]? = some p->P i kvs W'->BGc X (O++Fv) scope O.length (zQ1 O cap S) W' (.Tuple elts c tp) (.d (.tuple [.str p.1,p.2])) fun S2 W2=>BEc X (O++Fv) scope S2 W2 kx fun kz W3=>∃ x : Str,kz = .d (.str x) /\ BEc X (O++Fv) scope S2 W3 vx fun z W4=>P (i + 1) (zF5 kvs (.inr x) z) W4) /\
    ∀ kvs W',P L.length kvs W'->k kvs W')
  (x0 : X.Am F A) (r : RW X.K F A W H) (sr : SR X.K F A S σ)
  (q : ∀ F' A' W' H' kvs vs p,Ext F A F' A'->RW X.K F' A' W' H'->Paired (fun p q=>p.1 = q.1 /\ ElR X.K F' A' p.2 q.2) kvs vs->H' p = none->k kvs W'->Q (.ref p) (upd H' p (.dK vs)))
  (hbase : oy1 o "items" X.env (eval o X.env) = eval o X.env:=by rfl) (hline : (apos.endLine == cpos.line) = true:=by rfl) :
  tDC (tUI X (.Tuple elts c tp) (.Call (.Attribute o "items" apos) [] [] cpos)) O cap (tUGc X (O++Fv) scope O.length (.Tuple elts c tp)) (zL9 X (O++Fv) scope kx) (zL9 X (O++Fv) scope vx) σ H Q :=
 ⟨_,zb05 (zb04 zi7 hbase hline),h.use x0 r sr fun F1 A1 W1 H1 y vy e1 r1 z1 zR=>by
  refine za0 fun gG=>?_;obtain ⟨j,ob,L,hy,hj,P,p0,hG,hs,hd⟩:=zR;subst hy;obtain ⟨a,ha,rfl⟩:=z1;have hja : j < A1.length:=(ay3.mp ha).1;have up : ∀ {F F' : Hp} {A A' : List Addr} {a : List (Key × El)} {b : List (Key × V)},Ext F A F' A'->Paired (fun p q=>p.1 = q.1 /\ ElR X.K F A p.2 q.2) a b->Paired (fun p q=>p.1 = q.1 /\ ElR X.K F' A' p.2 q.2) a b:=fun e p=>zg1 (fun _ _ t=>⟨t.1,t.2.ext e⟩) p;obtain ⟨u0,e0,vs0,rfl,pp0⟩:=r1.obj j a _ ha hj;refine gG ?_;clear gG;refine ⟨a,ob,vs0,rfl,e0,fun v hv=>⟨v,a,ob,vs0,rfl,zb3,by rw [za8 (za6 e0 hv)]; exact e0,?_⟩⟩;have r2 : RW X.K F1 A1 W1 (upd H1 v (za70 v a)):=r1.grown (zk0 hv)
  have key : ∀ {F' A' W' H'},Ext F1 A1 F' A'->RW X.K F' A' W' H'->W'[j]? = some (.fK ob (L.map fun p=>(.inr p.1,.d p.2)))->∃ vs,H' a = some (.frz ob (.dK vs)) /\ Paired (fun p q=>p.1 = q.1 /\ ElR X.K F' A' p.2 q.2) (L.map fun p=>(.inr p.1,.d p.2)) vs:=fun x r' hG=>by
   refine za0 fun gG=>?_;obtain ⟨u,e,vs,rfl,p⟩:=r'.obj j a _ (zv4 x.pre ha) hG;refine gG ?_;clear gG;exact ⟨vs,e,p⟩
  refine ⟨fun i μ vs H'=>μ = L.length - i /\ i <= L.length /\ ∃ F' A' W' kvs,Ext F1 A1 F' A' /\ RW X.K F' A' W' H' /\ Paired (fun p q=>p.1 = q.1 /\ ElR X.K F' A' p.2 q.2) kvs vs /\ P i kvs W',⟨L.length,by simp,dy7 _,F1,A1,W1,[],.refl,r2,.nil,p0⟩,?_⟩;intro i μ vs H' gX;refine za0 fun gG=>?_;obtain ⟨rfl,hi,F',A',W',kvs,x,r',z',p⟩:=gX;obtain ⟨g,hz⟩:=hG i kvs W' hi p;refine gG ?_;clear gG;refine ⟨by rw [<- zb2 z']; exact hz,?_⟩;refine za0 fun gG=>?_;obtain ⟨ws,eH,pw⟩:=key x r' g;refine gG ?_;clear gG;have hwl : L.length = ws.length:=by have:=zb2 pw; simpa using this
  by_cases hlt : i < L.length
  ·refine .inr ⟨⟨ws,eH,by omega⟩,fun v H'' hy=>?_⟩;refine za0 fun gG=>?_;obtain ⟨t,qq,rfl,hn',rfl,hget⟩:=hy;obtain ⟨lp,hlp,zd⟩:=zf3 pw (hget ws eH);rw [ay9] at hlp;obtain ⟨l,hl,rfl⟩:=gy8.mp hlp;obtain ⟨r3,e3⟩:=r'.newF hn' (.tup [kV qq.1,qq.2]);refine gG ?_;clear gG;have zt : ElR X.K (upd F' t (.tup [kV qq.1,qq.2])) A' (.d (.tuple [.str l.1,l.2])) (.ref t):=.dd (Rq.tup (SqT.of zb3) (.cons (by rw [<- zd.1]; exact Rq.str l.1) (.cons (Rq.same e3.same _ zd.2) .nil)));have x3:=x.trans e3;have srx:=sr.ext (e1.trans x3);refine hs i l kvs W' hl p _ A' (zc0 O cap σ) _ _ _ r3 srx.cmp zt fun S2 σ2 sr2 h2=>?_;refine ⟨tD X S2 W' _,fun cl C ex s H=>h2 cl C ex s H,_,A',x0.trans (e1.trans x3),r3,sr2,fun F3 A3 W3 H3 kz vk e3' r3' z3 ⟨y,hy,h3⟩=>?_⟩;subst hy;obtain rfl:=Rq.zg9 z3;refine ⟨y,rfl,tD X S2 W3 _,fun cl C ex s H=>h3 cl C ex s H,F3,A3,(x0.trans (e1.trans x3)).trans e3',r3',sr2.ext e3',fun F4 A4 W4 H4 z vz e4 r4 z4 h4=>?_⟩;exact ⟨L.length - (i + 1),by omega,rfl,hlt,F4,A4,W4,zF5 kvs (.inr y) z,(x3.trans e3').trans e4,r4,za63 z4 (up ((e3.trans e3').trans e4) z'),h4⟩
  ·have hie : i = L.length:=by omega
   subst hie
   exact .inl ⟨⟨ws,eH,by omega⟩,fun l hl=>q F' A' W' H' kvs vs l (e1.trans x) r' z' hl (hd kvs W' p)⟩⟩
end
end L2
namespace L2
open PySem PySem.Spec PyProof.Rows
section
variable {X : Bc} {n : Nat} {S : Sl} {W : Wl} {D : DB} {kx vx : Expr} {O Fv : List Str} {cap : List Nat} {scope : Scope} {pos : Pos} {elts : List Expr} {c : Nat} {tp : Pos}
theorem zc09 {o : Expr} {apos cpos : Pos} {i : Nat} {x : Str} {pos' spos : Pos} (hN : X.N.Nodup) (hix : X.N[i]? = some x) (hx : Loc X.env.scope x) (hc : X.calm = true) (cs : zb7 X.N X.env.scope O Fv cap scope)
  (h : BE X S W o fun y W1=>∃ (j : Nat) (ob : Obj) (L : List (Str × PyData)),y = .o j /\ W1[j]? = some (.fK ob (L.map fun p=>(.inr p.1,.d p.2))) /\
   ∃ P : Nat->List (Key × El)->Wl->Prop,P 0 [] W1 /\ (∀ i kvs W',i <= L.length->P i kvs W'->W'[j]? = some (.fK ob (L.map fun p=>(.inr p.1,.d p.2))) /\ kvs.length < by0) /\
    (∀ i p kvs W',L[i]? = some p->P i kvs W'->BGc X (O++Fv) scope O.length (zQ1 O cap S) W' (.Tuple elts c tp) (.d (.tuple [.str p.1,p.2])) fun S2 W2=>BEc X (O++Fv) scope S2 W2 kx fun kz W3=>∃ x : Str,kz = .d (.str x) /\ BEc X (O++Fv) scope S2 W3 vx fun z W4=>P (i + 1) (zF5 kvs (.inr x) z) W4) /\
    ∀ kvs W',P L.length kvs W'->D.nx (S.set i (some (.o W'.length))) (W'++[.dK kvs]))
  (hbase : oy1 o "items" X.env (eval o X.env) = eval o X.env:=by rfl) (hline : (apos.endLine == cpos.line) = true:=by rfl)
  (hsw : swapsWith (.DictComp kx vx [⟨.Tuple elts c tp,.Call (.Attribute o "items" apos) [] [] cpos,[],0⟩] scope pos) (some (.Name x pos')) spos.line X.env = pure true:=by rfl) (hs : ∀ x,ey2 (.Call (.Attribute o "items" apos) [] [] cpos) X.env x = pure x:=by intro _; rfl)
  (hf : X.fn x = true \/ X.env.scope.names.lookup x = some .local:=by first | exact .inl rfl | exact .inr rfl | assumption) : BS X n S W (.Assign [.Name x pos'] (.DictComp kx vx [⟨.Tuple elts c tp,.Call (.Attribute o "items" apos) [] [] cpos,[],0⟩] scope pos) spos) D :=
 .of (zd39 (g:=tUGc X (O++Fv) scope O.length (.Tuple elts c tp)) (tk:=zL9 X (O++Fv) scope kx) (tv:=zL9 X (O++Fv) scope vx) hN hix hx hc cs pi_U (fun cl C ex s H=>fun pins s' σ' H' v u Q I r zR=>by obtain ⟨t,h,_,q⟩:=zR; exact h cl C ex s H pins s' σ' H' v u Q I r q) (fun cl C ex s H=>fun pins s' σ' H' Q I zR=>by obtain ⟨t,h,q⟩:=zR; exact h cl C ex s H pins s' σ' H' Q I q)
  (fun cl C ex s H=>fun pins s' σ' H' Q I zR=>by obtain ⟨t,h,q⟩:=zR; exact h cl C ex s H pins s' σ' H' Q I q) za40 hsw hs hf) fun F A σ H E hn x0 r sr q=>zO9 (k:=fun kvs W'=>D.nx (S.set i (some (.o W'.length))) (W'++[.dK kvs])) h x0.am r sr (fun F' A' W' H' kvs vs p x r' z hp hk=>by
   obtain ⟨r2,y⟩:=r'.newO hp (o:=.dK kvs) (u:=.dK vs) ⟨vs,rfl,z⟩
   exact q.nx _ _ _ _ _ _ ((x.trans y).ex1 hn) r2 ((sr.ext (x.trans y)).set (ElR.oo (k:=W'.length) (by rw [<- r'.len]; simp)) i) hk) hbase hline
end
section
variable {X : Bc} {W : Wl} {k : KB}
end
section
variable {X : Cx}
end
section
variable {X : Bc} {W : Wl} {k : KB}
end
theorem zE9 {W : Wl} {j : Nat} {o o' : OD} (h : W[j]? = some o) : (W.set j o').set j o = W:=by
 rw [List.set_set];refine qy7 fun i=>?_
 by_cases e : j = i
 ·subst e;rw [fy9 (ay3.mp h).1,h]
 ·rw [cy8 e]
theorem get_set {W : Wl} {j i : Nat} {o o' : OD} (h : W[i]? = some o) (hij : j ≠ i) : (W.set j o')[i]? = some o:=by rw [cy8 hij]; exact h
theorem zg7 {W : Wl} {j : Nat} {o o' : OD} (h : W[j]? = some o) : (W.set j o')[j]? = some o':=fy9 (ay3.mp h).1
theorem zc10 {α : Type} {L : List (Str × α)} {g : α->El} (nd : (L.map (·.1)).Nodup) {p : Str × α} (h : p∈L) : valK (L.map fun e=>(.inr e.1,g e.2)) (.inr p.1) = some (g p.2):=by
 unfold valK
 induction L with
 | nil=>simp at h
 | cons a L ih =>
  rw [ey6,ly5] at nd;rw [ey6,hy0];rcases by8.mp h with e | h'
  ·subst e;simp
  ·have : a.1 ≠ p.1:=fun z=>nd.1 (by rw [z]; exact cy4.mpr ⟨p,h',rfl⟩);rw [decide_eq_false (fun z=>this (ty7 z))];exact ih nd.2 h'
theorem zF0 {κ : Type} [DecidableEq κ] {kvs : List (κ × El)} {k : κ} {e : El} (h : ∀ p∈kvs,p.1 ≠ k) : zF5 kvs k e = kvs++[(k,e)]:=by
 unfold zF5;rw [if_neg];intro z;refine za0 fun gG=>?_;obtain ⟨p,hp,hk⟩:=vy7.mp z;refine gG ?_;clear gG;exact h p hp (by simpa using hk)
section
variable {X : Bc} {n : Nat} {S : Sl} {W : Wl} {D : DB} {k : KB} {tg iter elt : Expr} {ifs : List Expr} {O Fv : List Str} {cap : List Nat} {scope : Scope} {pos : Pos}
theorem zP0 {α : Type} {L : List α} {m : Nat} {G : Wl->Prop} {W1 : Wl} {k : List PyData->Wl->Prop} {c : Expr} (g : α->El) (p : α->Bool) (f : α->PyData) (hG : G W1) (hl : L.length <= by0)
  (h : ∀ a∈L,BGc X (O++Fv) scope O.length (zQ1 O cap S) W1 tg (g a) fun S2 W2=>(∀ cl C ex s H,BT (cxB X (O++Fv) scope cl C ex s H) S2 W2 c fun b W3=>b = p a /\ W3 = W1) /\ (p a = true->BEc X (O++Fv) scope S2 W2 elt fun y W4=>y = .d (f a) /\ W4 = W1)) (hk : k ((L.filter p).map f) W1) : KCE X O Fv cap scope S tg elt [c] k m G (L.map g) W1:=by
 refine ⟨fun i ys W'=>W' = W1 /\ ys = ((L.take i).filter p).map f,⟨rfl,rfl⟩,fun i ys W' hi q=>?_,fun i d ys W' hd q=>?_,fun ys W' q=>?_⟩
 ·rw [q.1,q.2];refine ⟨hG,?_⟩;rw [ay5];have:=uy1 p (L.take i);rw [dy3] at this;omega
 ·refine za0 fun gG=>?_;obtain ⟨rfl,rfl⟩:=q;rw [ay9] at hd;obtain ⟨a,ha,rfl⟩:=gy8.mp hd;refine gG ?_;clear gG;refine fun F A σ H v Q r sr z q=>h a (cy3 ha) F A σ H v Q r sr z fun S' σ' sr' hh=>q S' σ' sr' (za41 fun cl C ex s H=>?_);refine BT.mono (hh.1 cl C ex s H) fun b W3 hb=>?_;refine za0 fun gG=>?_;obtain ⟨rfl,rfl⟩:=hb;refine gG ?_;clear gG
  by_cases e : p a = true
  ·rw [if_pos e];refine fun cl C ex s H=>(hh.2 e cl C ex s H).mono fun y W4 hy=>⟨f a,hy.1,hy.2,?_⟩
   rw [ey7,ha,ty4,gy2];simp [e]
  ·rw [if_neg e];refine ⟨rfl,?_⟩;rw [ey7,ha,ty4,gy2];simp [e]
 ·rw [q.1,q.2,ay5,gy0];exact hk
end
theorem zb06 {α β : Type} {f : α->β} : ∀ {l : List α},(l.map f).Nodup->∀ {a b : α},a∈l->b∈l->f a = f b->a = b
 | [],_,_,_,ha,_,_=>by simp at ha
 | c :: l,nd,a,b,ha,hb,h=>by
  rw [ey6,ly5] at nd;have no : ∀ z∈l,f c ≠ f z:=fun z hz e=>nd.1 (cy4.mpr ⟨z,hz,e.symm⟩);rcases by8.mp ha with ea | ha'
  ·rcases by8.mp hb with eb | hb'
   ·rw [ea,eb]
   ·rw [ea] at h; exact absurd h (no b hb')
  ·rcases by8.mp hb with eb | hb'
   ·rw [eb] at h; exact absurd h.symm (no a ha')
   ·exact zb06 nd.2 ha' hb' h
end L2
namespace K1
open PySem L2
def zK5 (d : za7) : List Str:=[d.kd,d.x,d.y,d.w]
theorem zT3 {a b : za7} (h : zK5 a = zK5 b) : a = b:=by
 refine za0 fun gG=>?_;obtain ⟨t,x,y,z⟩:=a;obtain ⟨t',x',y',z'⟩:=b;refine gG ?_;clear gG;simp only [zK5,List.cons.injEq,and_true] at h;refine za0 fun gG=>?_;obtain ⟨h1,h2,h3,h4⟩:=h;refine gG ?_;clear gG
 have : t = t':=by
  cases t <;> cases t' <;> first | rfl | exact absurd h1 zd30 | exact absurd h1.symm zd30
 rw [this,h2,h3,h4]
theorem zT4 (d : za7) : (zK5 d).length = 4:=rfl
def zy2 (V : Str->List za7) (x : Str) (vs : List za7) : Str->List za7:=fun y=>if y = x then vs else V y
inductive Lst : Wd->(Str->List za7)->List za7->Prop
 | nil {f : Wd} {V : Str->List za7} : (∀ x,V x = [])->Lst f V []
 | cons {f : Wd} {V : Str->List za7} {d : za7} {vs out : List za7} : V (handOf d) = d :: vs->zl4 f d = true->(∀ x e es,V x = e :: es->zl4 f e = true->e ≠ d->ltL (zK5 d) (zK5 e) = true)->Lst (zc4 f d) (zy2 V (handOf d) vs) out->Lst f V (d :: out)
theorem Lst.uniq {f : Wd} {V : Str->List za7} {a b : List za7} (h : Lst f V a) (h' : Lst f V b) : a = b:=by
 induction h generalizing b with
 | nil h0 =>
  cases h' with
  | nil _=>rfl
  | cons h1 _ _ _=>rw [h0] at h1; cases h1
 | @cons f V d vs out h1 h2 h3 h4 ih =>
  cases h' with
  | nil h0=>rw [h0] at h1; cases h1
  | @cons _ _ d' vs' out' g1 g2 g3 g4 =>
   by_cases e : d = d'
   ·subst e;rw [h1] at g1;injection g1 with _ e
    subst e;rw [ih g4]
   ·have a1:=h3 _ _ _ g1 g2 (fy4 e);have a2:=g3 _ _ _ h1 h2 e;rw [zT1 (by rw [zT4,zT4]) a1] at a2;cases a2
theorem Lst.goes {f : Wd} {V : Str->List za7} {a : List za7} (h : Lst f V a) : goF f a /\ ∀ x,viewOf x a = V x:=by
 induction h with
 | nil h0=>exact ⟨trivial,fun x=>by rw [h0]; rfl⟩
 | @cons f V d vs out h1 h2 h3 h4 ih =>
  refine ⟨⟨h2,ih.1⟩,fun x=>?_⟩;rw [zc9,ih.2 x];unfold zy2
  by_cases e : handOf d = x
  ·subst e;rw [if_pos rfl,if_pos rfl,h1]
  ·rw [if_neg e,if_neg (fy4 e)]
theorem zp8 {d : za7} : ∀ (B : List za7) {f : Wd} {C : List za7},zl4 f d = true->(∀ b∈B,handOf b ≠ handOf d)->goF f (B++d :: C)->goF f (d :: (B++C))
 | [],f,C,_,_,h=>h
 | b :: B,f,C,hc,hB,h=>by
  have hb:=hB b by2;have ih:=zp8 B (f:=zc4 f b) (C:=C) (zu4 hb hc) (fun z hz=>hB z (by1 _ hz)) h.2;exact zS5 (show goF f (b :: d :: (B++C)) from ⟨h.1,ih⟩) hb hc
theorem zK3 {f : Wd} {V : Str->List za7} {R : List za7} {d : za7} {vs : List za7} (hg : goF f R) (hV : ∀ x,viewOf x R = V x) (h1 : V (handOf d) = d :: vs) (h2 : zl4 f d = true) : ∃ R',goF (zc4 f d) R' /\ (∀ x,viewOf x R' = zy2 V (handOf d) vs x) /\ R'.length + 1 = R.length:=by
 obtain ⟨B,C,rfl,hB⟩:=zp6 (by rw [hV]; exact h1);have:=zp8 B h2 hB hg;refine ⟨B++C,this.2,fun x=>?_,by simp; omega⟩;have hx:=hV x;rw [zd7,zc9] at hx;rw [zd7];unfold zy2
 by_cases e : x = handOf d
 ·subst e;rw [if_pos rfl];rw [if_pos rfl,zh2 hB,h1] at hx;rw [zh2 hB];injection hx
 ·rw [if_neg e];rw [if_neg (fy4 e)] at hx;exact hx
theorem zb07 {f : Wd} {V : Str->List za7} {R : List za7} (hg : goF f R) (hV : ∀ x,viewOf x R = V x) (hne : R ≠ []) : ∃ d vs,V (handOf d) = d :: vs /\ zl4 f d = true:=by
 cases R with
 | nil=>exact absurd rfl hne
 | cons d R=>exact ⟨d,viewOf (handOf d) R,by rw [<- hV,zc9,if_pos rfl],hg.1⟩
theorem zb08 {x : Str} {R : List za7} {d : za7} (h : d∈viewOf x R) : handOf d = x:=by
 unfold viewOf at h;have:=(gy6.mp h).2;simpa using this
theorem zF1 {x : Str} {R : List za7} {d : za7} (h : d∈viewOf x R) : d∈R:=(gy6.mp h).1
structure zp9 (W : Wl) (p : Nat) (ks : List (Str × Nat)) (V : Str->List za7) : Prop where
 at_ : W[p]? = some (.dK (ks.map fun e=>(.inr e.1,El.o e.2)))
 obj : ∀ e∈ks,W[e.2]? = some (.lst (zb6 ((V e.1).map dP)))
 nd : (ks.map (·.1)).Nodup
 ndj : (ks.map (·.2)).Nodup
 np : ∀ e∈ks,e.2 ≠ p
 none_ : ∀ x,x ∉ ks.map (·.1)->V x = []
 hand : ∀ x,∀ d∈V x,handOf d = x
 ok : ∀ x,∀ d∈V x,d.Ok
theorem zp9.frame {W W' : Wl} {p : Nat} {ks : List (Str × Nat)} {V : Str->List za7} (h : zp9 W p ks V) (hp : W'[p]? = W[p]?) (ho : ∀ e∈ks,W'[e.2]? = W[e.2]?) : zp9 W' p ks V :=
 ⟨hp.trans h.at_,fun e he=>(ho e he).trans (h.obj e he),h.nd,h.ndj,h.np,h.none_,h.hand,h.ok⟩
theorem zp9.pop {W : Wl} {p : Nat} {ks : List (Str × Nat)} {V : Str->List za7} (h : zp9 W p ks V) {e : Str × Nat} {d : za7} {vs : List za7} (he : e∈ks) (hv : V e.1 = d :: vs) : zp9 (W.set e.2 (.lst (zb6 (vs.map dP)))) p ks (zy2 V e.1 vs):=by
 refine ⟨get_set h.at_ (h.np e he),fun a ha=>?_,h.nd,h.ndj,h.np,fun x hx=>?_,fun x z hz=>?_,fun x z hz=>?_⟩
 ·unfold zy2
  by_cases e1 : a.1 = e.1
  ·obtain rfl:=zb06 h.nd ha he e1;rw [if_pos rfl];exact zg7 (h.obj a ha)
  ·rw [if_neg e1];exact get_set (h.obj a ha) fun z=>e1 (by rw [zb06 h.ndj he ha z])
 ·unfold zy2;rw [if_neg (fun z=>hx (by rw [z]; exact cy4.mpr ⟨e,he,rfl⟩))];exact h.none_ x hx
 ·unfold zy2 at hz
  by_cases e1 : x = e.1
  ·rw [if_pos e1] at hz;rw [e1];exact h.hand e.1 z (by rw [hv]; exact by1 _ hz)
  ·rw [if_neg e1] at hz;exact h.hand x z hz
 ·unfold zy2 at hz
  by_cases e1 : x = e.1
  ·rw [if_pos e1] at hz;exact h.ok e.1 z (by rw [hv]; exact by1 _ hz)
  ·rw [if_neg e1] at hz;exact h.ok x z hz
theorem zp9.at {W : Wl} {p : Nat} {ks : List (Str × Nat)} {V : Str->List za7} (h : zp9 W p ks V) {x : Str} {d : za7} {vs : List za7} (hv : V x = d :: vs) : ∃ e∈ks,e.1 = x:=by
 by_cases hx : x∈ks.map (·.1)
 ·refine za0 fun gG=>?_;obtain ⟨e,he,z⟩:=cy4.mp hx;refine gG ?_;clear gG;exact ⟨e,he,z⟩
 ·rw [h.none_ x hx] at hv;cases hv
def ze68 : za7:=⟨false, "", "", ""⟩
def hdV (V : Str->List za7) (x : Str) : za7:=(V x).headD ze68
def zy9 (f : Wd) (V : Str->List za7) (x : Str) : Bool:=!(V x).isEmpty && zl4 f (hdV V x)
theorem zm0 {f : Wd} {V : Str->List za7} {x : Str} : zy9 f V x = true ↔ ∃ vs,V x = hdV V x :: vs /\ zl4 f (hdV V x) = true:=by
 unfold zy9 hdV;cases V x with
 | nil=>simp
 | cons d vs=>simp
section
variable {W : Wl} {p : Nat} {ks : List (Str × Nat)} {V : Str->List za7} {f : Wd}
theorem zd46 {α : Type} (x : α->Str) (hand : ∀ x,∀ d∈V x,handOf d = x) (l : List α) (nd : (l.map x).Nodup) : ((l.filter fun e=>zy9 f V (x e)).map fun e=>zK5 (hdV V (x e))).Nodup:=by
 have h1 : l.Pairwise fun a b=>x a ≠ x b:=List.pairwise_map.mp nd;have h2 : (l.filter fun e=>zy9 f V (x e)).Pairwise fun a b=>x a ≠ x b:=h1.sublist List.filter_sublist;refine List.pairwise_map.mpr (h2.imp_of_mem fun {c c'} hx hy hne e=>hne ?_);refine za0 fun gG=>?_;obtain ⟨vs,h3,_⟩:=zm0.mp (gy6.mp hx).2;obtain ⟨ws,h4,_⟩:=zm0.mp (gy6.mp hy).2;refine gG ?_;clear gG;have a:=hand (x c) _ (by rw [h3]; exact by2);have b:=hand (x c') _ (by rw [h4]; exact by2);rw [<- a,<- b,zT3 e]
end
theorem ze5.set {W : Wl} {q : Nat} {L : List Ln} (h : ze5 W q L) {i : Nat} (hi : i ≠ q) (hL : ∀ l∈L,l.j ≠ i) (o : OD) : ze5 (W.set i o) q L :=
 ⟨get_set h.at_ hi,fun e he=>get_set (h.obj e he) (fy4 (hL e he)),h.nd,h.nq⟩
structure LB (W0 W : Wl) (q p r m : Nat) (L : List Ln) (ks : List (Str × Nat)) (f : Wd) (V : Str->List za7) (row : List za7) : Prop where
 la : ze5 W q L
 kn : ze9 L
 sm : zj6 m L
 fs : ∀ x y,zi5 L x y = f x y
 lf : zp9 W p ks V
 rw_ : W[r]? = some (.lst (zb6 (row.map dP)))
 pq : p ≠ q
 rq : r ≠ q
 rp : r ≠ p
 kq : ∀ e∈ks,e.2 ≠ q /\ e.2 ≠ r
 lj : ∀ l∈L,l.j ≠ p /\ l.j ≠ r /\ ∀ e∈ks,l.j ≠ e.2
 hq : W0.length <= q
 hp : W0.length <= p
 hr : W0.length <= r
 hk : ∀ e∈ks,W0.length <= e.2
 hj : ∀ l∈L,W0.length <= l.j
 old : ∀ i,i < W0.length->W[i]? = W0[i]?
 le : W0.length <= W.length
section
variable {W0 W W2 : Wl} {q p r m : Nat} {L L2 : List Ln} {ks : List (Str × Nat)} {f : Wd} {V : Str->List za7} {row : List za7}
theorem zf9 {W : Wl} {i : Nat} {o : OD} (h : W[i]? = some o) : i < W.length:=(ay3.mp h).1
theorem LB.step (h : LB W0 W q p r m L ks f V row) {d : za7} (a : ze5 W2 q L2) (b : ze9 L2) (c : zj6 (m + 1) L2) (s : Step L d L2) (fr : Frame W q L W2) (nj : NewJ W.length L L2) : LB W0 W2 q p r (m + 1) L2 ks (zc4 f d) V row:=by
 have gp : W2[p]? = W[p]?:=fr.2 p (zf9 h.lf.at_) h.pq fun l hl=>(h.lj l hl).1;have gr : W2[r]? = W[r]?:=fr.2 r (zf9 h.rw_) h.rq fun l hl=>(h.lj l hl).2.1;have gk : ∀ e∈ks,W2[e.2]? = W[e.2]?:=fun e he=>fr.2 e.2 (zf9 (h.lf.obj e he)) (h.kq e he).1 fun l hl=>(h.lj l hl).2.2 e he;refine ⟨a,b,c,s.words h.fs,h.lf.frame gp gk,gr.trans h.rw_,h.pq,h.rq,h.rp,h.kq,fun l hl=>?_,h.hq,h.hp,h.hr,h.hk,fun l hl=>?_,fun i hi=>?_,ey0 h.le fr.1⟩
 ·rcases nj l hl with ⟨l0,h0,h1⟩ | h1
  ·rw [<- h1]; exact h.lj l0 h0
  ·have h2:=zf9 h.lf.at_;have h3:=zf9 h.rw_;exact ⟨by omega,by omega,fun e he=>by have:=zf9 (h.lf.obj e he); omega⟩
 ·rcases nj l hl with ⟨l0,h0,h1⟩ | h1
  ·rw [<- h1]; exact h.hj l0 h0
  ·exact ey0 h.le h1
 ·have hq:=h.hq;exact (fr.2 i (by3 hi h.le) (by omega) fun l hl z=>by have:=h.hj l hl; omega).trans (h.old i hi)
theorem zb09 {W0 W : Wl} {i : Nat} {o : OD} (old : ∀ i,i < W0.length->W[i]? = W0[i]?) (hi : W0.length <= i) : ∀ j,j < W0.length->(W.set i o)[j]? = W0[j]?:=fun j hj=>by
 rw [cy8 (by omega)];exact old j hj
theorem LB.pop (h : LB W0 W q p r m L ks f V row) {e : Str × Nat} {d : za7} {vs : List za7} (he : e∈ks) (hv : V e.1 = d :: vs) : LB W0 (W.set e.2 (.lst (zb6 (vs.map dP)))) q p r m L ks f (zy2 V e.1 vs) row :=
 ⟨h.la.set (h.kq e he).1 (fun l hl=>(h.lj l hl).2.2 e he) _,h.kn,h.sm,h.fs,h.lf.pop he hv,get_set h.rw_ (h.kq e he).2,h.pq,h.rq,h.rp,h.kq,h.lj,h.hq,h.hp,h.hr,h.hk,h.hj,zb09 h.old (h.hk e he),by rw [oy5]; exact h.le⟩
theorem LB.push (h : LB W0 W q p r m L ks f V row) (d : za7) : LB W0 (W.set r (.lst (zb6 (row.map dP)++[.d (dP d)]))) q p r m L ks f V (row++[d]) :=
 ⟨h.la.set h.rq (fun l hl=>(h.lj l hl).2.1) _,h.kn,h.sm,h.fs,h.lf.frame (by rw [cy8 h.rp]) (fun e he=>by rw [cy8 (fy4 (h.kq e he).2)]),by rw [zg7 h.rw_,gy2]; simp [zb6],h.pq,h.rq,h.rp,h.kq,h.lj,h.hq,h.hp,h.hr,h.hk,h.hj,zb09 h.old h.hr,by rw [oy5]; exact h.le⟩
theorem LB.app (h : LB W0 W q p r m L ks f V row) : ∃ U,W = W0++U:=⟨W.drop W0.length,by
 refine qy7 fun i=>?_
 by_cases hi : i < W0.length
 ·rw [ay8 hi];exact h.old i hi
 ·rw [cy7 (by omega),List.getElem?_drop]
  congr 1
  omega⟩
end
structure zb10 (K : ay4) (mg : Str->Option Value) (fN fD fC fO fB fH : Addr) (dN dD dC dO dB dH : ey4) : Prop where
 name : Def K mg "is_name" zt3 fN dN ["thing"]
 deed : Def K mg "is_deed" zD9 fD dD ["thing"]
 can : Def K mg "can_be_done" zZ1 fC dC ["lines", "deed"]
 do_ : Def K mg "do_deed" sDo fO dO ["lines", "deed"]
 beh : Def K mg "lines_behind" zl8 fB dB ["row"]
 hand : Def K mg "hand_of" zj7 fH dH ["deed"]
def zd47 : RB:=fun as W k=>∃ (v : Nat) (b R : List za7) (vw : List Str),as = [.d (rP b),.o v] /\ W[v]? = some (.dK ((vw.map fun x=>(x,rP (viewOf x R))).map fun p=>(.inr p.1,.d p.2))) /\ vw.Nodup /\ (∀ d∈b,d.Ok) /\ Goes b /\ goF (zg5 b) R /\ (∀ d∈R,d.Ok) /\ (∀ d∈R,handOf d∈vw) /\ b.length + R.length <= 900 /\ vw.length <= 16 /\
 ∀ out,Lst (zg5 b) (fun x=>viewOf x R) out->k (.d (rP out)) W
abbrev nLb : List Str:=["begun", "views", "lines", "left", "row", "deed"]
theorem scLb : zb5 nLb ["begun", "views"] (za3 zh4):=⟨rfl,rfl,rfl,by decide +kernel,rfl,by decide +kernel,by decide +kernel⟩
theorem ndLb : nLb.Nodup:=by decide +kernel
def cLb1 : Scope:=match za9 zh4 with
 | [_,.Assign _ (.DictComp _ _ _ sc _) _,_,_,_]=>sc
 | _=>zZ2
def cLb2 : Scope:=match za9 zh4 with
 | [_,_,_,.While _ [.Assign _ (.Call _ [.ListComp _ _ sc _] _ _) _,_,_,_] _ _,_]=>sc
 | _=>zZ2
theorem zf59 : zb7 nLb (za3 zh4) ["hand", "deeds"] [] [] cLb1:=⟨rfl,by decide +kernel,by decide +kernel,by decide +kernel,rfl,by decide +kernel⟩
theorem zf60 : zb7 nLb (za3 zh4) ["deeds"] ["lines"] [2] cLb2:=⟨rfl,by decide +kernel,by decide +kernel,by decide +kernel,rfl,by decide +kernel⟩
theorem ze69 : (["hand", "deeds"] : List Str).Nodup:=by decide +kernel
theorem zf61 : (["deeds", "lines"] : List Str).Nodup:=by decide +kernel
theorem ze70 {α : Type} (a : α) (l : List α) : atI (a :: l) 0 = some a:=by simp [atI,ixN]
abbrev lsV (vw : List Str) (R : List za7) : Wl:=vw.map fun x=>OD.lst (zb6 ((viewOf x R).map dP))
theorem zc11 {vw : List Str} {i n : Nat} {x : Str} (h : vw[i]? = some x) : (vw.take (i + 1)).zipIdx n = (vw.take i).zipIdx n++[(x,n + i)]:=by
 have hi : i < vw.length:=(ay3.mp h).1;rw [ey7,h,List.zipIdx_append];simp [dy3,oy6 (ly8 hi)]
theorem zr5 {vw : List Str} {n : Nat} {e : Str × Nat} (h : e∈vw.zipIdx n) : n <= e.2 /\ e.2 < n + vw.length /\ vw[e.2 - n]? = some e.1:=by
 obtain ⟨a,b⟩:=e;have:=List.mem_zipIdx_iff_le_and_getElem?_sub.mp h;exact ⟨this.1,by have:=(ay3.mp this.2).1; simp only; omega,this.2⟩
theorem four {Z ls : Wl} {a b : OD} : (∀ i,i < Z.length->(Z++ls++[a]++[b])[i]? = Z[i]?) /\ (∀ i,i < ls.length->(Z++ls++[a]++[b])[Z.length + i]? = ls[i]?) /\ (Z++ls++[a]++[b])[Z.length + ls.length]? = some a /\ (Z++ls++[a]++[b])[Z.length + ls.length + 1]? = some b:=by
 have e : Z++ls++[a]++[b] = Z++(ls++([a]++[b])):=by simp
 rw [e];refine ⟨fun i hi=>ay8 hi,fun i hi=>?_,?_,?_⟩
 ·rw [cy7 (by omega),ry6,ay8 hi]
 ·rw [cy7 (by omega),ry6,cy7 (ay6 _),Nat.sub_self];rfl
 ·rw [Nat.add_assoc,cy7 (by omega),ry6,cy7 (by omega),ry6];rfl
theorem LB.start {W Z : Wl} {m : Nat} {f : Wd} {L : List Ln} {vw : List Str} {R : List za7} (h : zn8 W W.length m f Z L) (nd : vw.Nodup) (hok : ∀ d∈R,d.Ok) (hin : ∀ d∈R,handOf d∈vw) :
  LB W (Z++lsV vw R++[.dK ((vw.zipIdx Z.length).map fun e=>(.inr e.1,El.o e.2))]++[.lst []]) W.length (Z.length + vw.length) (Z.length + vw.length + 1) m L (vw.zipIdx Z.length) f (fun x=>viewOf x R) []:=by
 have hlq : W.length < Z.length:=zf9 h.at_.at_;refine za0 fun gG=>?_;obtain ⟨f1,f2,f3,f4⟩:=@four Z (lsV vw R) (.dK ((vw.zipIdx Z.length).map fun e=>(.inr e.1,El.o e.2))) (.lst []);refine gG ?_;clear gG;have hls : (lsV vw R).length = vw.length:=ay5 _;rw [hls] at f2 f3 f4;have hln : ∀ l∈L,l.j < Z.length:=fun l hl=>zf9 (h.at_.obj l hl);refine ⟨⟨(f1 _ hlq).trans h.at_.at_,fun e he=>(f1 _ (hln e he)).trans (h.at_.obj e he),h.at_.nd,h.at_.nq⟩,h.ks,h.sm,h.fs,⟨f3,fun e he=>?_,?_,?_,fun e he=>?_,fun x hx=>?_,fun x d hd=>zb08 hd,fun x d hd=>hok d (zF1 hd)⟩,f4,by omega,by omega,by omega,fun e he=>?_,fun l hl=>?_,ay6 _,by omega,by omega,fun e he=>?_,h.js,fun i hi=>?_,?_⟩
 ·refine za0 fun gG=>?_;obtain ⟨h1,h2,h3⟩:=zr5 he;refine gG ?_;clear gG;have:=f2 (e.2 - Z.length) (by omega);rw [show Z.length + (e.2 - Z.length) = e.2 by omega] at this;rw [this,ay9,h3];rfl
 ·rw [List.zipIdx_map_fst]; exact nd
 ·rw [List.zipIdx_map_snd]; exact List.nodup_range'
 ·obtain ⟨h1,h2,h3⟩:=zr5 he; omega
 ·rw [List.zipIdx_map_fst] at hx;exact zh2 fun d hd z=>hx (z ▸ hin d hd)
 ·obtain ⟨h1,h2,h3⟩:=zr5 he; omega
 ·have:=hln l hl;exact ⟨by omega,by omega,fun e he=>by obtain ⟨h1,_,_⟩:=zr5 he; omega⟩
 ·obtain ⟨h1,h2,h3⟩:=zr5 he; omega
 ·exact (f1 i (by omega)).trans (h.old i hi (by omega))
 ·simp only [by5]; omega
section
variable {P : cy6} {w : World} {K : ay4} {mg : Str->Option Value} {base : Heap} {kA : Addr}
abbrev sLb (b : List za7) (v : Nat) (W : Wl) (p : Nat) (r : Nat) (dd : Option El) : Sl:=[some (.d (rP b)),some (.o v),some (.o W.length),some (.o p),some (.o r),dd]
abbrev iLb (b R0 : List za7) (v p r : Nat) (ks : List (Str × Nat)) (W : Wl) : Sl->Wl->Prop:=fun S' W'=>∃ (dd : Option El) (L : List Ln) (row R : List za7) (f : Wd) (V : Str->List za7),S' = sLb b v W p r dd /\ LB W W' W.length p r (b.length + row.length) L ks f V row /\ goF f R /\ (∀ x,viewOf x R = V x) /\ R.length + row.length = R0.length /\ ∀ out,Lst f V out->Lst (zg5 b) (fun x=>viewOf x R0) (row++out)
def lenO : Option OD->Nat
 | some (.lst es)=>es.length
 | _=>0
def muLb (R0 : List za7) (r : Nat) (_ : Sl) (W' : Wl) : Nat:=R0.length + 1 - lenO W'[r]?
set_option maxHeartbeats 1000000 in
theorem zK4 {f fN fD fC fO fB fH : Addr} {fd dN dD dC dO dB dH : ey4} (F : Fun K "least_behind" "least_behind" zh4 f fd) (T : zO2 K mg kA) (D : zb10 K mg fN fD fC fO fB fH dN dD dC dO dB dH) : zj9 P w K mg base CX0 4 f fd ["begun", "views"] (spB K zd47):=by
 have NC:=@zc50 P w K mg base kA _ _ D.can.fn T;have NO:=@ze57 P w K mg base kA _ _ D.do_.fn T;have NB:=@zp4 P w K mg base kA _ _ _ _ _ _ _ _ _ _ D.beh.fn T D.name D.deed D.can D.do_;have NH:=@zJ6 P w K mg base _ _ D.hand.fn;refine zn1 F scLb (fun as W k hR=>by obtain ⟨v,b,R,vw,e,_⟩:=hR; subst e; rfl) fun cc hr as W k hcl hR=>?_;refine exE4 hR fun v b R0 vw qA=>?_;clear hR;refine ze91 qA fun e hv nd hbo hgb hg0 hok hin hlen hvl hk=>?_;clear qA;subst e;have hvW:=zf9 hv;refine za5 (zc2 (i:=2) ndLb rfl (Or.inr rfl) (za4 NB (hr.mono (by decide)) rfl D.beh.at_ D.beh.fn.kp D.beh.bd (za1 (bv 0 rfl ⟨b,rfl,hbo,by omega,hgb,fun U L0 hL0 _=>?_⟩))));obtain ⟨Z,hZ⟩ : ∃ Z,Z = W++U:=⟨_,rfl⟩
 rw [<- hZ] at hL0 ⊢;have hWZ : W.length <= Z.length:=by rw [hZ]; simp
 have hvZ : Z[v]? = some (.dK ((vw.map fun x=>(x,rP (viewOf x R0))).map fun p=>(.inr p.1,.d p.2))):=by rw [hZ,ay8 hvW]; exact hv
 refine za5 (zd44 (j:=v) (mb:=W.length) hvZ (ay6 _) hvW hWZ fun ob=>zc09 (i:=3) ndLb rfl (Or.inl rfl) rfl zf59 (bv 1 rfl ⟨v,ob,_,rfl,zg7 hvZ,fun i kvs W'=>W' = Z.set v (.fK ob ((vw.map fun x=>(x,rP (viewOf x R0))).map fun p=>(.inr p.1,.d p.2)))++lsV (vw.take i) R0 /\ kvs = ((vw.take i).zipIdx Z.length).map fun e=>(.inr e.1,El.o e.2),⟨by simp,rfl⟩,?_,?_,?_⟩))
 ·intro i kvs W' hi gX;refine za0 fun gG=>?_;obtain ⟨rfl,rfl⟩:=gX;refine gG ?_;clear gG;refine ⟨?_,?_⟩
  ·rw [ay8 (by rw [oy5]; omega)];exact zg7 hvZ
  ·rw [ay5,List.length_zipIdx,dy3];exact ny5 (show _ <= 16 by omega) (by3 (show 16 < 17 by decide) (zc1 (by decide)))
 ·intro i p kvs W' hp gX;refine za0 fun gG=>?_;obtain ⟨rfl,rfl⟩:=gX;rw [ay9] at hp;obtain ⟨x,hx,rfl⟩:=gy8.mp hp;refine gG ?_;clear gG;have hil:=(ay3.mp hx).1;refine zc94 rfl (fun _ _ _ _ _=>.cons (i:=0) ze69 rfl (Or.inl rfl) (.cons (i:=1) ze69 rfl (Or.inl rfl) .nil)) (by decide) rfl fun cl C ex s H=>?_;refine bv 0 rfl ⟨x,rfl,fun cl C ex s H=>zj1 rfl T.t.list_ za73 (za1 (bv 1 rfl (za37 ⟨?_,?_⟩)))⟩
  ·rw [ey7,hx];simp [lsV]
  ·rw [zF0,zc11 hx,gy2]
   ·simp only [by5,oy5,ay5,dy3,oy6 (ly8 hil)];rfl
   ·intro p hp z;refine za0 fun gG=>?_;obtain ⟨e,he,rfl⟩:=cy4.mp hp;obtain ⟨h1,h2,h3⟩:=zr5 he;have z : e.1 = x:=ty7 z;rw [z] at h3;have h4:=ay3.mp h3;obtain ⟨l4,e4⟩:=h4;rw [List.getElem_take] at e4;obtain ⟨l5,e5⟩:=ay3.mp hx;refine gG ?_;clear gG;have:=(jy8 nd).mp (e4.trans e5.symm);rw [dy3] at l4;omega
 ·intro kvs W' gX;refine za0 fun gG=>?_;obtain ⟨rfl,rfl⟩:=gX;refine gG ?_;clear gG;rw [ay5,gy0]
  have eZ : (Z.set v (.fK ob ((vw.map fun x=>(x,rP (viewOf x R0))).map fun p=>(.inr p.1,.d p.2)))++lsV vw R0++[OD.dK ((vw.zipIdx Z.length).map fun e=>(.inr e.1,El.o e.2))]).set v (.dK ((vw.map fun x=>(x,rP (viewOf x R0))).map fun p=>(.inr p.1,.d p.2))) = Z++lsV vw R0++[OD.dK ((vw.zipIdx Z.length).map fun e=>(.inr e.1,El.o e.2))]:=by
   rw [ky2,List.set_append_left _ _ (by rw [oy5]; omega),zE9 hvZ,ky2]
  refine ⟨?_,?_⟩
  ·rw [ky2,ay8 (by rw [oy5]; omega)];exact zg7 hvZ
  rw [eZ];have e1 : (Z.set v (.fK ob ((vw.map fun x=>(x,rP (viewOf x R0))).map fun p=>(.inr p.1,.d p.2)))++lsV vw R0).length = Z.length + vw.length:=by simp
  have e2 : (Z++lsV vw R0++[OD.dK ((vw.zipIdx Z.length).map fun e=>(.inr e.1,El.o e.2))]).length = Z.length + vw.length + 1:=by simp; omega
  rw [e1];refine za5 (zc2 (i:=4) ndLb rfl (Or.inl rfl) (zq6 (zi9 ⟨dy7 _,?_⟩)));rw [e2];have st:=LB.start hL0 nd hok hin;generalize Z++lsV vw R0++[OD.dK ((vw.zipIdx Z.length).map fun e=>(.inr e.1,El.o e.2))]++[OD.lst []] = W1 at st ⊢;obtain ⟨ks,hks⟩ : ∃ ks,ks = vw.zipIdx Z.length:=⟨_,rfl⟩
  have hkl : ks.length <= 16:=by rw [hks,List.length_zipIdx]; exact hvl
  rw [<- hks] at st;generalize hp : Z.length + vw.length = p at st ⊢;generalize hrr : p + 1 = r at st ⊢;clear e1 e2 eZ;refine za5 (zb52 (iLb b R0 v p r ks W) (muLb R0 r) jy7 ⟨none,L0,[],R0,zg5 b,fun x=>viewOf x R0,rfl,st,hg0,fun _=>rfl,by simp,fun out h=>h⟩ ?_);intro S' W' gX;refine exE6 gX fun dd L row R f' V qA=>?_;clear gX;refine anE6 qA fun qe0 lb hg hV hRl hL=>?_;clear qA;subst qe0;refine zg2 (zb00 lb.lf.at_ fun o=>zd45 rfl rfl T.t.any_ zf37 (bv 3 rfl ⟨p,o,_,ks.map fun e=>!(V e.1).isEmpty,rfl,zg7 lb.lf.at_,?_,zg7 lb.lf.at_,_,rfl,?_⟩))
  ·have : ∀ l : List (Str × Nat),(∀ e∈l,e∈ks)->Paired (fun (e : Key × El) (b : Bool)=>∃ i es,e.2 = .o i /\ (W'.set p (.fK o (ks.map fun e=>(.inr e.1,El.o e.2))))[i]? = some (.lst es) /\ b = !es.isEmpty) (l.map fun e=>(.inr e.1,El.o e.2)) (l.map fun e=>!(V e.1).isEmpty):=by
    intro l
    induction l with
    | nil=>intro _; exact .nil
    | cons e l ih =>
     intro hl;refine .cons ⟨e.2,_,rfl,get_set (lb.lf.obj e (hl e by2)) (fy4 (lb.lf.np e (hl e by2))),?_⟩ (ih fun z hz=>hl z (by1 _ hz));show (!(V e.1).isEmpty) = _;cases V e.1 <;> rfl
   exact this ks fun _ h=>h
  rw [zE9 lb.lf.at_];cases hany : (ks.map fun e=>!(V e.1).isEmpty).any id with
  | false =>
   refine zk6 ?_
   have hnil : ∀ x,V x = []:=fun x=>by
    cases hx : V x with
    | nil=>rfl
    | cons d vs =>
     refine za0 fun gG=>?_;obtain ⟨e,he,rfl⟩:=lb.lf.at hx;refine gG ?_;clear gG;have:=List.any_eq_false.mp hany (!(V e.1).isEmpty) (cy4.mpr ⟨e,he,rfl⟩);rw [hx] at this;exact absurd rfl this
   have hout:=hL [] (.nil hnil);rw [wy5] at hout;refine za0 fun gG=>?_;obtain ⟨U',rfl⟩:=lb.app;refine gG ?_;clear gG;exact zb1 (zf5 (zj1 rfl T.t.tuple_ zn7 (za1 (bv 4 rfl (zv8 (.inr ⟨_,rfl,lb.rw_⟩) ⟨_,W,U',rfl,rfl,rfl,hcl,hk row hout⟩)))))
  | true =>
   refine zy3 ?_
   have hRne : R ≠ []:=fun z=>by
    subst z;refine za0 fun gG=>?_;obtain ⟨b',hb',hb2⟩:=vy7.mp hany;obtain ⟨e,he,rfl⟩:=cy4.mp hb';refine gG ?_;clear gG;rw [<- hV e.1] at hb2;simp [viewOf] at hb2
   have hrl : row.length < R0.length:=by
    have:=List.length_pos_iff.mpr hRne;omega
   refine za5 (zc2 (i:=5) ndLb rfl (Or.inl rfl) (zb00 lb.lf.at_ fun o=>zd0 rfl T.t.min_ zf38 (za1 (zc08 rfl zf60 (zc06 (bv 3 rfl ⟨p,o,_,rfl,zg7 lb.lf.at_,?_⟩))))));rw [gy1];refine zP0 _ (fun e=>zy9 f' V e.1) (fun e=>dP (hdV V e.1)) (zg7 lb.lf.at_) (zc1 (by omega)) ?_ ?_
   ·intro e he;have hob:=get_set (o':=.fK o (ks.map fun e=>(.inr e.1,El.o e.2))) (lb.lf.obj e he) (fy4 (lb.lf.np e he));refine zg4 (i:=0) zf61 rfl (by decide) (fun _ _ _ _ _=>Or.inl rfl) (fun _ _ _ _ _=>rfl) ?_;cases hve : V e.1 with
    | nil =>
     have hfr : zy9 f' V e.1 = false:=by unfold zy9; rw [hve]; rfl
     rw [hve] at hob;refine ⟨fun cl C ex s H=>BW.bt (zH0 (zc42 (bv 0 rfl ⟨.list [],.inr ⟨_,rfl,.inr ⟨_,rfl,hob⟩⟩,(by intro y h; cases h),?_⟩))),fun h=>?_⟩
     ·exact zk6 ⟨hfr.symm,rfl⟩
     ·rw [hfr] at h; cases h
    | cons d vs =>
     have hhd : hdV V e.1 = d:=by unfold hdV; rw [hve]; rfl
     have hfr : zy9 f' V e.1 = zl4 f' d:=by unfold zy9; rw [hhd,hve]; rfl
     rw [hve] at hob;have hdok : d.Ok:=lb.lf.ok e.1 d (by rw [hve]; exact by2);refine ⟨fun cl C ex s H=>BW.bt (zH0 (zc42 (bv 0 rfl ⟨.list ((d :: vs).map dP),.inr ⟨_,rfl,.inr ⟨_,rfl,hob⟩⟩,(by intro y h; cases h),?_⟩))),fun h cl C ex s H=>?_⟩
     ·refine zy3 (zB5 (zg2 (za4 NC (hr.mono (by decide)) rfl D.can.at_ D.can.fn.kp D.can.bd (za2 (bv 1 rfl (za1 (zf0 (by intro _ _; rfl) (bv 0 rfl (zb0 (zz5 (e:=.d (dP d)) hob (ze70 _ _) ⟨W.length,d,L,rfl,hdok,lb.la.set lb.pq (fun l hl=>(lb.lj l hl).1) _,lb.sm.sok,_,rfl,?_,rfl⟩))))))))));rw [lb.fs,hfr];rfl
     ·refine zf0 (by intro _ _; rfl) (bv 0 rfl (zb0 (zz5 (e:=.d (dP d)) hob (ze70 _ _) ⟨?_,rfl⟩)));rw [hhd]
   ·have hne : ks.filter (fun e=>zy9 f' V e.1) ≠ []:=by
     refine za0 fun gG=>?_;obtain ⟨d,vs,h1,h2⟩:=zb07 hg hV hRne;obtain ⟨e,he,hex⟩:=lb.lf.at h1;refine gG ?_;clear gG;refine List.ne_nil_of_mem (a:=e) (gy6.mpr ⟨he,?_⟩);refine zm0.mpr ⟨vs,?_,?_⟩
     ·unfold hdV; rw [hex,h1]; rfl
     ·unfold hdV; rw [hex,h1]; exact h2
    refine zd41 rfl hr.units (m:=4) (fun e=>zK5 (hdV V e.1)) (fun e=>dP (hdV V e.1)) (fun a _=>rfl) (.inl rfl) (zd46 (·.1) lb.lf.hand ks lb.lf.nd) hne (fun _ _=>rfl) fun a ha hmin=>⟨zg7 lb.lf.at_,?_⟩
    rw [zE9 lb.lf.at_];refine za0 fun gG=>?_;obtain ⟨ha1,ha2⟩:=gy6.mp ha;obtain ⟨vs,hva,hca⟩:=zm0.mp ha2;refine gG ?_;clear gG;generalize hd : hdV V a.1 = d at hva hca hmin ⊢;have hhand : handOf d = a.1:=lb.lf.hand a.1 d (by rw [hva]; exact by2);have hdok : d.Ok:=lb.lf.ok a.1 d (by rw [hva]; exact by2);refine za5 (ze1 (za4 NO (hr.mono (by decide)) rfl D.do_.at_ D.do_.fn.kp D.do_.bd (za2 (bv 2 rfl (za1 (bv 5 rfl ⟨W.length,d,L,b.length + row.length,rfl,hdok,lb.la,lb.kn,lb.sm,by omega,fun ht=>by rw [lb.fs]; exact zc51 hca ht,fun W2 L2 a1 b1 c1 st1 fr nj=>?_⟩))))));have lb2:=lb.step a1 b1 c1 st1 fr nj;have hob2 : W2[a.2]? = some (.lst (.d (dP d) :: zb6 (vs.map dP))):=by rw [lb2.lf.obj a ha1,hva]; rfl
    refine za5 (ze1 (zm5 fy5 PySem.F.slot_list_pop PySem.F.type_list_pop (zf0 (by intro _ _; rfl) (bv 3 rfl (za4 NH (hr.mono (by decide)) rfl D.hand.at_ D.hand.fn.kp D.hand.bd (za1 (bv 5 rfl ⟨d,rfl,zf32 (e:=.o a.2) hr.units lb2.lf.at_ ?_ ⟨.inl ⟨rfl,_,hob2⟩,za1 (zb0 (za38 hob2 ?_))⟩⟩)))))))
    ·rw [hhand]; exact zc10 (g:=El.o) lb2.lf.nd ha1
    have lb3:=lb2.pop ha1 hva;refine zb1 (ze1 (zm5 fy5 ly1 ly2 (bv 4 rfl ⟨.inl ⟨rfl,_,lb3.rw_⟩,za1 (bv 5 rfl (zk2 lb3.rw_ ?_ ?_))⟩)))
    ·simp only [zb6,ay5];exact ny5 (show _ <= 900 by omega) (by3 (show 900 < 901 by decide) (zc1 (by decide)))
    have lb4:=lb3.push d;obtain ⟨R',g1,g2,g3⟩:=zK3 hg hV (by rw [hhand]; exact hva) hca;refine ⟨⟨_,L2,row++[d],R',zc4 f' d,zy2 V a.1 vs,rfl,?_,g1,?_,?_,fun out ho=>?_⟩,?_⟩
    ·rw [by5,<- Nat.add_assoc]; exact lb4
    ·intro x; rw [g2,hhand]
    ·rw [by5]; simp only [List.length_singleton]; omega
    ·have:=hL (d :: out) (.cons (vs:=vs) (by rw [hhand]; exact hva) hca ?_ (by rw [hhand]; exact ho))
     ·rw [ky2]; exact this
     ·intro x e es hx hce hne';refine za0 fun gG=>?_;obtain ⟨c,hc,rfl⟩:=lb.lf.at hx;refine gG ?_;clear gG;have hhd : hdV V c.1 = e:=by unfold hdV; rw [hx]; rfl
      have:=hmin c (gy6.mpr ⟨hc,zm0.mpr ⟨es,by rw [hhd]; exact hx,by rw [hhd]; exact hce⟩⟩) (by rw [hhd]; exact fun z=>hne' (zT3 z));rw [hhd] at this;exact this
    ·unfold muLb;rw [lb4.rw_,lb.rw_];simp only [lenO,zb6,ay5,by5,List.length_singleton];exact Nat.sub_lt_sub_left (vy0 hrl) (ny8 _)
end
end K1
namespace L2
open PySem PySem.Spec PyProof.Rows
end L2
namespace K1
open PySem L2
theorem zF2 {d : za7} {ds : List za7} (h : d∈ds) : handOf d∈zE5 ds:=by
 unfold zE5;refine sy2.mpr ⟨d,h,?_⟩;unfold handOf
 split <;> simp
section
variable {P : cy6} {w : World} {K : ay4} {mg : Str->Option Value} {base : Heap} {kA : Addr}
def zd48 : RB:=fun as W k=>∃ (hs : List Str) (ds : List za7),as = [.d (rP ds)] /\ zc7 hs ds /\ hs.length <= 8 /\ ds.length <= 400 /\ Goes ds /\ ∀ out,Lst (fun _ _=>[]) (fun x=>viewOf x ds) out->k (.d (rP out)) W
theorem scLr : zb5 ["row"] ["row"] (za3 zf8):=⟨rfl,rfl,rfl,by decide +kernel,rfl,by decide +kernel,by decide +kernel⟩
def cLr : Scope:=match za9 zf8 with
 | [_,.Return (some (.Call _ [_,.DictComp _ _ _ sc _] _ _)) _]=>sc
 | _=>zZ2
theorem csLr : zb7 ["row"] (za3 zf8) ["hand"] ["row"] [0] cLr:=⟨rfl,by decide +kernel,by decide +kernel,by decide +kernel,rfl,by decide +kernel⟩
theorem ndLr : (["hand", "row"] : List Str).Nodup:=by decide +kernel
set_option maxHeartbeats 1000000 in
theorem zb11 {f fN fD fC fO fB fH fS fV fL : Addr} {fd dN dD dC dO dB dH dS dV dL : ey4} (F : Fun K "least_row" "least_row" zf8 f fd) (T : zO2 K mg kA) (D : zb10 K mg fN fD fC fO fB fH dN dD dC dO dB dH) (DS : Def K mg "hands_of" zf7 fS dS ["row"]) (DV : Def K mg "view" zt4 fV dV nVi) (DL : Def K mg "least_behind" zh4 fL dL ["begun", "views"]) : zj9 P w K mg base CX0 5 f fd ["row"] (spB K zd48):=by
 have NB:=@zp4 P w K mg base kA _ _ _ _ _ _ _ _ _ _ D.beh.fn T D.name D.deed D.can D.do_;have NS:=@zm4 P w K mg base _ _ DS.fn T.t;have NV:=@zO4 P w K mg base _ _ _ _ DV.fn T.t D.hand;have NL:=zK4 (P:=P) (w:=w) (base:=base) DL.fn T D;refine zn1 F scLr (fun as W k hR=>by obtain ⟨hs,ds,e,_⟩:=hR; subst e; rfl) fun cc hr as W k hcl hR=>?_;refine exE2 hR fun hs ds qA=>?_;clear hR;refine anE6 qA fun e hrow hh hl hgo hk=>?_;clear qA;subst e;obtain ⟨o1,o2⟩:=zp5 hrow hh;refine za5 (ze1 (za4 NB (hr.mono (by decide)) rfl D.beh.at_ D.beh.fn.kp D.beh.bd (za1 (bv 0 rfl ⟨ds,rfl,hrow.ok,by omega,hgo,fun U L0 hL0 _=>?_⟩))));refine zb1 (zf5 (za4 NL (hr.mono (by decide)) rfl DL.at_ DL.fn.kp DL.bd (za2 (zk1 (zi9 ⟨[],rfl,dy7 _,za1 (zS9 rfl csLr (zw1 (za4 NS (hr.mono (by decide)) rfl DS.at_ DS.fn.kp DS.bd (za1 (bv 0 rfl ⟨hs,ds,rfl,hrow,hh,by omega,fun ss pm so=>⟨ss.map .str,rfl,?_⟩⟩)))))⟩)))));have hsl : ss.length <= 8:=by rw [pm.length_eq]; exact o1
 have hsn : ss.Nodup:=pm.nodup_iff.mpr (zC6 _);refine ⟨fun i kvs W'=>W' = W++U /\ kvs = ((ss.take i).map fun x=>(x,rP (viewOf x ds))).map fun p=>(.inr p.1,.d p.2),⟨rfl,rfl⟩,?_,?_,?_⟩
 ·intro i kvs W' hi gX;refine za0 fun gG=>?_;obtain ⟨rfl,rfl⟩:=gX;refine gG ?_;clear gG;refine ⟨trivial,?_⟩;rw [ay5,ay5,dy3];exact ny5 (show _ <= 8 by omega) (by3 (show 8 < 9 by decide) (zc1 (by decide)))
 ·intro i z kvs W' hz gX;refine za0 fun gG=>?_;obtain ⟨rfl,rfl⟩:=gX;rw [ay9] at hz;obtain ⟨x,hx,rfl⟩:=gy8.mp hz;refine gG ?_;clear gG;refine zg4 (i:=0) ndLr rfl (by decide) (fun _ _ _ _ _=>Or.inl rfl) (fun _ _ _ _ _=>rfl) fun cl C ex s H=>?_;refine bv 0 rfl ⟨x,rfl,fun cl C ex s H=>za4 NV (hr.mono (by decide)) rfl DV.at_ DV.fn.kp DV.bd (za2 (bv 1 rfl (za1 (bv 0 rfl ⟨x,ds,rfl,by omega,rfl,?_⟩))))⟩;rw [zF0,ey7,hx]
  ·simp
  ·intro p hp z;refine za0 fun gG=>?_;obtain ⟨e,he,rfl⟩:=cy4.mp hp;obtain ⟨y,hy,rfl⟩:=cy4.mp he;have z : y = x:=ty7 z;obtain ⟨j,hj,hyj⟩:=vy2.mp hy;rw [List.getElem_take] at hyj;obtain ⟨l5,e5⟩:=ay3.mp hx;refine gG ?_;clear gG;have:=(jy8 hsn).mp ((hyj.trans z).trans e5.symm);rw [dy3] at hj;omega
 ·intro kvs W' gX;refine za0 fun gG=>?_;obtain ⟨rfl,rfl⟩:=gX;refine gG ?_;clear gG;rw [ay5,gy0];refine ⟨(W++U).length,[],ds,ss,rfl,zd6,hsn,by simp,fun i d h=>by simp at h,(zg6 ds).mp hgo,hrow.ok,fun d hd=>pm.mem_iff.mpr (zh0.mpr (zF2 hd)),by simp; omega,by omega,fun out ho=>⟨_,W,U++[_],rfl,by rw [ky2],rfl,hcl,hk out ho⟩⟩
end
end K1
namespace L2
open PySem PySem.Spec PyProof.Rows
section
variable {X : Bc} {n : Nat} {S : Sl} {W : Wl} {D : DB}
theorem zd49 {body : List Stmt} {hd : ExceptHandler} {pos : Pos} (h : ∀ (X' : Bc) pn F A,X' = ⟨X.toCx.tryB pn (fun _ _=>False),F,A,fun _ _ _=>False⟩->BSs X' n S W body D) : BS X n S W (.Try body [hd] [] [] pos) D:=by
 intro pins s σ H E I ⟨F,A,hn,x0,r,sr,q⟩;have htl : (A.take n).length = n:=by rw [dy3]; omega
 refine wpAny_Try_except ?_;have hb:=h ⟨X.toCx.tryB (X.pn++pins) (fun _ _=>False),F,A.take n,fun _ _ _=>False⟩ (X.pn++pins) F (A.take n) rfl;refine fy2 (hb [] s σ H E I.tryB ⟨F,A,hn,⟨⟨.refl _,ry8 _ _⟩,by rw [htl]; exact ay6 _⟩,r,sr,q⟩) (fun f s1 hf=>?_) (fun e s1 hf=>hf.elim);have hf1 : SP X pins E f s1:=SP.zs6 (xe:=fun _ _=>False) hf;cases f with
 | next=>exact wpAny_execs_nil hf1
 | brk=>exact hf1
 | cont=>exact hf1
 | ret v=>exact hf1
end
end L2
namespace K1
open PySem L2
def Beg (a b : List za7) : Prop:=∀ x,(viewOf x b).take (viewOf x a).length = viewOf x a
structure Left (a b R : List za7) : Prop where
 go : goF (zg5 a) R
 view : ∀ x,viewOf x b = viewOf x a++viewOf x R
 len : a.length + R.length = b.length
 sub : ∀ d∈R,d∈b
theorem zT5 : ∀ (a b : List za7) (f : Wd),goF f a->goF f b->(∀ x,∃ t,viewOf x b = viewOf x a++t)->∃ R,goF (a.foldl zc4 f) R /\ (∀ x,viewOf x b = viewOf x a++viewOf x R) /\ a.length + R.length = b.length /\ ∀ d∈R,d∈b
 | [],b,f,_,hb,_=>⟨b,hb,fun x=>rfl,by simp,fun d h=>h⟩
 | d :: a,b,f,ha,hb,hp=>by
  refine za0 fun gG=>?_;obtain ⟨t,ht⟩:=hp (handOf d);rw [zc9,if_pos rfl] at ht;obtain ⟨B,C,rfl,hB⟩:=zp6 ht;have hg:=zp8 B ha.1 hB hb
  have key : ∀ x,viewOf x (B++d :: C) = viewOf x (d :: (B++C)):=fun x=>by
   rw [zd7,zc9,zc9,zd7]
   by_cases e : handOf d = x
   ·rw [if_pos e,if_pos e,zh2 (fun b hb=>by rw [<- e]; exact hB b hb)];rfl
   ·rw [if_neg e,if_neg e]
  obtain ⟨R,h1,h2,h3,h4⟩:=zT5 a (B++C) (zc4 f d) ha.2 hg.2 fun x=>by
   obtain ⟨t,ht⟩:=hp x;rw [key,zc9,zc9] at ht
   by_cases e : handOf d = x
   ·rw [if_pos e,if_pos e] at ht;injection ht with _ ht
    exact ⟨t,ht⟩
   ·rw [if_neg e,if_neg e] at ht;exact ⟨t,ht⟩
  refine gG ?_;clear gG;refine ⟨R,h1,fun x=>?_,?_,fun z hz=>?_⟩
  ·rw [key,zc9,zc9,h2]
   by_cases e : handOf d = x
   ·rw [if_pos e,if_pos e]; rfl
   ·rw [if_neg e,if_neg e]
  ·simp at h3 ⊢; omega
  ·have:=h4 z hz;simp at this ⊢;rcases this with h | h
   ·exact .inl h
   ·exact .inr (.inr h)
theorem zc12 {a b : List za7} (ha : Goes a) (hb : Goes b) (h : Beg a b) : ∃ R,Left a b R:=by
 have hp : ∀ x,∃ t,viewOf x b = viewOf x a++t:=fun x=>by
  have:=py4 (viewOf x a).length (viewOf x b);rw [h x] at this;exact ⟨_,this.symm⟩
 refine za0 fun gG=>?_;obtain ⟨R,h1,h2,h3,h4⟩:=zT5 a b _ ((zg6 a).mp ha) ((zg6 b).mp hb) hp;refine gG ?_;clear gG;exact ⟨R,h1,h2,h3,h4⟩
theorem Left.drop {a b R : List za7} (h : Left a b R) (x : Str) : (viewOf x b).take (viewOf x a).length = viewOf x a /\ (viewOf x b).drop (viewOf x a).length = viewOf x R:=by
 rw [h.view x];exact ⟨sy6,List.drop_left⟩
theorem zd50 {a b : List za7} {ss : List Str} (h : ∀ d∈a,handOf d∈ss) : Beg a b ↔ ∀ x∈ss,(viewOf x b).take (viewOf x a).length = viewOf x a:=by
 refine ⟨fun z x _=>z x,fun z x=>?_⟩
 by_cases hx : x∈ss
 ·exact z x hx
 ·have : viewOf x a = []:=zh2 fun d hd e=>hx (e ▸ h d hd);rw [this]; rfl
section
variable {P : cy6} {w : World} {K : ay4} {mg : Str->Option Value} {base : Heap} {kA : Addr}
def ze71 : RB:=fun as W k=>∃ ds : List za7,as = [.d (rP ds)] /\ (∀ d∈ds,d.Ok) /\ ds.length <= 900 /\ Goes ds /\ k (.d (.bool true)) W
theorem scCg : zb5 ["thing"] ["thing"] (za3 zs8):=⟨rfl,rfl,rfl,by decide +kernel,rfl,by decide +kernel,by decide +kernel⟩
theorem zT6 {f fN fD fC fO fB fH : Addr} {fd dN dD dC dO dB dH : ey4} (F : Fun K "can_go" "can_go" zs8 f fd) (T : zO2 K mg kA) (D : zb10 K mg fN fD fC fO fB fH dN dD dC dO dB dH) : zj9 P w K mg base CX0 4 f fd ["thing"] (spB K ze71):=by
 have N:=@zp4 P w K mg base kA _ _ _ _ _ _ _ _ _ _ D.beh.fn T D.name D.deed D.can D.do_;refine zn1 F scCg (fun as W k hR=>by obtain ⟨ds,e,_⟩:=hR; subst e; rfl) fun cc hr as W k hcl hR=>?_;refine za0 fun gG=>?_;obtain ⟨ds,e,hok,hl,hgo,hk⟩:=hR;subst e;refine gG ?_;clear gG;refine za5 (zd49 fun X' pn F1 A1 eX=>?_);subst eX;refine zb1 (ze1 (za4 N (hr.mono (by decide)) rfl D.beh.at_ D.beh.fn.kp D.beh.bd (za1 (bv 0 rfl ⟨ds,rfl,hok,hl,hgo,fun V L0 hL0 _=>?_⟩))));exact zb1 (zf5 (za25 ⟨_,W,V,rfl,rfl,rfl,hcl,hk⟩))
def zf62 : RB:=fun as W k=>∃ (hs : List Str) (a b : List za7) (x : Str),as = [.d (rP a),.d (rP b),.d (.str x)] /\ zc7 hs a /\ zc7 hs b /\ a.length <= 400 /\ b.length <= 400 /\ ((viewOf x b).take (viewOf x a).length = viewOf x a->k (.d (rP ((viewOf x b).drop (viewOf x a).length))) W) /\ ((viewOf x b).take (viewOf x a).length ≠ viewOf x a->k (.d .none) W)
abbrev pLo : List Str:=["row", "other", "hand"]
abbrev nLo : List Str:=["row", "other", "hand", "begun", "whole"]
theorem scLo : zb5 nLo pLo (za3 zN5):=⟨rfl,rfl,rfl,by decide +kernel,rfl,by decide +kernel,by decide +kernel⟩
theorem ndLo : nLo.Nodup:=by decide +kernel
theorem zb12 {f fV fH : Addr} {fd dV dH : ey4} (F : Fun K "left_of" "left_of" zN5 f fd) (T : Txt mg) (DV : Def K mg "view" zt4 fV dV nVi) (DH : Def K mg "hand_of" zj7 fH dH ["deed"]) : zj9 P w K mg base CX0 3 f fd pLo (spB K zf62):=by
 have NV:=@zO4 P w K mg base _ _ _ _ DV.fn T DH;refine zn1 F scLo (fun as W k hR=>by obtain ⟨hs,a,b,x,e,_⟩:=hR; subst e; rfl) fun cc hr as W k hcl hR=>?_;refine exE4 hR fun hs a b x qA=>?_;clear hR;refine anE7 qA fun e ha hb hal hbl hk1 hk2=>?_;clear qA;subst e;refine za5 (zc2 (i:=3) ndLo rfl (Or.inl rfl) (za4 NV (hr.mono (by decide)) rfl DV.at_ DV.fn.kp DV.bd (za2 (bv 0 rfl (za1 (bv 2 rfl ⟨x,a,rfl,by omega,?_⟩))))));refine za5 (zc2 (i:=4) ndLo rfl (Or.inl rfl) (za4 NV (hr.mono (by decide)) rfl DV.at_ DV.fn.kp DV.bd (za2 (bv 1 rfl (za1 (bv 2 rfl ⟨x,b,rfl,by omega,?_⟩))))));have e1 : ((viewOf x b).map dP).take ((viewOf x a).map dP).length = ((viewOf x b).take (viewOf x a).length).map dP:=by rw [ay5,ry4]
 have e2 : ((viewOf x b).map dP).drop ((viewOf x a).map dP).length = ((viewOf x b).drop (viewOf x a).length).map dP:=by rw [ay5,List.map_drop]
 refine za5 (zh7 (zd5 rfl (ze0 (bv 4 rfl (zh3 (zd9 (zd0 rfl T.len_ zt5 (za1 (bv 3 rfl (zq8 ⟨_,rfl,zv6 (bv 3 rfl ?_)⟩))))))))));rw [zs7,e1];refine za32 hr.units (d:=rP ((viewOf x b).take (viewOf x a).length)) (e:=rP (viewOf x a)) (.inl rfl) (.inl rfl) (zV4 fun d hd=>zE7 hb x d (ky4 hd)) (zV4 (zE7 ha x)) ⟨_,rfl,?_⟩;rw [zc98]
 by_cases h : (viewOf x b).take (viewOf x a).length = viewOf x a
 ·rw [decide_eq_true h];refine zk6 (zf4 (zb1 (zf2 (ze0 (bv 4 rfl (zd9 (zd0 rfl T.len_ zt5 (za1 (bv 3 rfl (zq8 ⟨_,rfl,zh3 (zv6 ?_)⟩))))))))));rw [zu0,e2];exact hk1 h
 ·rw [decide_eq_false h];exact zy3 (zb1 (zf2 (zs1 (hk2 h))))
end
structure zc13 (K : ay4) (mg : Str->Option Value) (fN fD fC fO fB fH fS fV fL fG fF : Addr) (dN dD dC dO dB dH dS dV dL dG dF : ey4) : Prop where
 b : zb10 K mg fN fD fC fO fB fH dN dD dC dO dB dH
 s : Def K mg "hands_of" zf7 fS dS ["row"]
 v : Def K mg "view" zt4 fV dV nVi
 l : Def K mg "least_behind" zh4 fL dL ["begun", "views"]
 g : Def K mg "can_go" zs8 fG dG ["thing"]
 f : Def K mg "left_of" zN5 fF dF pLo
section
variable {P : cy6} {w : World} {K : ay4} {mg : Str->Option Value} {base : Heap} {kA : Addr}
def rBeg : RB:=fun as W k=>∃ (hs : List Str) (a b : List za7),as = [.d (rP a),.d (rP b)] /\ zc7 hs a /\ zc7 hs b /\ hs.length <= 8 /\ a.length <= 400 /\ b.length <= 400 /\ Goes a /\ Goes b /\ ∀ c : Bool,(c = true ↔ Beg a b)->k (.d (.bool c)) W
abbrev pBg : List Str:=["row", "other"]
theorem scBg : zb5 pBg pBg (za3 zd8):=⟨rfl,rfl,rfl,by decide +kernel,rfl,by decide +kernel,by decide +kernel⟩
def cBg : Scope:=match za9 zd8 with
 | [_,.Return (some (.Call _ [.ListComp _ _ sc _] _ _)) _]=>sc
 | _=>zZ2
theorem csBg : zb7 pBg (za3 zd8) ["hand"] ["other", "row"] [1,0] cBg:=⟨rfl,by decide +kernel,by decide +kernel,by decide +kernel,rfl,by decide +kernel⟩
theorem ndBg : (["hand", "other", "row"] : List Str).Nodup:=by decide +kernel
def begD (a b : List za7) : PyData->PyData
 | .str x=>.bool (decide ((viewOf x b).take (viewOf x a).length = viewOf x a))
 | d=>d
set_option maxHeartbeats 1000000 in
theorem zc53 {f fN fD fC fO fB fH fS fV fL fG fF : Addr} {fd dN dD dC dO dB dH dS dV dL dG dF : ey4} (F : Fun K "is_beginning" "is_beginning" zd8 f fd) (T : zO2 K mg kA) (D : zc13 K mg fN fD fC fO fB fH fS fV fL fG fF dN dD dC dO dB dH dS dV dL dG dF) : zj9 P w K mg base CX0 5 f fd pBg (spB K rBeg):=by
 have NG:=@zT6 P w K mg base kA _ _ _ _ _ _ _ _ _ _ _ _ _ _ D.g.fn T D.b;have NS:=@zm4 P w K mg base _ _ D.s.fn T.t;have NF:=@zb12 P w K mg base _ _ _ _ _ _ D.f.fn T.t D.v D.b.hand;refine zn1 F scBg (fun as W k hR=>by obtain ⟨hs,a,b,e,_⟩:=hR; subst e; rfl) fun cc hr as W k hcl hR=>?_;refine exE3 hR fun hs a b qA=>?_;clear hR;refine anE9 qA fun e ha hb hh hal hbl hga hgb hk=>?_;clear qA;subst e;obtain ⟨o1,o2⟩:=zp5 ha hh;refine za5 (zh7 (BW.bt (zq5 (zi1 (zg2 (za4 NG (hr.mono (by decide)) rfl D.g.at_ D.g.fn.kp D.g.bd (za1 (bv 0 rfl ⟨a,rfl,ha.ok,by omega,hga,_,rfl,zk6 (zl6 (zi1 (zg2 (za4 NG (hr.mono (by decide)) rfl D.g.at_ D.g.fn.kp D.g.bd (za1 (bv 1 rfl ⟨b,rfl,hb.ok,by omega,hgb,_,rfl,zk6 (zf4 ?_)⟩))))))⟩))))))));refine zb1 (zf2 (zd0 rfl T.t.all_ ze41 (za1 (zw4 rfl csBg (zw1 (za4 NS (hr.mono (by decide)) rfl D.s.at_ D.s.fn.kp D.s.bd (za1 (bv 0 rfl ⟨hs,a,rfl,ha,hh,by omega,fun ss pm so=>⟨ss.map .str,rfl,za43 (begD a b) trivial ?_ ?_ ?_⟩⟩))))))))
 ·rw [ay5,pm.length_eq]; exact zc1 (by omega)
 ·intro z hz;refine za0 fun gG=>?_;obtain ⟨x,hx,rfl⟩:=cy4.mp hz;refine gG ?_;clear gG;refine zg4 (i:=0) ndBg rfl (by decide) (fun _ _ _ _ _=>Or.inl rfl) (fun _ _ _ _ _=>rfl) fun cl C ex s H=>?_;refine zs2 rfl (za4 NF (hr.mono (by decide)) rfl D.f.at_ D.f.fn.kp D.f.bd (za2 (bv 2 rfl (za2 (bv 1 rfl (za1 (bv 0 rfl ⟨hs,a,b,x,rfl,ha,hb,hal,hbl,fun h=>zs1 (zL6 ⟨?_,rfl⟩),fun h=>zs1 (zL6 ⟨?_,rfl⟩)⟩)))))))
  ·show El.d (.bool true) = .d (.bool (decide _));rw [decide_eq_true h]
  ·show El.d (.bool false) = .d (.bool (decide _));rw [decide_eq_false h]
 ·have e : (ss.map iy4).map (begD a b) = (ss.map fun x=>decide ((viewOf x b).take (viewOf x a).length = viewOf x a)).map .bool:=by rw [gy1,gy1]; rfl
  rw [e];refine zc40 rfl (.inl rfl) (hk _ ?_);rw [zd50 (ss:=ss) fun d hd=>pm.mem_iff.mpr (zh0.mpr (zF2 hd)),List.all_map,List.all_eq_true];simp
def zf63 : RB:=fun as W k=>∃ (hs : List Str) (a b : List za7),as = [.d (rP a),.d (rP b)] /\ zc7 hs a /\ zc7 hs b /\ hs.length <= 8 /\ a.length <= 400 /\ b.length <= 400 /\ Goes a /\ Goes b /\ Beg a b /\ ∀ R,Left a b R->∀ out,Lst (zg5 a) (fun x=>viewOf x R) out->k (.d (rP out)) W
theorem scRs : zb5 pBg pBg (za3 zE0):=⟨rfl,rfl,rfl,by decide +kernel,rfl,by decide +kernel,by decide +kernel⟩
def cRs : Scope:=match za9 zE0 with
 | [_,.Return (some (.Call _ [_,.DictComp _ _ _ sc _] _ _)) _]=>sc
 | _=>zZ2
theorem csRs : zb7 pBg (za3 zE0) ["hand"] ["other", "row"] [1,0] cRs:=⟨rfl,by decide +kernel,by decide +kernel,by decide +kernel,rfl,by decide +kernel⟩
set_option maxHeartbeats 1000000 in
theorem zd51 {f fN fD fC fO fB fH fS fV fL fG fF fI : Addr} {fd dN dD dC dO dB dH dS dV dL dG dF dI : ey4} (F : Fun K "rest" "rest" zE0 f fd) (T : zO2 K mg kA) (D : zc13 K mg fN fD fC fO fB fH fS fV fL fG fF dN dD dC dO dB dH dS dV dL dG dF) (DI : Def K mg "is_beginning" zd8 fI dI pBg) : zj9 P w K mg base CX0 6 f fd pBg (spB K zf63):=by
 have NS:=@zm4 P w K mg base _ _ D.s.fn T.t;have NF:=@zb12 P w K mg base _ _ _ _ _ _ D.f.fn T.t D.v D.b.hand;have NL:=zK4 (P:=P) (w:=w) (base:=base) D.l.fn T D.b;have NI:=zc53 (P:=P) (w:=w) (base:=base) DI.fn T D;refine zn1 F scRs (fun as W k hR=>by obtain ⟨hs,a,b,e,_⟩:=hR; subst e; rfl) fun cc hr as W k hcl hR=>?_;refine exE3 hR fun hs a b qA=>?_;clear hR;refine zd61 qA fun e ha hb hh hal hbl hga hgb hbg hk2=>?_;clear qA;subst e;obtain ⟨o1,o2⟩:=zp5 hb hh;refine za5 (zh7 (zi1 (zg2 (za4 NI (hr.mono (by decide)) rfl DI.at_ DI.fn.kp DI.bd (za2 (bv 0 rfl (za1 (bv 1 rfl ⟨hs,a,b,rfl,ha,hb,hh,hal,hbl,hga,hgb,fun c hc=>⟨_,rfl,?_⟩⟩))))))));obtain rfl : c = true:=hc.mpr hbg;obtain ⟨R,hR⟩:=zc12 hga hgb hbg;have hlen:=hR.len;refine zk6 (zf4 (zb1 (zf5 (za4 NL (hr.mono (by decide)) rfl D.l.at_ D.l.fn.kp D.l.bd (za2 (bv 0 rfl (za1 (zS9 rfl csRs (zw1 (za4 NS (hr.mono (by decide)) rfl D.s.at_ D.s.fn.kp D.s.bd (za1 (bv 1 rfl ⟨hs,b,rfl,hb,hh,by omega,fun ss pm so=>⟨ss.map .str,rfl,?_⟩⟩))))))))))));have hsl : ss.length <= 8:=by rw [pm.length_eq]; exact o1
 have hsn : ss.Nodup:=pm.nodup_iff.mpr (zC6 _);refine ⟨fun i kvs W'=>W' = W /\ kvs = ((ss.take i).map fun x=>(x,rP (viewOf x R))).map fun p=>(.inr p.1,.d p.2),⟨rfl,rfl⟩,?_,?_,?_⟩
 ·intro i kvs W' hi gX;refine za0 fun gG=>?_;obtain ⟨rfl,rfl⟩:=gX;refine gG ?_;clear gG;refine ⟨trivial,?_⟩;rw [ay5,ay5,dy3];exact ny5 (show _ <= 8 by omega) (by3 (show 8 < 9 by decide) (zc1 (by decide)))
 ·intro i z kvs W' hz gX;refine za0 fun gG=>?_;obtain ⟨rfl,rfl⟩:=gX;rw [ay9] at hz;obtain ⟨x,hx,rfl⟩:=gy8.mp hz;obtain ⟨hd1,hd2⟩:=hR.drop x;refine gG ?_;clear gG;refine zg4 (i:=0) ndBg rfl (by decide) (fun _ _ _ _ _=>Or.inl rfl) (fun _ _ _ _ _=>rfl) fun cl C ex s H=>?_;refine bv 0 rfl ⟨x,rfl,fun cl C ex s H=>za4 NF (hr.mono (by decide)) rfl D.f.at_ D.f.fn.kp D.f.bd (za2 (bv 2 rfl (za2 (bv 1 rfl (za1 (bv 0 rfl ⟨hs,a,b,x,rfl,ha,hb,hal,hbl,fun _=>⟨rfl,?_⟩,fun h=>absurd hd1 h⟩))))))⟩;rw [hd2,zF0,ey7,hx]
  ·simp
  ·intro p hp z;refine za0 fun gG=>?_;obtain ⟨e,he,rfl⟩:=cy4.mp hp;obtain ⟨y,hy,rfl⟩:=cy4.mp he;have z : y = x:=ty7 z;obtain ⟨j,hj,hyj⟩:=vy2.mp hy;rw [List.getElem_take] at hyj;obtain ⟨l5,e5⟩:=ay3.mp hx;refine gG ?_;clear gG;have:=(jy8 hsn).mp ((hyj.trans z).trans e5.symm);rw [dy3] at hj;omega
 ·intro kvs W' gX;refine za0 fun gG=>?_;obtain ⟨rfl,rfl⟩:=gX;refine gG ?_;clear gG;rw [ay5,gy0];refine ⟨W'.length,a,R,ss,rfl,zd6,hsn,ha.ok,hga,hR.go,fun d hd=>hb.ok d (hR.sub d hd),fun d hd=>pm.mem_iff.mpr (zh0.mpr (zF2 (hR.sub d hd))),by omega,by omega,fun out ho=>⟨_,W',[_],rfl,rfl,rfl,hcl,hk2 R hR out ho⟩⟩
end
section
variable {P : cy6} {w : World} {K : ay4} {mg : Str->Option Value} {base : Heap} {kA : Addr}
def ze72 : RB:=fun as W k=>∃ (hs : List Str) (a b : List za7),as = [.d (rP a),.d (rP b)] /\ zc7 hs a /\ zc7 hs b /\ hs.length <= 8 /\ a.length <= 400 /\ b.length <= 400 /\ Goes a /\ Goes b /\ ∀ c : Bool,(c = true ↔ zk5 a b = none)->k (.d (.bool c)) W
theorem scAl : zb5 ["row", "other"] ["row", "other"] (za3 zx3):=⟨rfl,rfl,rfl,by decide +kernel,rfl,by decide +kernel,by decide +kernel⟩
theorem zc14 {f fN fD fC fO fB fH fG fO2 fS fV fP : Addr} {fd dN dD dC dO dB dH dG dO2 dS dV dP' : ey4} (F : Fun K "alike" "alike" zx3 f fd) (T : zO2 K mg kA) (D : zb10 K mg fN fD fC fO fB fH dN dD dC dO dB dH) (DG : Def K mg "can_go" zs8 fG dG ["thing"]) (DV : zd37 K mg fO2 fS fV dO2 dS dV) (DP : Def K mg "parted_hand" zk9 fP dP' ["row", "other"]) : zj9 P w K mg base CX0 5 f fd ["row", "other"] (spB K ze72):=by
 have NG:=zT6 (P:=P) (w:=w) (base:=base) DG.fn T D;have NP:=zK1 (P:=P) (w:=w) (base:=base) DP.fn T.t DV;refine zn1 F scAl (fun as W k hR=>by obtain ⟨hs,a,b,e,_⟩:=hR; subst e; rfl) fun cc hr as W k hcl hR=>?_;refine exE3 hR fun hs a b qA=>?_;clear hR;refine anE9 qA fun e ha hb hh hal hbl hga hgb hk=>?_;clear qA;subst e;refine zb1 (zf2 (zz4 (za4 NG (hr.mono (by decide)) rfl DG.at_ DG.fn.kp DG.bd (za1 (bv 0 rfl ⟨a,rfl,ha.ok,by omega,hga,_,rfl,?_⟩)))));refine zy3 (zz4 (za4 NG (hr.mono (by decide)) rfl DG.at_ DG.fn.kp DG.bd (za1 (bv 1 rfl ⟨b,rfl,hb.ok,by omega,hgb,_,rfl,?_⟩))));refine zy3 (zP7 (zs2 rfl (za4 NP (hr.mono (by decide)) rfl DP.at_ DP.fn.kp DP.bd (za2 (bv 0 rfl (za1 (bv 1 rfl ⟨hs,a,b,rfl,ha,hb,hh,hal,hbl,zs1 (za33 (hk _ ?_))⟩)))))));cases zk5 a b with
 | none=>exact ⟨fun _=>rfl,fun _=>rfl⟩
 | some x=>exact ⟨fun z=>absurd z (by simp [optD,isNone]),fun z=>by simp at z⟩
end
theorem zd52 {f : Wd} {V : Str->List za7} {out : List za7} (h : Lst f V out) : ∀ R,goF f R->(∀ x,viewOf x R = V x)->out.length = R.length:=by
 induction h with
 | nil h0 =>
  intro R _ hV;have e : R = []:=zE6 fun x=>by rw [hV x,h0 x]; rfl
  rw [e]
 | cons h1 h2 _ _ ih =>
  intro R hg hV;refine za0 fun gG=>?_;obtain ⟨R',g',v',l'⟩:=zK3 hg hV h1 h2;refine gG ?_;clear gG;rw [hy8,ih R' g' v',l']
theorem fold_front {d : za7} {C : List za7} : ∀ (B : List za7) (f : Wd),zl4 f d = true->(∀ b∈B,handOf b ≠ handOf d)->goF f (B++d :: C)->(B++d :: C).foldl zc4 f = (d :: (B++C)).foldl zc4 f
 | [],_,_,_,_=>rfl
 | b :: B,f,hd,hB,hg=>by
  have hb:=hB b by2;have h1 : zl4 f b = true:=hg.1;have ih:=fold_front B (zc4 f b) (zu4 hb hd) (fun c hc=>hB c (by1 _ hc)) hg.2;show (B++d :: C).foldl zc4 (zc4 f b) = _;rw [ih];show (B++C).foldl zc4 (zc4 (zc4 f b) d) = (B++C).foldl zc4 (zc4 (zc4 f d) b);rw [zJ7 hb h1 hd]
theorem zT7 : ∀ (a b : List za7) (f : Wd),goF f a->goF f b->(∀ x,viewOf x a = viewOf x b)->a.foldl zc4 f = b.foldl zc4 f
 | [],b,f,_,_,hv=>by
  have e : b = []:=zE6 fun x=>(hv x).symm;rw [e]
 | d :: a,b,f,ha,hb,hv=>by
  have hd : zl4 f d = true:=ha.1;have h0:=hv (handOf d);rw [zc9,if_pos rfl] at h0;refine za0 fun gG=>?_;obtain ⟨B,C,rfl,hB⟩:=zp6 h0.symm;refine gG ?_;clear gG;rw [fold_front B f hd hB hb];have hg:=zp8 B hd hB hb;exact zT7 a (B++C) (zc4 f d) ha.2 hg.2 fun x=>(zK0 hB (fun y=>(hv y).symm) x).symm
structure Told (hs : List Str) (a b out : List za7) : Prop where
 go : Goes (a++out)
 view : ∀ x,viewOf x (a++out) = viewOf x b
 row : zc7 hs (a++out)
 ok : zc7 hs out
 len : a.length + out.length = b.length
theorem zP1 {hs : List Str} {a b R out : List za7} (ha : zc7 hs a) (hb : zc7 hs b) (ga : Goes a) (L : Left a b R) (h : Lst (zg5 a) (fun x=>viewOf x R) out) : Told hs a b out:=by
 have g:=h.goes;have l:=zd52 h R L.go fun _=>rfl;have hv : ∀ x,viewOf x out = viewOf x R:=g.2
 have ok : zc7 hs out:=hb.of fun d hd=>by
  have h1 : d∈viewOf (handOf d) out:=gy6.mpr ⟨hd,by simp⟩;rw [hv] at h1;exact L.sub d (zF1 h1)
 refine ⟨?_,fun x=>?_,ha.app ok,ok,?_⟩
 ·rw [zg6,zr4]; exact ⟨(zg6 a).mp ga,g.1⟩
 ·rw [zd7,hv,L.view x]
 ·rw [l]; exact L.len
theorem zb13 {a b : List za7} : zk5 a b = none ↔ ∀ x,viewOf x a = viewOf x b:=⟨zA3,zp7⟩
theorem zc54 {a b : List za7} (h : ∀ x,∃ t,viewOf x b = viewOf x a++t) : Beg a b:=fun x=>by
 obtain ⟨t,e⟩:=h x;rw [e,sy6]
theorem zb14 (b : List za7) : Beg [] b:=fun x=>by simp [viewOf]
theorem zT8 {a b : List za7} : (Beg a b /\ Beg b a) ↔ ∀ x,viewOf x a = viewOf x b:=by
 constructor
 ·rintro ⟨h1,h2⟩ x;have e1:=h1 x;have e2:=h2 x;have l1:=congrArg vy9 e1;have l2:=congrArg vy9 e2;rw [dy3] at l1 l2;rw [hy7 (by omega)] at e1;exact e1.symm
 ·intro h;exact ⟨fun x=>by rw [h x,gy0],fun x=>by rw [h x,gy0]⟩
theorem zc7.nil (hs : List Str) : zc7 hs []:=⟨by simp,by simp,by simp⟩
theorem zT9 : Goes []:=fun i d h=>by simp at h
structure Fit (hs : List Str) (a : List za7) : Prop where
 row : zc7 hs a
 go : Goes a
 len : a.length <= 100
theorem Lst.oks {f : Wd} {ds out : List za7} (h : Lst f (fun x=>viewOf x ds) out) (hr : ∀ d∈ds,d.Ok) : ∀ d∈out,d.Ok:=fun d hd=>by
 have h1 : d∈viewOf (handOf d) out:=gy6.mpr ⟨hd,by simp⟩;rw [h.goes.2] at h1;exact hr d (zF1 h1)
theorem zc15 (a : List za7) : Beg a a:=fun x=>gy0
theorem zb15 {a R out : List za7} (L : Left a a R) (h : Lst (zg5 a) (fun x=>viewOf x R) out) : out = []:=by
 have l:=L.len;have e : R = []:=sy0 (by omega);subst e;exact h.uniq (.nil fun _=>rfl)
theorem zc16 {a R out o2 : List za7} (L : Left [] a R) (h : Lst (zg5 []) (fun x=>viewOf x R) out) (h2 : Lst (fun _ _=>[]) (fun x=>viewOf x a) o2) : out = o2:=by
 have e : (fun x=>viewOf x a) = fun x=>viewOf x R:=funext fun x=>L.view x;rw [e] at h2;exact h.uniq h2
theorem zc17 {f : Wd} {a b o1 o2 : List za7} (hv : ∀ x,viewOf x a = viewOf x b) (h1 : Lst f (fun x=>viewOf x a) o1) (h2 : Lst f (fun x=>viewOf x b) o2) : o1 = o2:=by
 rw [show (fun x=>viewOf x a) = fun x=>viewOf x b from funext hv] at h1;exact h1.uniq h2
theorem zd53 {hs : List Str} {a b c m t : List za7} (gb : Goes b) (T1 : Told hs a b m) (T2 : Told hs b c t) : Told hs (a++m) c t:=by
 have g1:=T1.go;have g2:=T2.go;rw [zg6] at g1 gb;rw [zg6,zr4] at g2;refine ⟨?_,fun x=>?_,T1.row.app T2.ok,T2.ok,?_⟩
 ·rw [zg6,zr4,zT7 _ _ _ g1 gb T1.view];exact ⟨g1,g2.2⟩
 ·rw [zd7,T1.view,<- zd7,T2.view]
 ·rw [by5,T1.len,T2.len]
section
variable {P : cy6} {w : World} {K : ay4} {mg : Str->Option Value} {base : Heap} {kA : Addr}
theorem zr6 {X : Bc} {W : Wl} {k : KB} {a b : List za7} (hl : a.length + b.length <= 400) (h : k (.d (rP (a++b))) W) : OB X (my6 .Add) (.d (rP a)) (.d (rP b)) W k :=
 zq7 (by rw [ay5,ay5]; exact zc1 (by omega)) (by rw [<- gy2]; exact h)
theorem zb16 {X : Bc} {W : Wl} {k : KB} {a b : List za7} (hu : X.A.units + 64 < cLine) (ha : ∀ d∈a,d.Ok) (hb : ∀ d∈b,d.Ok) (e : a = b) (h : k (.d (.bool false)) W) : OB X (fy7 .NotEq) (.d (rP a)) (.d (rP b)) W k:=by
 refine za32 hu (.inl rfl) (.inl rfl) (zV4 ha) (zV4 hb) ?_;rw [zc98,decide_eq_true e];exact h
structure ze73 (K : ay4) (mg : Str->Option Value) (hI hT hK hC hE hP hL : Addr) (cI cT cK cC cE cP cL : ey4) : Prop where
 isb : Def K mg "is_beginning" zd8 hI cI pBg
 rest : Def K mg "rest" zE0 hT cT pBg
 alike : Def K mg "alike" zx3 hK cK ["row", "other"]
 chg : Def K mg "changed" zl0 hC cC ["row", "other"]
 least : Def K mg "least_row" zf8 hE cE ["row"]
 parted : Def K mg "parted_hand" zk9 hP cP ["row", "other"]
 places : Def K mg "places_to" zl9 hL cL ["row", "other"]
abbrev pRi : List Str:=["_law_row_here", "_law_other", "_law_first", "_law_second"]
abbrev nRi : List Str:=["_law_row_here", "_law_other", "_law_first", "_law_second", "_law_one", "_law_whole", "_law_told", "_law_middle"]
theorem scRi : zb5 nRi pRi (za3 zx6):=⟨rfl,rfl,rfl,by decide +kernel,rfl,by decide +kernel,by decide +kernel⟩
theorem ndRi : nRi.Nodup:=by decide +kernel
def ze75 : RB:=fun as W k=>∃ (hs : List Str) (ds es a b : List za7),as = [.d (rP ds),.d (rP es),.d (rP a),.d (rP b)] /\ hs.length <= 8 /\ Fit hs ds /\ Fit hs es /\ Fit hs a /\ Fit hs b /\ Beg a ds /\ Beg a es /\ Beg b ds /\ Beg b es /\ Beg a b /\ k (.d (.bool true)) W
abbrev sRi (ds es a b : List za7) (o4 o5 o6 o7 : Option El) : Sl:=[some (.d (rP ds)),some (.d (rP es)),some (.d (rP a)),some (.d (rP b)),o4,o5,o6,o7]
set_option maxHeartbeats 1000000 in
theorem zc18 {f fN fD fC fO fB fH fS fV fL fG fF hI hT hK hC hE hP hL : Addr} {fd dN dD dC dO dB dH dS dV dL dG dF cI cT cK cC cE cP cL : ey4} (F : Fun K "_law_right" "_law_right" zx6 f fd) (T : zO2 K mg kA) (D : zc13 K mg fN fD fC fO fB fH fS fV fL fG fF dN dD dC dO dB dH dS dV dL dG dF) (DR : ze73 K mg hI hT hK hC hE hP hL cI cT cK cC cE cP cL) : zj9 P w K mg base CX0 7 f fd pRi (spB K ze75):=by
 have NI:=zc53 (P:=P) (w:=w) (base:=base) DR.isb.fn T D;have NT:=zd51 (P:=P) (w:=w) (base:=base) DR.rest.fn T D DR.isb;have NK:=zc14 (P:=P) (w:=w) (base:=base) DR.alike.fn T D.b D.g ⟨D.b.hand,D.s,D.v⟩ DR.parted;have NC:=zY5 (P:=P) (w:=w) (base:=base) DR.chg.fn T ⟨D.b.name,D.b.deed,D.b.can,D.b.do_,D.b.beh⟩ ⟨D.b.hand,D.s,D.v⟩ DR.parted DR.places;have NE:=zb11 (P:=P) (w:=w) (base:=base) DR.least.fn T D.b D.s D.v D.l;refine zn1 F scRi (fun as W k hR=>by obtain ⟨hs,ds,es,a,b,e,_⟩:=hR; subst e; rfl) fun cc hr as W k hcl hR=>?_;refine exE5 hR fun hs ds es a b qA=>?_;clear hR;refine ze92 qA fun e hh fds fes fa fb bad bae bbd bbe bab hk=>?_;clear qA;subst e;refine za5 (zo6 jy7 rfl (zw0 (zg3 (za2 (bv 0 rfl (za2 (bv 1 rfl (za2 (bv 2 rfl (za1 (bv 3 rfl ⟨[rP ds,rP es,rP a,rP b],rfl,(by show 4 <= by0; decide),_,rfl,W.length,fun i S' W'=>∃ o4,S' = sRi ds es a b o4 none none none /\ W' = W,ay6 _,dy7 _,ay6 _,⟨none,rfl,rfl⟩,fun _ _ _ _ _=>trivial,?_,?_⟩)))))))))))
 ·intro i z S' W' hz gX;refine za0 fun gG=>?_;obtain ⟨o4,rfl,rfl⟩:=gX;obtain ⟨c,hc,rfl⟩:=cy4.mp (cy3 (show ([ds,es,a,b].map rP)[i]? = some z from hz));refine gG ?_;clear gG
  have fc : Fit hs c:=by
   simp only [by8,my1,or_false] at hc;rcases hc with rfl | rfl | rfl | rfl <;> assumption
  have lc:=fc.len;refine zk7 (i:=4) ndRi rfl (Or.inl rfl) ?_;refine zb1 (zh7 (BW.bt (zq5 (zd5 rfl (za4 NT (hr.mono (by decide)) rfl DR.rest.at_ DR.rest.fn.kp DR.rest.bd (za2 (bv 4 rfl (za1 (bv 4 rfl ⟨hs,c,c,rfl,fc.row,fc.row,hh,by omega,by omega,fc.go,fc.go,zc15 c,fun R hR out ho=>zk1 (zi9 ⟨[],rfl,dy7 _,zb16 (b:=[]) hr.units (ho.oks fun d hd=>fc.row.ok d (hR.sub d hd)) (by simp) (zb15 hR ho) ⟨_,rfl,zk6 ?_⟩⟩)⟩)))))))));refine zq5 (zi1 (zg2 (za4 NI (hr.mono (by decide)) rfl DR.isb.at_ DR.isb.fn.kp DR.isb.bd (za2 (zk1 (zi9 ⟨[],rfl,dy7 _,za1 (bv 4 rfl ⟨hs,[],c,rfl,zc7.nil hs,fc.row,hh,by simp,by omega,zT9,fc.go,fun t ht=>⟨_,rfl,?_⟩⟩)⟩))))));obtain rfl : t = true:=ht.mpr (zb14 c);refine zk6 (zl6 (zd5 rfl (za4 NT (hr.mono (by decide)) rfl DR.rest.at_ DR.rest.fn.kp DR.rest.bd (za2 (zk1 (zi9 ⟨[],rfl,dy7 _,za1 (bv 4 rfl ⟨hs,[],c,rfl,zc7.nil hs,fc.row,hh,by simp,by omega,zT9,fc.go,zb14 c,fun R2 hR2 o2 ho2=>za4 NE (hr.mono (by decide)) rfl DR.least.at_ DR.least.fn.kp DR.least.bd (za1 (bv 4 rfl ⟨hs,c,rfl,fc.row,hh,by omega,fc.go,fun o3 ho3=>zb16 hr.units (ho2.oks fun d hd=>fc.row.ok d (hR2.sub d hd)) (ho3.oks fc.row.ok) (zc16 hR2 ho2 ho3) ⟨_,rfl,zk6 (zf4 ⟨_,rfl,rfl⟩)⟩⟩))⟩)⟩))))))
 intro S' W' gX;refine za0 fun gG=>?_;obtain ⟨o4,rfl,rfl⟩:=gX;refine gG ?_;clear gG;refine za5 (zo6 jy7 rfl (zw0 (zg3 (za2 (bv 0 rfl (za1 (bv 1 rfl ⟨[rP ds,rP es],rfl,(by show 2 <= by0; decide),_,rfl,W'.length,fun i S' W2=>∃ o4 o5 o6,S' = sRi ds es a b o4 o5 o6 none /\ W2 = W',ay6 _,dy7 _,ay6 _,⟨_,_,_,rfl,rfl⟩,fun _ _ _ _ _=>trivial,?_,?_⟩)))))))
 ·intro i z S' W2 hz gX;refine za0 fun gG=>?_;obtain ⟨o4,o5,o6,rfl,rfl⟩:=gX;obtain ⟨c,hc,rfl⟩:=cy4.mp (cy3 (show ([ds,es].map rP)[i]? = some z from hz))
  have fc : Fit hs c /\ Beg a c /\ Beg b c:=by
   simp only [by8,my1,or_false] at hc;rcases hc with rfl | rfl
   ·exact ⟨fds,bad,bbd⟩
   ·exact ⟨fes,bae,bbe⟩
  obtain ⟨fc,bac,bbc⟩:=fc;refine gG ?_;clear gG;have lc:=fc.len;refine zk7 (i:=5) ndRi rfl (Or.inl rfl) ?_;refine zb1 (zo6 jy7 rfl (zw0 (zg3 (za2 (bv 2 rfl (za1 (bv 3 rfl ⟨[rP a,rP b],rfl,(by show 2 <= by0; decide),_,rfl,W2.length,fun i S' W3=>∃ o4 o6,S' = sRi ds es a b o4 (some (.d (rP c))) o6 none /\ W3 = W2,ay6 _,dy7 _,ay6 _,⟨_,_,rfl,rfl⟩,fun _ _ _ _ _=>trivial,?_,?_⟩)))))))
  ·intro i z S' W3 hz gX;refine za0 fun gG=>?_;obtain ⟨o4,o6,rfl,rfl⟩:=gX;obtain ⟨d,hd,rfl⟩:=cy4.mp (cy3 (show ([a,b].map rP)[i]? = some z from hz))
   have fd' : Fit hs d /\ Beg d c:=by
    simp only [by8,my1,or_false] at hd;rcases hd with rfl | rfl
    ·exact ⟨fa,bac⟩
    ·exact ⟨fb,bbc⟩
   obtain ⟨fd',bdc⟩:=fd';refine gG ?_;clear gG;have ld:=fd'.len;refine zk7 (i:=4) ndRi rfl (Or.inl rfl) ?_;refine za5 (zc2 (i:=6) ndRi rfl (Or.inl rfl) (za4 NT (hr.mono (by decide)) rfl DR.rest.at_ DR.rest.fn.kp DR.rest.bd (za2 (bv 4 rfl (za1 (bv 5 rfl ⟨hs,d,c,rfl,fd'.row,fc.row,hh,by omega,by omega,fd'.go,fc.go,bdc,fun R hR out ho=>?_⟩))))));have t:=zP1 fd'.row fc.row fd'.go hR ho;have lt:=t.len;have lo : (d++out).length <= 100:=by rw [by5]; omega
   refine za5 (zh7 (BW.bt (zq5 (zd5 rfl (bv 6 rfl (zs1 (za33 ⟨_,rfl,zk6 (zq5 (zi1 (zg2 (za4 NK (hr.mono (by decide)) rfl DR.alike.at_ DR.alike.fn.kp DR.alike.bd (za2 (ze7 (bv 4 rfl (bv 6 rfl (zr6 (by omega) (za1 (bv 5 rfl ⟨hs,d++out,c,rfl,t.row,fc.row,hh,by omega,by omega,t.go,fc.go,fun t1 ht1=>⟨_,rfl,?_⟩⟩)))))))))))⟩)))))));obtain rfl : t1 = true:=ht1.mpr (zp7 t.view);refine zk6 (zl6 (zd5 rfl (za4 NE (hr.mono (by decide)) rfl DR.least.at_ DR.least.fn.kp DR.least.bd (za1 (ze7 (bv 4 rfl (bv 6 rfl (zr6 (by omega) ⟨hs,d++out,rfl,t.row,hh,by omega,t.go,fun o1 h1=>za4 NE (hr.mono (by decide)) rfl DR.least.at_ DR.least.fn.kp DR.least.bd (za1 (bv 5 rfl ⟨hs,c,rfl,fc.row,hh,by omega,fc.go,fun o2 h2=>zb16 hr.units (h1.oks t.row.ok) (h2.oks fc.row.ok) (zc17 t.view h1 h2) ⟨_,rfl,zk6 (zf4 ?_)⟩⟩))⟩))))))));refine zb1 (zh7 (BW.bt (zq5 (zd5 rfl (zf0 (by intro _ _; rfl) (za4 NC (hr.mono (by decide)) rfl DR.chg.at_ DR.chg.fn.kp DR.chg.bd (za2 (ze7 (bv 4 rfl (bv 6 rfl (zr6 (by omega) (za1 (bv 5 rfl ⟨hs,d++out,c,rfl,t.row,fc.row,t.go,fc.go,hh,lo,lc,zp7 t.view,fun ps _ _=>zb0 (zj2 (d:=.str "changes") rfl (zc3 (zP9 ⟨_,rfl,?_⟩)))⟩)))))))))))));rw [decide_eq_true rfl];refine zk6 (zl6 (zi1 (zg2 (za4 NI (hr.mono (by decide)) rfl DR.isb.at_ DR.isb.fn.kp DR.isb.bd (za2 (bv 4 rfl (za1 (ze7 (bv 4 rfl (bv 6 rfl (zr6 (by omega) ⟨hs,d,d++out,rfl,fd'.row,t.row,hh,by omega,by omega,fd'.go,t.go,fun t2 ht2=>⟨_,rfl,?_⟩⟩)))))))))));obtain rfl : t2 = true:=ht2.mpr (zc54 fun x=>⟨_,zd7 x d out⟩);exact zk6 (zf4 ⟨_,_,rfl,rfl⟩)
  ·intro S' W3 gX;refine za0 fun gG=>?_;obtain ⟨o4,o6,rfl,rfl⟩:=gX;refine gG ?_;clear gG;exact ⟨_,_,_,rfl,rfl⟩
 intro S' W2 gX;refine za0 fun gG=>?_;obtain ⟨o4,o5,o6,rfl,rfl⟩:=gX;refine gG ?_;clear gG;have la:=fa.len;have lb:=fb.len;have lds:=fds.len;refine za5 (zc2 (i:=7) ndRi rfl (Or.inl rfl) (za4 NT (hr.mono (by decide)) rfl DR.rest.at_ DR.rest.fn.kp DR.rest.bd (za2 (bv 2 rfl (za1 (bv 3 rfl ⟨hs,a,b,rfl,fa.row,fb.row,hh,by omega,by omega,fa.go,fb.go,bab,fun R hR m hm=>?_⟩))))));have t:=zP1 fa.row fb.row fa.go hR hm;have lt:=t.len;refine za5 (zh7 (BW.bt (zq5 (zd5 rfl (bv 7 rfl (zs1 (za33 ⟨_,rfl,zk6 (zl6 (zi1 (zg2 (za4 NK (hr.mono (by decide)) rfl DR.alike.at_ DR.alike.fn.kp DR.alike.bd (za2 (ze7 (ze7 (bv 2 rfl (bv 7 rfl (zr6 (by omega) (za4 NT (hr.mono (by decide)) rfl DR.rest.at_ DR.rest.fn.kp DR.rest.bd (za2 (bv 3 rfl (za1 (bv 0 rfl ⟨hs,b,ds,rfl,fb.row,fds.row,hh,by omega,by omega,fb.go,fds.go,bbd,fun R2 hR2 m2 hm2=>?_⟩)))))))))))))))⟩)))))));have t2:=zd53 fb.go t (zP1 fb.row fds.row fb.go hR2 hm2);have lt2:=t2.len;have lo2 : (a++m++m2).length <= 100:=by rw [by5]; omega
 refine zr6 (by omega) (za1 (bv 0 rfl ⟨hs,a++m++m2,ds,rfl,t2.row,fds.row,hh,by omega,by omega,t2.go,fds.go,fun t3 ht3=>⟨_,rfl,?_⟩⟩));obtain rfl : t3 = true:=ht3.mpr (zp7 t2.view);refine zk6 (zf4 (zb1 (zf2 (zs2 rfl (zz4 (za4 NI (hr.mono (by decide)) rfl DR.isb.at_ DR.isb.fn.kp DR.isb.bd (za2 (bv 3 rfl (za1 (bv 2 rfl ⟨hs,b,a,rfl,fb.row,fa.row,hh,by omega,by omega,fb.go,fa.go,fun c1 h1=>⟨_,rfl,?_⟩⟩))))))))));cases c1 with
 | false =>
  refine za4 NK (hr.mono (by decide)) rfl DR.alike.at_ DR.alike.fn.kp DR.alike.bd (za2 (bv 2 rfl (za1 (bv 3 rfl ⟨hs,a,b,rfl,fa.row,fb.row,hh,by omega,by omega,fa.go,fb.go,fun c2 h2=>zc38 ?_⟩))))
  obtain rfl : c2 = false:=by
   cases c2 with
   | false=>rfl
   | true=>cases h1.mpr (zT8.mpr (zb13.mp (h2.mp rfl))).2
  exact hk
 | true =>
  refine zP7 (za4 NI (hr.mono (by decide)) rfl DR.isb.at_ DR.isb.fn.kp DR.isb.bd (za2 (bv 2 rfl (za1 (bv 3 rfl ⟨hs,a,b,rfl,fa.row,fb.row,hh,by omega,by omega,fa.go,fb.go,fun c3 h3=>za4 NK (hr.mono (by decide)) rfl DR.alike.at_ DR.alike.fn.kp DR.alike.bd (za2 (bv 2 rfl (za1 (bv 3 rfl ⟨hs,a,b,rfl,fa.row,fb.row,hh,by omega,by omega,fa.go,fb.go,fun c2 h2=>zc38 ?_⟩))))⟩)))));obtain rfl : c3 = true:=h3.mpr bab;obtain rfl : c2 = true:=h2.mpr (zp7 (zT8.mp ⟨bab,h1.mp rfl⟩));exact hk
end
structure PkW (W : Wl) (q : Nat) (Wk : Wl) : Prop where
 form : ∃ n V,Wk = W++wl n :: V /\ 0 <= n
 at_ : ze8 Wk q
 lt : W.length < q
theorem PkW.pack {W Wk : Wl} {q : Nat} (h : PkW W q Wk) : ze8 Wk W.length:=by
 refine za0 fun gG=>?_;obtain ⟨n,V,rfl,h0⟩:=h.form;refine gG ?_;clear gG;exact ⟨n,by simp,h0⟩
theorem PkW.p {W Wk W' : Wl} {q : Nat} (h : PkW W q Wk) (pw : zg0 Wk W.length W') : PkW W q W':=by
 refine za0 fun gG=>?_;obtain ⟨m,hm,hm0⟩:=h.at_;refine gG ?_;clear gG;refine ⟨?_,⟨m,by rw [pw.get (by have:=h.lt; omega)]; exact hm,hm0⟩,h.lt⟩;refine za0 fun gG=>?_;obtain ⟨n,V,rfl,h0⟩:=h.form;obtain ⟨n',rfl,h0'⟩:=pw;refine gG ?_;clear gG;exact ⟨n',V,by simp,h0'⟩
theorem PkW.q {W Wk W' : Wl} {q : Nat} (h : PkW W q Wk) (pw : zg0 Wk q W') : PkW W q W':=by
 refine ⟨?_,pw.at h.at_.lt,h.lt⟩;have hlt:=h.lt;refine za0 fun gG=>?_;obtain ⟨n,V,rfl,h0⟩:=h.form;obtain ⟨n',rfl,h0'⟩:=pw;refine gG ?_;clear gG;refine ⟨n,V.set (q - W.length - 1) (wl n'),?_,h0⟩;rw [List.set_append_right _ _ (by omega)];obtain ⟨j,hj⟩ : ∃ j,q - W.length = j + 1:=⟨q - W.length - 1,by omega⟩
 rw [hj];rfl
theorem zb17 {ds : List za7} (h : Goes ds) (n : Nat) : Goes (ds.take n):=by
 rw [zg6] at h ⊢;rw [<- py4 n ds,zr4] at h;exact h.1
theorem zc7.sub {hs : List Str} {a b : List za7} (h : zc7 hs b) (hm : ∀ d∈a,d∈b) : zc7 hs a:=⟨fun d hd=>h.ok d (hm d hd),fun d hd=>h.x d (hm d hd),fun d hd=>h.y d (hm d hd)⟩
theorem zb18 {a b p t : List za7} (ha : ∀ x,viewOf x a = viewOf x p) (hb : ∀ x,viewOf x b = viewOf x (p++t)) : Beg a b:=zc54 fun x=>⟨viewOf x t,by rw [hb,zd7,ha]⟩
theorem zc19 {a b es : List za7} {x n : Nat} (h : x <= n) (ha : ∀ z,viewOf z a = viewOf z (es.take x)) (hb : ∀ z,viewOf z b = viewOf z (es.take n)) : Beg a b:=by
 refine zb18 (t:=(es.drop x).take (n - x)) ha ?_;rw [<- List.take_add,show x + (n - x) = n by omega];exact hb
theorem zF3 {a b es : List za7} {x : Nat} (ha : ∀ z,viewOf z a = viewOf z (es.take x)) (hb : ∀ z,viewOf z b = viewOf z es) : Beg a b:=by
 refine zb18 (t:=es.drop x) ha ?_;rw [py4];exact hb
theorem Fit.take {hs : List Str} {es : List za7} (h : Fit hs es) (n : Nat) : Fit hs (es.take n):=⟨h.row.sub fun d hd=>ky4 hd,zb17 h.go n,by have:=h.len; rw [dy3]; omega⟩
theorem Fit.same {hs : List Str} {ds es : List za7} (h : Fit hs ds) (s : zm1 hs ds es) : Fit hs es:=⟨s.row,s.go,by rw [s.len]; exact h.len⟩
section
variable {P : cy6} {w : World} {K : ay4} {mg : Str->Option Value} {base : Heap} {kA : Addr}
def rLaw : RB:=fun as W k=>∃ ns : List Int,as = [.s ns] /\ ns.length <= 63 /\ (∀ m∈ns,bits m <= 2 ^ 20) /\ ∀ V,k (.d (.bool true)) (W++V)
def zb19 (K : ay4) : Sp:=spB K rLaw
theorem zb20 {H : Hp} {a : Addr} {ns : List Int} (hl : ns.length <= 63) (hb : ∀ m∈ns,gy7 m <= 2 ^ 20) (hS : SqL K H a (ns.map V.int)) : zb19 K [.ref a] H (fun v _=>v = .bl true) fun _ _ _=>False :=
 ⟨H,[],[],[.s ns],fun e _=>e = .d (.bool true),⟨.refl _,rfl,List.nodup_nil,fun a h=>by simp at h,fun k a o h=>by simp at h⟩,.cons ⟨a,rfl,hS⟩ .nil,⟨ns,rfl,hl,hb,fun _=>rfl⟩,fun F' A' W' H' e v _ _ z h=>by subst h; exact Rq.zv3 z⟩
abbrev nLa : List Str:=["_law_script", "_law_pack_here", "_law_hands_here", "_law_k", "_law_digits", "_law_row_here", "_law_other", "_law_size", "_law_first", "_law_second"]
theorem scLa : zb5 nLa ["_law_script"] (za3 sLaw):=⟨rfl,rfl,rfl,by decide +kernel,rfl,by decide +kernel,by decide +kernel⟩
theorem ndLa : nLa.Nodup:=by decide +kernel
structure zf64 (K : ay4) (mg : Str->Option Value) (hM hP hH hR hS hI hA hN : Addr) (cM cP cH cR cS cI cA cN : ey4) : Prop where
 mixed : Def K mg "_law_mixed" zs9 hM cM ["_law_cell"]
 pack : Def K mg "_law_pack" zN6 hP cP pPa
 hands : Def K mg "_law_hands" zx5 hH cH ["_law_pack_here"]
 row : Def K mg "_law_row" sRow hR cR pRo
 shuf : Def K mg "_law_shuffled" zN8 hS cS pSf
 right : Def K mg "_law_right" zx6 hI cI pRi
 hand : Def K mg "_law_hand" zt0 hA cA ["_law_deed"]
 can : Def K mg "_law_can" zJ2 hN cN ["_law_row_here"]
abbrev sLa1 (ns : List Int) (W : Wl) (hs : List Str) (o3 o4 o5 o6 o7 o8 o9 : Option El) : Sl:=[some (.s ns),some (.o W.length),some (.d (.list (hs.map .str))),o3,o4,o5,o6,o7,o8,o9]
abbrev iLaw (ns : List Int) (hs : List Str) (W : Wl) : Nat->Sl->Wl->Prop:=fun i S' W'=>∃ (n : Int) (V : Wl) (o3 o4 o5 o6 o7 o8 o9 : Option El),0 <= n /\ W' = W++wl n :: V /\ S' = sLa1 ns W hs o3 o4 o5 o6 o7 o8 o9
set_option maxHeartbeats 2000000 in
theorem ze76 {f fN fD fC fO fB fH fS fV fL fG fF kI kT kK kC kE kP kL iR iS iT iD hM hP hH hR hS hI hA hN : Addr} {fd dN dD dC dO dB dH dS dV dL dG dF lI lT lK lC lE lP lL jR jS jT jD cM cP cH cR cS cI cA cN : ey4} (F : Fun K "law" "law" sLaw f fd) (T : zO2 K mg kA) (D : zc13 K mg fN fD fC fO fB fH fS fV fL fG fF dN dD dC dO dB dH dS dV dL dG dF) (DR : ze73 K mg kI kT kK kC kE kP kL lI lT lK lC lE lP lL) (DP : ze60 K mg iR iS iT iD jR jS jT jD) (DZ : zf64 K mg hM hP hH hR hS hI hA hN cM cP cH cR cS cI cA cN) : zj9 P w K mg base CX0 8 f fd ["_law_script"] (zb19 K):=by
 have NP:=@zd18 P w K mg base _ _ _ _ DZ.pack.fn DZ.mixed;have NH:=@zb85 P w K mg base _ _ _ _ DZ.hands.fn T.t DP.take;have N:=@zr2 P w K mg base _ _ DP.take.fn T.t;have NR:=ze61 (P:=P) (w:=w) (base:=base) DZ.row.fn T.t DP;have NS:=zd32 (P:=P) (w:=w) (base:=base) DZ.shuf.fn T.t DP.take DZ.hand DZ.can;have NI:=zc18 (P:=P) (w:=w) (base:=base) DZ.right.fn T D DR;refine zn1 F scLa (fun as W k hR=>by obtain ⟨ns,e,_⟩:=hR; subst e; rfl) fun cc hr as W k hcl hR=>?_;refine za0 fun gG=>?_;obtain ⟨ns,e,hns,hbt,hk⟩:=hR;subst e;refine gG ?_;clear gG;refine za5 (zc2 (i:=1) ndLa rfl (Or.inl rfl) (za4 NP (hr.mono (by decide)) rfl DZ.pack.at_ DZ.pack.fn.kp DZ.pack.bd (za2 (bv 0 rfl (za1 (zb0 ⟨ns,0,rfl,hbt,hns,fun n0 hn0=>?_⟩))))));refine za5 (zc2 (i:=2) ndLa rfl (Or.inl rfl) (za4 NH (hr.mono (by decide)) rfl DZ.hands.at_ DZ.hands.fn.kp DZ.hands.bd (za1 (bv 1 rfl ⟨W.length,rfl,ze8.last hn0,fun hs W1 hho pw1=>?_⟩))));refine za0 fun gG=>?_;obtain ⟨n1,rfl,hn1⟩:=pw1.last;refine gG ?_;clear gG;have hh:=hho.names;have hh8:=hh.le;refine za5 (zo6 jy7 rfl (zw2 rfl T.t.range_ (zb0 ⟨8,rfl,by decide,by decide,W.length,iLaw ns hs W,ay6 _,dy7 _,by simp,⟨n1,[],none,none,none,none,none,none,none,hn1,rfl,rfl⟩,fun _ _ _ _ _=>trivial,?_,?_⟩)))
 ·intro i z S' W' hz gX;refine exE9 gX fun n V o3 o4 o5 o6 o7 o8 o9 qA=>?_;clear gX;refine anE3 qA fun hn qe1 qe2=>?_;clear qA;subst qe1;subst qe2
  have hzi : ∃ c : Int,z = .int c:=by
   have:=cy3 hz;refine za0 fun gG=>?_;obtain ⟨j,_,rfl⟩:=cy4.mp this;refine gG ?_;clear gG;exact ⟨_,rfl⟩
  refine za0 fun gG=>?_;obtain ⟨c,rfl⟩:=hzi;refine gG ?_;clear gG;refine zk7 (i:=3) ndLa rfl (Or.inl rfl) ?_;refine za5 (zc2 (i:=4) ndLa rfl (Or.inl rfl) (za4 NP (hr.mono (by decide)) rfl DZ.pack.at_ DZ.pack.fn.kp DZ.pack.bd (za2 (bv 0 rfl (za1 (ze7 (zb0 (ze7 (zb0 (bv 3 rfl (zc35 (.inl ⟨by decide,by decide⟩) (zo1 ⟨ns,_,rfl,hbt,hns,fun m hm=>?_⟩))))))))))));obtain ⟨q,hq⟩ : ∃ q,q = (W++wl n :: V).length:=⟨_,rfl⟩
  have k1 : PkW W q (W++wl n :: V++[wl m]):=⟨⟨n,V++[wl m],by simp,hn⟩,by rw [hq]; exact ze8.last hm,by rw [hq]; simp⟩
  rw [<- hq];refine za5 (zc2 (i:=5) ndLa rfl (Or.inl rfl) (za4 NR (hr.mono (by decide)) rfl DZ.row.at_ DZ.row.fn.kp DZ.row.bd (za2 (bv 4 rfl (za2 (bv 2 rfl (za2 (za4 N (hr.mono (by decide)) rfl DP.take.at_ DP.take.fn.kp DP.take.bd (za2 (bv 1 rfl (za1 (zb0 ⟨W.length,11,rfl,k1.pack,by decide,by decide,fun r W2 r0 r1 pw2=>?_⟩))))))))))));obtain ⟨y,rfl⟩ : ∃ n : Nat,r = n:=⟨r.toNat,by omega⟩
  have k2:=k1.p pw2;refine za1 (za25 ⟨q,y,hs,false,rfl,k2.at_,hh,by omega,fun ds W3 pw3 hrow hgo hlen=>?_⟩);have k3:=k2.q pw3;refine za5 (zc2 (i:=6) ndLa rfl (Or.inl rfl) (za4 NS (hr.mono (by decide)) rfl DZ.shuf.at_ DZ.shuf.fn.kp DZ.shuf.bd (za2 (bv 4 rfl (za2 (bv 5 rfl (za1 (zb0 ⟨q,20,hs,ds,rfl,k3.at_,hrow,hgo,by omega,by decide,fun es W5 Sm pw5=>?_⟩))))))));have k5:=k3.q pw5;have fds : Fit hs ds:=⟨hrow,hgo,by omega⟩
  have fes:=fds.same Sm;have hel:=fes.len;refine za5 (zc2 (i:=7) ndLa rfl (Or.inl rfl) (za4 N (hr.mono (by decide)) rfl DP.take.at_ DP.take.fn.kp DP.take.bd (za2 (bv 1 rfl (za1 (ze7 (zd0 rfl T.t.len_ zt5 (za1 (bv 5 rfl (zq8 (zb0 (zo1 ⟨W.length,_,rfl,k5.pack,?_,?_,fun r W6 r0 r1 pw6=>?_⟩))))))))))))
  ·rw [ay5]; omega
  ·rw [ay5]; omega
  rw [ay5] at r1;obtain ⟨sz,rfl⟩ : ∃ n : Nat,r = n:=⟨r.toNat,by omega⟩
  have k6:=k5.p pw6;refine za5 (zc2 (i:=8) ndLa rfl (Or.inl rfl) (za4 NS (hr.mono (by decide)) rfl DZ.shuf.at_ DZ.shuf.fn.kp DZ.shuf.bd (za2 (bv 4 rfl (za2 (ze0 (bv 6 rfl (zh3 (zd9 (za4 N (hr.mono (by decide)) rfl DP.take.at_ DP.take.fn.kp DP.take.bd (za2 (bv 1 rfl (za1 (ze7 (bv 7 rfl (zb0 (zo1 ⟨W.length,_,rfl,k6.pack,by omega,by omega,fun r W7 r0' r1' pw7=>⟨_,rfl,zv6 ?_⟩⟩)))))))))))))))));obtain ⟨x,rfl⟩ : ∃ n : Nat,r = n:=⟨r.toNat,by omega⟩
  have k7:=k6.p pw7;rw [zs7,<- ry4];have fx:=fes.take x;have lx:=fx.len;refine za1 (zb0 ⟨q,10,hs,es.take x,rfl,k7.at_,fx.row,fx.go,by omega,by decide,fun a W8 Sa pw8=>?_⟩);have k8:=k7.q pw8;have fa:=fx.same Sa;have fz:=fes.take sz;have lz:=fz.len;refine za5 (zc2 (i:=9) ndLa rfl (Or.inl rfl) (za4 NS (hr.mono (by decide)) rfl DZ.shuf.at_ DZ.shuf.fn.kp DZ.shuf.bd (za2 (bv 4 rfl (za2 (ze0 (bv 6 rfl (zh3 (zd9 (bv 7 rfl ⟨_,rfl,zv6 ?_⟩))))))))));rw [zs7,<- ry4];refine za1 (zb0 ⟨q,10,hs,es.take sz,rfl,k8.at_,fz.row,fz.go,by omega,by decide,fun b W9 Sb pw9=>?_⟩);have k9:=k8.q pw9;have fb:=fz.same Sb;have hv : ∀ z,viewOf z ds = viewOf z es:=fun z=>(Sm.view z).symm;refine zb1 (zh7 (zi1 (zg2 (za4 NI (hr.mono (by decide)) rfl DZ.right.at_ DZ.right.fn.kp DZ.right.bd (za2 (bv 5 rfl (za2 (bv 6 rfl (za2 (bv 8 rfl (za1 (bv 9 rfl ⟨hs,ds,es,a,b,rfl,hh8,fds,fes,fa,fb,zF3 Sa.view hv,zF3 Sa.view (fun _=>rfl),zF3 Sb.view hv,zF3 Sb.view (fun _=>rfl),zc19 (by omega) Sa.view Sb.view,⟨_,rfl,zk6 (zf4 ?_)⟩⟩))))))))))));refine za0 fun gG=>?_;obtain ⟨n9,V9,e9,h9⟩:=k9.form;refine gG ?_;clear gG;exact ⟨n9,V9,_,_,_,_,_,_,_,h9,e9,rfl⟩
 ·intro S' W' gX;refine exE9 gX fun n V o3 o4 o5 o6 o7 o8 o9 qA=>?_;clear gX;refine anE3 qA fun hn qe1 qe2=>?_;clear qA;subst qe1;subst qe2;exact zb1 (zf2 (za25 (hk _)))
end
theorem us1 {α : Type} {us : List α} (h : us.length = 1) : ∃ a,us = [a]:=List.length_eq_one_iff.mp h
theorem us2 {α : Type} {us : List α} (h : us.length = 2) : ∃ a b,us = [a,b]:=by
 cases us with
 | nil=>simp at h
 | cons a us=>obtain ⟨b,rfl⟩:=us1 (us:=us) (by simpa using h); exact ⟨a,b,rfl⟩
theorem us3 {α : Type} {us : List α} (h : us.length = 3) : ∃ a b c,us = [a,b,c]:=by
 cases us with
 | nil=>simp at h
 | cons a us=>obtain ⟨b,c,rfl⟩:=us2 (us:=us) (by simpa using h); exact ⟨a,b,c,rfl⟩
theorem us4 {α : Type} {us : List α} (h : us.length = 4) : ∃ a b c d,us = [a,b,c,d]:=by
 cases us with
 | nil=>simp at h
 | cons a us=>obtain ⟨b,c,d,rfl⟩:=us3 (us:=us) (by simpa using h); exact ⟨a,b,c,d,rfl⟩
theorem all_mk {l : PySem.W.OpenLaw} {w : World} {K : ay4} {h : Heap} {mg : Str->Option Value} {fa : Addr} {kdA : Addr} {odJ : Option Addr} {slJ : Array (Option Value)} {tl tn t1 t2 : Tok} {nK : Nat} (X : K.In h) (G : h.Ns cy2 mg) (hfa : mg "law" = some (.ref fa))
  {fN fD fO fC fF fB fCG fS fV fPH fAL fCH fPL fLR fL fBE fRE fLO fX1 fP fR fH fX2 fX3 fX4 fQ fX5 fX8 fX9 fI fZ : Addr} {odN anN odD anD odO anO odC anC odF anF odB anB odCG anCG odS anS odV anV odPH anPH odAL anAL odCH anCH odPL anPL odLR anLR odL anL odBE anBE odRE anRE odLO anLO odX1 anX1 odP anP odR anR odH anH odX2 anX2 odX3 anX3 odX4 anX4 odQ anQ odX5 anX5 odX8 anX8 odX9 anX9 odI anI odZ anZ : Option Addr} {slN slD slO slC slF slB slCG slS slV slPH slAL slCH slPL slLR slL slBE slRE slLO slX1 slP slR slH slX2 slX3 slX4 slQ slX5 slX8 slX9 slI slZ : Array (Option Value)} {ocN kVN dcN pmN cdN ctN ocD kVD dcD pmD cdD ctD ocO kVO dcO pmO cdO ctO ocC kVC dcC pmC cdC ctC ocF kVF dcF pmF cdF ctF ocB kVB dcB pmB cdB ctB ocCG kVCG dcCG pmCG cdCG ctCG ocS kVS dcS pmS cdS ctS ocV kVV dcV pmV cdV ctV ocPH kVPH dcPH pmPH cdPH ctPH ocAL kVAL dcAL pmAL cdAL ctAL ocCH kVCH dcCH pmCH cdCH ctCH ocPL kVPL dcPL pmPL cdPL ctPL ocLR kVLR dcLR pmLR cdLR ctLR ocL kVL dcL pmL cdL ctL ocBE kVBE dcBE pmBE cdBE ctBE ocRE kVRE dcRE pmRE cdRE ctRE ocLO kVLO dcLO pmLO cdLO ctLO ocX1 kVX1 dcX1 pmX1 cdX1 ctX1 ocP kVP dcP pmP cdP ctP ocR kVR dcR pmR cdR ctR ocH kVH dcH pmH cdH ctH ocX2 kVX2 dcX2 pmX2 cdX2 ctX2 ocX3 kVX3 dcX3 pmX3 cdX3 ctX3 ocX4 kVX4 dcX4 pmX4 cdX4 ctX4 ocQ kVQ dcQ pmQ cdQ ctQ ocX5 kVX5 dcX5 pmX5 cdX5 ctX5 ocX8 kVX8 dcX8 pmX8 cdX8 ctX8 ocX9 kVX9 dcX9 pmX9 cdX9 ctX9 ocI kVI dcI pmI cdI ctI ocZ kVZ dcZ pmZ cdZ ctZ : Value}
  (aN : cy5 K cy2 "is_name" = some (some (.ref fN))) (lN : K.lookup fN = some ⟨ocN,odN,.func (dy4 "is_name" "is_name" (zb4 zt3) (za9 zt3) (za3 zt3) .none kVN dcN pmN anN cdN ctN),slN⟩) (cN : dy1 K cdN "is_name" = true) (kN : cy9 K (.ref fN) = true)
  (aD : cy5 K cy2 "is_deed" = some (some (.ref fD))) (lD : K.lookup fD = some ⟨ocD,odD,.func (dy4 "is_deed" "is_deed" (zb4 zD9) (za9 zD9) (za3 zD9) .none kVD dcD pmD anD cdD ctD),slD⟩) (cD : dy1 K cdD "is_deed" = true) (kD : cy9 K (.ref fD) = true)
  (aO : cy5 K cy2 "hand_of" = some (some (.ref fO))) (lO : K.lookup fO = some ⟨ocO,odO,.func (dy4 "hand_of" "hand_of" (zb4 zj7) (za9 zj7) (za3 zj7) .none kVO dcO pmO anO cdO ctO),slO⟩) (cO : dy1 K cdO "hand_of" = true) (kO : cy9 K (.ref fO) = true)
  (aC : cy5 K cy2 "can_be_done" = some (some (.ref fC))) (lC : K.lookup fC = some ⟨ocC,odC,.func (dy4 "can_be_done" "can_be_done" (zb4 zZ1) (za9 zZ1) (za3 zZ1) .none kVC dcC pmC anC cdC ctC),slC⟩) (cC : dy1 K cdC "can_be_done" = true) (kC : cy9 K (.ref fC) = true)
  (aF : cy5 K cy2 "do_deed" = some (some (.ref fF))) (lF : K.lookup fF = some ⟨ocF,odF,.func (dy4 "do_deed" "do_deed" (zb4 sDo) (za9 sDo) (za3 sDo) .none kVF dcF pmF anF cdF ctF),slF⟩) (cF : dy1 K cdF "do_deed" = true) (kF : cy9 K (.ref fF) = true)
  (aB : cy5 K cy2 "lines_behind" = some (some (.ref fB))) (lB : K.lookup fB = some ⟨ocB,odB,.func (dy4 "lines_behind" "lines_behind" (zb4 zl8) (za9 zl8) (za3 zl8) .none kVB dcB pmB anB cdB ctB),slB⟩) (cB : dy1 K cdB "lines_behind" = true) (kB : cy9 K (.ref fB) = true)
  (aCG : cy5 K cy2 "can_go" = some (some (.ref fCG))) (lCG : K.lookup fCG = some ⟨ocCG,odCG,.func (dy4 "can_go" "can_go" (zb4 zs8) (za9 zs8) (za3 zs8) .none kVCG dcCG pmCG anCG cdCG ctCG),slCG⟩) (cCG : dy1 K cdCG "can_go" = true) (kCG : cy9 K (.ref fCG) = true)
  (aS : cy5 K cy2 "hands_of" = some (some (.ref fS))) (lS : K.lookup fS = some ⟨ocS,odS,.func (dy4 "hands_of" "hands_of" (zb4 zf7) (za9 zf7) (za3 zf7) .none kVS dcS pmS anS cdS ctS),slS⟩) (cS : dy1 K cdS "hands_of" = true) (kS : cy9 K (.ref fS) = true)
  (aV : cy5 K cy2 "view" = some (some (.ref fV))) (lV : K.lookup fV = some ⟨ocV,odV,.func (dy4 "view" "view" (zb4 zt4) (za9 zt4) (za3 zt4) .none kVV dcV pmV anV cdV ctV),slV⟩) (cV : dy1 K cdV "view" = true) (kV : cy9 K (.ref fV) = true)
  (aPH : cy5 K cy2 "parted_hand" = some (some (.ref fPH))) (lPH : K.lookup fPH = some ⟨ocPH,odPH,.func (dy4 "parted_hand" "parted_hand" (zb4 zk9) (za9 zk9) (za3 zk9) .none kVPH dcPH pmPH anPH cdPH ctPH),slPH⟩) (cPH : dy1 K cdPH "parted_hand" = true) (kPH : cy9 K (.ref fPH) = true)
  (aAL : cy5 K cy2 "alike" = some (some (.ref fAL))) (lAL : K.lookup fAL = some ⟨ocAL,odAL,.func (dy4 "alike" "alike" (zb4 zx3) (za9 zx3) (za3 zx3) .none kVAL dcAL pmAL anAL cdAL ctAL),slAL⟩) (cAL : dy1 K cdAL "alike" = true) (kAL : cy9 K (.ref fAL) = true)
  (aCH : cy5 K cy2 "changed" = some (some (.ref fCH))) (lCH : K.lookup fCH = some ⟨ocCH,odCH,.func (dy4 "changed" "changed" (zb4 zl0) (za9 zl0) (za3 zl0) .none kVCH dcCH pmCH anCH cdCH ctCH),slCH⟩) (cCH : dy1 K cdCH "changed" = true) (kCH : cy9 K (.ref fCH) = true)
  (aPL : cy5 K cy2 "places_to" = some (some (.ref fPL))) (lPL : K.lookup fPL = some ⟨ocPL,odPL,.func (dy4 "places_to" "places_to" (zb4 zl9) (za9 zl9) (za3 zl9) .none kVPL dcPL pmPL anPL cdPL ctPL),slPL⟩) (cPL : dy1 K cdPL "places_to" = true) (kPL : cy9 K (.ref fPL) = true)
  (aLR : cy5 K cy2 "least_row" = some (some (.ref fLR))) (lLR : K.lookup fLR = some ⟨ocLR,odLR,.func (dy4 "least_row" "least_row" (zb4 zf8) (za9 zf8) (za3 zf8) .none kVLR dcLR pmLR anLR cdLR ctLR),slLR⟩) (cLR : dy1 K cdLR "least_row" = true) (kLR : cy9 K (.ref fLR) = true)
  (aL : cy5 K cy2 "least_behind" = some (some (.ref fL))) (lL : K.lookup fL = some ⟨ocL,odL,.func (dy4 "least_behind" "least_behind" (zb4 zh4) (za9 zh4) (za3 zh4) .none kVL dcL pmL anL cdL ctL),slL⟩) (cL : dy1 K cdL "least_behind" = true) (kL : cy9 K (.ref fL) = true)
  (aBE : cy5 K cy2 "is_beginning" = some (some (.ref fBE))) (lBE : K.lookup fBE = some ⟨ocBE,odBE,.func (dy4 "is_beginning" "is_beginning" (zb4 zd8) (za9 zd8) (za3 zd8) .none kVBE dcBE pmBE anBE cdBE ctBE),slBE⟩) (cBE : dy1 K cdBE "is_beginning" = true) (kBE : cy9 K (.ref fBE) = true)
  (aRE : cy5 K cy2 "rest" = some (some (.ref fRE))) (lRE : K.lookup fRE = some ⟨ocRE,odRE,.func (dy4 "rest" "rest" (zb4 zE0) (za9 zE0) (za3 zE0) .none kVRE dcRE pmRE anRE cdRE ctRE),slRE⟩) (cRE : dy1 K cdRE "rest" = true) (kRE : cy9 K (.ref fRE) = true)
  (aLO : cy5 K cy2 "left_of" = some (some (.ref fLO))) (lLO : K.lookup fLO = some ⟨ocLO,odLO,.func (dy4 "left_of" "left_of" (zb4 zN5) (za9 zN5) (za3 zN5) .none kVLO dcLO pmLO anLO cdLO ctLO),slLO⟩) (cLO : dy1 K cdLO "left_of" = true) (kLO : cy9 K (.ref fLO) = true)
  (aX1 : cy5 K cy2 "_law_mixed" = some (some (.ref fX1))) (lX1 : K.lookup fX1 = some ⟨ocX1,odX1,.func (dy4 "_law_mixed" "_law_mixed" (zb4 zs9) (za9 zs9) (za3 zs9) .none kVX1 dcX1 pmX1 anX1 cdX1 ctX1),slX1⟩) (cX1 : dy1 K cdX1 "_law_mixed" = true) (kX1 : cy9 K (.ref fX1) = true)
  (aP : cy5 K cy2 "_law_pack" = some (some (.ref fP))) (lP : K.lookup fP = some ⟨ocP,odP,.func (dy4 "_law_pack" "_law_pack" (zb4 zN6) (za9 zN6) (za3 zN6) .none kVP dcP pmP anP cdP ctP),slP⟩) (cP : dy1 K cdP "_law_pack" = true) (kP : cy9 K (.ref fP) = true)
  (aR : cy5 K cy2 "_law_take" = some (some (.ref fR))) (lR : K.lookup fR = some ⟨ocR,odR,.func (dy4 "_law_take" "_law_take" (zb4 zx4) (za9 zx4) (za3 zx4) .none kVR dcR pmR anR cdR ctR),slR⟩) (cR : dy1 K cdR "_law_take" = true) (kR : cy9 K (.ref fR) = true)
  (aH : cy5 K cy2 "_law_hands" = some (some (.ref fH))) (lH : K.lookup fH = some ⟨ocH,odH,.func (dy4 "_law_hands" "_law_hands" (zb4 zx5) (za9 zx5) (za3 zx5) .none kVH dcH pmH anH cdH ctH),slH⟩) (cH : dy1 K cdH "_law_hands" = true) (kH : cy9 K (.ref fH) = true)
  (aX2 : cy5 K cy2 "_law_sending" = some (some (.ref fX2))) (lX2 : K.lookup fX2 = some ⟨ocX2,odX2,.func (dy4 "_law_sending" "_law_sending" (zb4 zh9) (za9 zh9) (za3 zh9) .none kVX2 dcX2 pmX2 anX2 cdX2 ctX2),slX2⟩) (cX2 : dy1 K cdX2 "_law_sending" = true) (kX2 : cy9 K (.ref fX2) = true)
  (aX3 : cy5 K cy2 "_law_taking" = some (some (.ref fX3))) (lX3 : K.lookup fX3 = some ⟨ocX3,odX3,.func (dy4 "_law_taking" "_law_taking" (zb4 zl1) (za9 zl1) (za3 zl1) .none kVX3 dcX3 pmX3 anX3 cdX3 ctX3),slX3⟩) (cX3 : dy1 K cdX3 "_law_taking" = true) (kX3 : cy9 K (.ref fX3) = true)
  (aX4 : cy5 K cy2 "_law_done" = some (some (.ref fX4))) (lX4 : K.lookup fX4 = some ⟨ocX4,odX4,.func (dy4 "_law_done" "_law_done" (zb4 zN7) (za9 zN7) (za3 zN7) .none kVX4 dcX4 pmX4 anX4 cdX4 ctX4),slX4⟩) (cX4 : dy1 K cdX4 "_law_done" = true) (kX4 : cy9 K (.ref fX4) = true)
  (aQ : cy5 K cy2 "_law_row" = some (some (.ref fQ))) (lQ : K.lookup fQ = some ⟨ocQ,odQ,.func (dy4 "_law_row" "_law_row" (zb4 sRow) (za9 sRow) (za3 sRow) .none kVQ dcQ pmQ anQ cdQ ctQ),slQ⟩) (cQ : dy1 K cdQ "_law_row" = true) (kQ : cy9 K (.ref fQ) = true)
  (aX5 : cy5 K cy2 "_law_hand" = some (some (.ref fX5))) (lX5 : K.lookup fX5 = some ⟨ocX5,odX5,.func (dy4 "_law_hand" "_law_hand" (zb4 zt0) (za9 zt0) (za3 zt0) .none kVX5 dcX5 pmX5 anX5 cdX5 ctX5),slX5⟩) (cX5 : dy1 K cdX5 "_law_hand" = true) (kX5 : cy9 K (.ref fX5) = true)
  (aX8 : cy5 K cy2 "_law_can" = some (some (.ref fX8))) (lX8 : K.lookup fX8 = some ⟨ocX8,odX8,.func (dy4 "_law_can" "_law_can" (zb4 zJ2) (za9 zJ2) (za3 zJ2) .none kVX8 dcX8 pmX8 anX8 cdX8 ctX8),slX8⟩) (cX8 : dy1 K cdX8 "_law_can" = true) (kX8 : cy9 K (.ref fX8) = true)
  (aX9 : cy5 K cy2 "_law_shuffled" = some (some (.ref fX9))) (lX9 : K.lookup fX9 = some ⟨ocX9,odX9,.func (dy4 "_law_shuffled" "_law_shuffled" (zb4 zN8) (za9 zN8) (za3 zN8) .none kVX9 dcX9 pmX9 anX9 cdX9 ctX9),slX9⟩) (cX9 : dy1 K cdX9 "_law_shuffled" = true) (kX9 : cy9 K (.ref fX9) = true)
  (aI : cy5 K cy2 "_law_right" = some (some (.ref fI))) (lI : K.lookup fI = some ⟨ocI,odI,.func (dy4 "_law_right" "_law_right" (zb4 zx6) (za9 zx6) (za3 zx6) .none kVI dcI pmI anI cdI ctI),slI⟩) (cI : dy1 K cdI "_law_right" = true) (kI : cy9 K (.ref fI) = true)
  (aZ : cy5 K cy2 "law" = some (some (.ref fZ))) (lZ : K.lookup fZ = some ⟨ocZ,odZ,.func (dy4 "law" "law" (zb4 sLaw) (za9 sLaw) (za3 sLaw) .none kVZ dcZ pmZ anZ cdZ ctZ),slZ⟩) (cZ : dy1 K cdZ "law" = true) (kZ : cy9 K (.ref fZ) = true)
  (z0 : cy5 K cy2 "isinstance" = some none)
  (z1 : cy5 K cy2 "int" = some none)
  (z2 : cy5 K cy2 "tuple" = some none)
  (z3 : cy5 K cy2 "len" = some none)
  (z4 : cy5 K cy2 "all" = some none)
  (z5 : cy5 K cy2 "range" = some none)
  (z6 : cy5 K cy2 "divmod" = some none)
  (z7 : cy5 K cy2 "sum" = some none)
  (z8 : cy5 K cy2 "sorted" = some none)
  (z9 : cy5 K cy2 "str" = some none)
  (z10 : cy5 K cy2 "enumerate" = some none)
  (z11 : cy5 K cy2 "list" = some none)
  (z12 : cy5 K cy2 "any" = some none)
  (z13 : cy5 K cy2 "min" = some none)
  (aLet : cy5 K cy2 "LETTERS" = some (some (.str "abcdefghijklmnopqrstuvwxyz" tl)))
  (aLon : cy5 K cy2 "LONGEST_NAME" = some (some (.int 8 tn)))
  (aKin : cy5 K cy2 "KINDS" = some (some (.ref kdA)))
  (lKin : K.lookup kdA = some ⟨.type "tuple",odJ,.seq #[.str "send" t1,.str "take" t2] nK,slJ⟩)
  : ∃ fd : ey4,(∀ (s : Shared) (v : Value),BindsTo s fd ⟨[v],[]⟩ [("_law_script",v)]) /\ ∀ base : Heap,K.In base->base.Ns cy2 mg->zj9 l.prog w K mg base CX0 8 fa fd ["_law_script"] (zb19 K):=by
 have e:=hfa.symm.trans (dy5 X G aZ);cases e;have T : zO2 K mg kdA:=⟨⟨fy8 X G z0,fy8 X G z1,fy8 X G z2,fy8 X G z3,fy8 X G z4,fy8 X G z5,fy8 X G z6,fy8 X G z7,fy8 X G z8,fy8 X G z9,fy8 X G z10,fy8 X G z11,fy8 X G z12,fy8 X G z13⟩,⟨tl,dy5 X G aLet⟩,⟨tn,dy5 X G aLon⟩,dy5 X G aKin,fun H=>.inr ⟨_,_,_,lKin,rfl,rfl,(by show 2 <= by0; decide),.cons ⟨_,rfl⟩ (.cons ⟨_,rfl⟩ .nil)⟩⟩
 have FN:=zc8 (st:=zt3) lN cN kN;have FD:=zc8 (st:=zD9) lD cD kD;have FO:=zc8 (st:=zj7) lO cO kO;have FC:=zc8 (st:=zZ1) lC cC kC;have FF:=zc8 (st:=sDo) lF cF kF;have FB:=zc8 (st:=zl8) lB cB kB;have FCG:=zc8 (st:=zs8) lCG cCG kCG;have FS:=zc8 (st:=zf7) lS cS kS;have FV:=zc8 (st:=zt4) lV cV kV;have FPH:=zc8 (st:=zk9) lPH cPH kPH;have FAL:=zc8 (st:=zx3) lAL cAL kAL;have FCH:=zc8 (st:=zl0) lCH cCH kCH;have FPL:=zc8 (st:=zl9) lPL cPL kPL;have FLR:=zc8 (st:=zf8) lLR cLR kLR;have FL:=zc8 (st:=zh4) lL cL kL;have FBE:=zc8 (st:=zd8) lBE cBE kBE;have FRE:=zc8 (st:=zE0) lRE cRE kRE;have FLO:=zc8 (st:=zN5) lLO cLO kLO;have FX1:=zc8 (st:=zs9) lX1 cX1 kX1;have FP:=zc8 (st:=zN6) lP cP kP;have FR:=zc8 (st:=zx4) lR cR kR;have FH:=zc8 (st:=zx5) lH cH kH;have FX2:=zc8 (st:=zh9) lX2 cX2 kX2;have FX3:=zc8 (st:=zl1) lX3 cX3 kX3;have FX4:=zc8 (st:=zN7) lX4 cX4 kX4;have FQ:=zc8 (st:=sRow) lQ cQ kQ;have FX5:=zc8 (st:=zt0) lX5 cX5 kX5;have FX8:=zc8 (st:=zJ2) lX8 cX8 kX8;have FX9:=zc8 (st:=zN8) lX9 cX9 kX9;have FI:=zc8 (st:=zx6) lI cI kI;have FZ:=zc8 (st:=sLaw) lZ cZ kZ;have bN:=FN.binds (ps:=["thing"]) fun _ _ _ _ _ _ us hl=>by obtain ⟨a0,rfl⟩:=us1 hl; rfl
 have bD:=FD.binds (ps:=["thing"]) fun _ _ _ _ _ _ us hl=>by obtain ⟨a0,rfl⟩:=us1 hl; rfl
 have bO:=FO.binds (ps:=["deed"]) fun _ _ _ _ _ _ us hl=>by obtain ⟨a0,rfl⟩:=us1 hl; rfl
 have bC:=FC.binds (ps:=["lines", "deed"]) fun _ _ _ _ _ _ us hl=>by obtain ⟨a0,a1,rfl⟩:=us2 hl; rfl
 have bF:=FF.binds (ps:=["lines", "deed"]) fun _ _ _ _ _ _ us hl=>by obtain ⟨a0,a1,rfl⟩:=us2 hl; rfl
 have bB:=FB.binds (ps:=["row"]) fun _ _ _ _ _ _ us hl=>by obtain ⟨a0,rfl⟩:=us1 hl; rfl
 have bCG:=FCG.binds (ps:=["thing"]) fun _ _ _ _ _ _ us hl=>by obtain ⟨a0,rfl⟩:=us1 hl; rfl
 have bS:=FS.binds (ps:=["row"]) fun _ _ _ _ _ _ us hl=>by obtain ⟨a0,rfl⟩:=us1 hl; rfl
 have bV:=FV.binds (ps:=["row", "hand"]) fun _ _ _ _ _ _ us hl=>by obtain ⟨a0,a1,rfl⟩:=us2 hl; rfl
 have bPH:=FPH.binds (ps:=["row", "other"]) fun _ _ _ _ _ _ us hl=>by obtain ⟨a0,a1,rfl⟩:=us2 hl; rfl
 have bAL:=FAL.binds (ps:=["row", "other"]) fun _ _ _ _ _ _ us hl=>by obtain ⟨a0,a1,rfl⟩:=us2 hl; rfl
 have bCH:=FCH.binds (ps:=["row", "other"]) fun _ _ _ _ _ _ us hl=>by obtain ⟨a0,a1,rfl⟩:=us2 hl; rfl
 have bPL:=FPL.binds (ps:=["row", "other"]) fun _ _ _ _ _ _ us hl=>by obtain ⟨a0,a1,rfl⟩:=us2 hl; rfl
 have bLR:=FLR.binds (ps:=["row"]) fun _ _ _ _ _ _ us hl=>by obtain ⟨a0,rfl⟩:=us1 hl; rfl
 have bL:=FL.binds (ps:=["begun", "views"]) fun _ _ _ _ _ _ us hl=>by obtain ⟨a0,a1,rfl⟩:=us2 hl; rfl
 have bBE:=FBE.binds (ps:=["row", "other"]) fun _ _ _ _ _ _ us hl=>by obtain ⟨a0,a1,rfl⟩:=us2 hl; rfl
 have bRE:=FRE.binds (ps:=["row", "other"]) fun _ _ _ _ _ _ us hl=>by obtain ⟨a0,a1,rfl⟩:=us2 hl; rfl
 have bLO:=FLO.binds (ps:=["row", "other", "hand"]) fun _ _ _ _ _ _ us hl=>by obtain ⟨a0,a1,a2,rfl⟩:=us3 hl; rfl
 have bX1:=FX1.binds (ps:=["_law_cell"]) fun _ _ _ _ _ _ us hl=>by obtain ⟨a0,rfl⟩:=us1 hl; rfl
 have bP:=FP.binds (ps:=["_law_script", "_law_k"]) fun _ _ _ _ _ _ us hl=>by obtain ⟨a0,a1,rfl⟩:=us2 hl; rfl
 have bR:=FR.binds (ps:=["_law_pack_here", "_law_size"]) fun _ _ _ _ _ _ us hl=>by obtain ⟨a0,a1,rfl⟩:=us2 hl; rfl
 have bH:=FH.binds (ps:=["_law_pack_here"]) fun _ _ _ _ _ _ us hl=>by obtain ⟨a0,rfl⟩:=us1 hl; rfl
 have bX2:=FX2.binds (ps:=["_law_pack_here", "_law_hands_here"]) fun _ _ _ _ _ _ us hl=>by obtain ⟨a0,a1,rfl⟩:=us2 hl; rfl
 have bX3:=FX3.binds (ps:=["_law_pack_here", "_law_under"]) fun _ _ _ _ _ _ us hl=>by obtain ⟨a0,a1,rfl⟩:=us2 hl; rfl
 have bX4:=FX4.binds (ps:=["_law_under", "_law_deed"]) fun _ _ _ _ _ _ us hl=>by obtain ⟨a0,a1,rfl⟩:=us2 hl; rfl
 have bQ:=FQ.binds (ps:=["_law_pack_here", "_law_hands_here", "_law_letters", "_law_story"]) fun _ _ _ _ _ _ us hl=>by obtain ⟨a0,a1,a2,a3,rfl⟩:=us4 hl; rfl
 have bX5:=FX5.binds (ps:=["_law_deed"]) fun _ _ _ _ _ _ us hl=>by obtain ⟨a0,rfl⟩:=us1 hl; rfl
 have bX8:=FX8.binds (ps:=["_law_row_here"]) fun _ _ _ _ _ _ us hl=>by obtain ⟨a0,rfl⟩:=us1 hl; rfl
 have bX9:=FX9.binds (ps:=["_law_pack_here", "_law_row_here", "_law_turns"]) fun _ _ _ _ _ _ us hl=>by obtain ⟨a0,a1,a2,rfl⟩:=us3 hl; rfl
 have bI:=FI.binds (ps:=["_law_row_here", "_law_other", "_law_first", "_law_second"]) fun _ _ _ _ _ _ us hl=>by obtain ⟨a0,a1,a2,a3,rfl⟩:=us4 hl; rfl
 exact ⟨dy4 "law" "law" (zb4 sLaw) (za9 sLaw) (za3 sLaw) .none kVZ dcZ pmZ anZ cdZ ctZ,fun s v=>.of_eq rfl,fun base _ _=>ze76 FZ T ⟨⟨⟨FN,bN,dy5 X G aN⟩,⟨FD,bD,dy5 X G aD⟩,⟨FC,bC,dy5 X G aC⟩,⟨FF,bF,dy5 X G aF⟩,⟨FB,bB,dy5 X G aB⟩,⟨FO,bO,dy5 X G aO⟩⟩,⟨FS,bS,dy5 X G aS⟩,⟨FV,bV,dy5 X G aV⟩,⟨FL,bL,dy5 X G aL⟩,⟨FCG,bCG,dy5 X G aCG⟩,⟨FLO,bLO,dy5 X G aLO⟩⟩ ⟨⟨FBE,bBE,dy5 X G aBE⟩,⟨FRE,bRE,dy5 X G aRE⟩,⟨FAL,bAL,dy5 X G aAL⟩,⟨FCH,bCH,dy5 X G aCH⟩,⟨FLR,bLR,dy5 X G aLR⟩,⟨FPH,bPH,dy5 X G aPH⟩,⟨FPL,bPL,dy5 X G aPL⟩⟩ ⟨⟨FR,bR,dy5 X G aR⟩,⟨FX2,bX2,dy5 X G aX2⟩,⟨FX3,bX3,dy5 X G aX3⟩,⟨FX4,bX4,dy5 X G aX4⟩⟩ ⟨⟨FX1,bX1,dy5 X G aX1⟩,⟨FP,bP,dy5 X G aP⟩,⟨FH,bH,dy5 X G aH⟩,⟨FQ,bQ,dy5 X G aQ⟩,⟨FX9,bX9,dy5 X G aX9⟩,⟨FI,bI,dy5 X G aI⟩,⟨FX5,bX5,dy5 X G aX5⟩,⟨FX8,bX8,dy5 X G aX8⟩⟩⟩
theorem walk {l : PySem.W.OpenLaw} {q : cy6} {loose : List Str} {XP : (Str->Option Value)->Heap->Prop} {YP : World->Heap->Prop} {d : DefRec} {K : Params->ay4} (hn : l.most = some 63) (hdf : d.params.defaults = [])
  (hY : ∀ (w : World) (h : Heap),YP w h->(K w.params).In h)
  (F : ∀ (w : World) (mg : Str->Option Value) (fa : Addr) (h : Heap),(K w.params).In h->h.Ns cy2 mg->mg d.name = some (.ref fa) ->
   ∃ fd : ey4,(∀ (s : Shared) (u : Value),BindsTo s fd ⟨[u],[]⟩ [("_law_script",u)]) /\ ∀ base : Heap,(K w.params).In base->base.Ns cy2 mg->zj9 l.prog w (K w.params) mg base CX0 8 fa fd ["_law_script"] (zb19 (K w.params))) :
  PySem.W.WalkO q loose XP YP l.row.toRowW d [] (fun f vs=>PySem.call f vs) :=
 L2.zb47 (n:=63) (k:=8) (x := "_law_script") (CX:=fun _=>CX0) (sp:=fun w=>zb19 (K w.params)) hn (by decide) hdf ⟨rfl,by decide,by decide⟩ hY F (fun _ _ a ns hl hb _ hS=>zb20 hl hb hS) fun _ _ _ _ _ z=>z
end K1
open PySem PySem.W PyProof.Rows
set_option maxRecDepth 100000 in
set_option maxHeartbeats 0 in
theorem PySem.Challenge.cw_talehands_k17_whole_beginnings_go_on_holds : PySem.Challenge.rw_talehands_k17_whole_beginnings_go_on.Holds := by
 w_on; o_law; k_head; (case hw=>w_witness2)
 k_fill
 refine K1.walk (l:=PySem.Challenge.rw_talehands_k17_whole_beginnings_go_on) rfl rfl (fun w h Y=>PySem.W.kIn_of Y) ?F
 case F =>
  intro w mg fa h KX G hmg;refine' K1.all_mk KX G hmg ?aN ?lN ?cN ?kN ?aD ?lD ?cD ?kD ?aO ?lO ?cO ?kO ?aC ?lC ?cC ?kC ?aF ?lF ?cF ?kF ?aB ?lB ?cB ?kB ?aCG ?lCG ?cCG ?kCG ?aS ?lS ?cS ?kS ?aV ?lV ?cV ?kV ?aPH ?lPH ?cPH ?kPH ?aAL ?lAL ?cAL ?kAL ?aCH ?lCH ?cCH ?kCH ?aPL ?lPL ?cPL ?kPL ?aLR ?lLR ?cLR ?kLR ?aL ?lL ?cL ?kL ?aBE ?lBE ?cBE ?kBE ?aRE ?lRE ?cRE ?kRE ?aLO ?lLO ?cLO ?kLO ?aX1 ?lX1 ?cX1 ?kX1 ?aP ?lP ?cP ?kP ?aR ?lR ?cR ?kR ?aH ?lH ?cH ?kH ?aX2 ?lX2 ?cX2 ?kX2 ?aX3 ?lX3 ?cX3 ?kX3 ?aX4 ?lX4 ?cX4 ?kX4 ?aQ ?lQ ?cQ ?kQ ?aX5 ?lX5 ?cX5 ?kX5 ?aX8 ?lX8 ?cX8 ?kX8 ?aX9 ?lX9 ?cX9 ?kX9 ?aI ?lI ?cI ?kI ?aZ ?lZ ?cZ ?kZ ?z0 ?z1 ?z2 ?z3 ?z4 ?z5 ?z6 ?z7 ?z8 ?z9 ?z10 ?z11 ?z12 ?z13 ?aLet ?aLon ?aKin ?lKin
  (case aN=>k_is)
  (case lN=>k_is)
  (case cN=>k_is)
  (case kN=>k_is)
  (case aD=>k_is)
  (case lD=>k_is)
  (case cD=>k_is)
  (case kD=>k_is)
  (case aO=>k_is)
  (case lO=>k_is)
  (case cO=>k_is)
  (case kO=>k_is)
  (case aC=>k_is)
  (case lC=>k_is)
  (case cC=>k_is)
  (case kC=>k_is)
  (case aF=>k_is)
  (case lF=>k_is)
  (case cF=>k_is)
  (case kF=>k_is)
  (case aB=>k_is)
  (case lB=>k_is)
  (case cB=>k_is)
  (case kB=>k_is)
  (case aCG=>k_is)
  (case lCG=>k_is)
  (case cCG=>k_is)
  (case kCG=>k_is)
  (case aS=>k_is)
  (case lS=>k_is)
  (case cS=>k_is)
  (case kS=>k_is)
  (case aV=>k_is)
  (case lV=>k_is)
  (case cV=>k_is)
  (case kV=>k_is)
  (case aPH=>k_is)
  (case lPH=>k_is)
  (case cPH=>k_is)
  (case kPH=>k_is)
  (case aAL=>k_is)
  (case lAL=>k_is)
  (case cAL=>k_is)
  (case kAL=>k_is)
  (case aCH=>k_is)
  (case lCH=>k_is)
  (case cCH=>k_is)
  (case kCH=>k_is)
  (case aPL=>k_is)
  (case lPL=>k_is)
  (case cPL=>k_is)
  (case kPL=>k_is)
  (case aLR=>k_is)
  (case lLR=>k_is)
  (case cLR=>k_is)
  (case kLR=>k_is)
  (case aL=>k_is)
  (case lL=>k_is)
  (case cL=>k_is)
  (case kL=>k_is)
  (case aBE=>k_is)
  (case lBE=>k_is)
  (case cBE=>k_is)
  (case kBE=>k_is)
  (case aRE=>k_is)
  (case lRE=>k_is)
  (case cRE=>k_is)
  (case kRE=>k_is)
  (case aLO=>k_is)
  (case lLO=>k_is)
  (case cLO=>k_is)
  (case kLO=>k_is)
  (case aX1=>k_is)
  (case lX1=>k_is)
  (case cX1=>k_is)
  (case kX1=>k_is)
  (case aP=>k_is)
  (case lP=>k_is)
  (case cP=>k_is)
  (case kP=>k_is)
  (case aR=>k_is)
  (case lR=>k_is)
  (case cR=>k_is)
  (case kR=>k_is)
  (case aH=>k_is)
  (case lH=>k_is)
  (case cH=>k_is)
  (case kH=>k_is)
  (case aX2=>k_is)
  (case lX2=>k_is)
  (case cX2=>k_is)
  (case kX2=>k_is)
  (case aX3=>k_is)
  (case lX3=>k_is)
  (case cX3=>k_is)
  (case kX3=>k_is)
  (case aX4=>k_is)
  (case lX4=>k_is)
  (case cX4=>k_is)
  (case kX4=>k_is)
  (case aQ=>k_is)
  (case lQ=>k_is)
  (case cQ=>k_is)
  (case kQ=>k_is)
  (case aX5=>k_is)
  (case lX5=>k_is)
  (case cX5=>k_is)
  (case kX5=>k_is)
  (case aX8=>k_is)
  (case lX8=>k_is)
  (case cX8=>k_is)
  (case kX8=>k_is)
  (case aX9=>k_is)
  (case lX9=>k_is)
  (case cX9=>k_is)
  (case kX9=>k_is)
  (case aI=>k_is)
  (case lI=>k_is)
  (case cI=>k_is)
  (case kI=>k_is)
  (case aZ=>k_is)
  (case lZ=>k_is)
  (case cZ=>k_is)
  (case kZ=>k_is)
  (case z0=>k_is)
  (case z1=>k_is)
  (case z2=>k_is)
  (case z3=>k_is)
  (case z4=>k_is)
  (case z5=>k_is)
  (case z6=>k_is)
  (case z7=>k_is)
  (case z8=>k_is)
  (case z9=>k_is)
  (case z10=>k_is)
  (case z11=>k_is)
  (case z12=>k_is)
  (case z13=>k_is)
  (case aLet=>k_is)
  (case aLon=>k_is)
  (case aKin=>k_is)
  (case lKin=>k_is)
