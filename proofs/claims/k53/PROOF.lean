import PyProof.Rows.All
import Wide.All
import OpenK.AllK
import Wide.FinOn
import Lean
import PyProof.EqAt
import PyProof.EqKinds
import PyProof.TupleCall
import PyProof.StrLawsIn
import PyProof.StrLawsJoin
import PyProof.ZipIter
import PyProof.EnumFor
import PyProof.EnumMake
import PyProof.EnumStmt
import PyProof.DictItems
import KE.KPairComp
import KE.KSortTup
import PyProof.DictWalks
import PyProof.Rows.SortWalk
import PyProof.Rows.SortRuns
import PyProof.ReprRoads
import PyProof.ReprLen
import PyProof.NsDelKeeps
import PyProof.RulesAs
import PyProof.AttrMissHeap
import KE.KDictOf
import PyProof.MinMaxWalk
import PyProof.ConsumeWalk
import PyProof.P3In
import PyProof.ListRange
import KE.KDictLaws
import KE.KRevIter
import PyProof.Rows.RuleM_int
import PySem.Challenge.RW_vatyard_k53_soonest_far
set_option Elab.async false
set_option genSizeOf false
set_option genInjectivity false
set_option bootstrap.genMatcherCode false
set_option compiler.extract_closed false
set_option compiler.extract_closed false
set_option linter.all false
set_option maxRecDepth 100000
set_option maxHeartbeats 4000000
noncomputable section
local macro_rules|`(tactic|walk_at $s)=>match s.getString.toNat? with|some n=>do let a:=((("F H Y U Qd Q s rv h k|pins s Y H Q I h|F H Y U Qd Q s rv hd k|B F H Y U fps E Z r h k|pins s Y H xs us Q I r h|pins s Y H D I h|F H x y d e Qd Q s q p h k|F H Y U Qd R s rv hd k|X J hw L W i pins s Y H E I y st G|B F H Y U fps Qd Q r hd k|pins s Y H x y v u Q I m g h|pins s Y H x y v u Q I g m h|pins s Y H x y v u Q I g f h|pins s Y H R I h|f cdv A outer s H vs Q E hr h|pins s Y H x y v u Q I p m h|pins s Y H x v B A lo hi sl Q I m z pl p h|B F H Y U fps Qd Q rs hd k|X q hw y A i pins s Y H Q E M I st m O|X q hw y A i pins s Y H Q E I st m N|X hP hw hK W i pins s Y H E I f S U|X B hw G y i pins s Y H E I p st q|X x hw y J i pins s Y H E I q st u|X U hw W hc i pins s Y H E I M S O|F H Y U Qd Q s r h k|F H v u fn vs ds Kd Q s hr J p|pins s Y H x y v u Q I p g h|pins s Y H x y v u Q I o g h|pins s Y H x y v u Q I m f h|F H x y d e Qd Q s G B h k|a s Y H x y v u Q I i g q|pins s Y H vs us Q I r h|pins s Y H v u Q I r h|F H vs ds Qd Q s z h k|F H Y U Qd Q s r hd k".splitOn "|").getD n "").splitOn " ").toArray.map fun x=>Lean.mkIdent (.mkSimple x);`(tactic|intro $a*)|none=>Lean.Macro.throwUnsupported
open PySem renaming Value → aC, Addr → aE, wpAny_bind → aG, Shared → aH, wpAny → aL, model → aM, wpAny_pure → aP, Program → aQ, World → aR, mainGlobals → aT, starEach → aW, Heap → aX, sizeLine_eq → aY, Expr → aZ, PyData → a6, Around → bB, compareOp → bC, eval → bD, bootBuiltins → bH, mem_of_lookup → bO, wpAny_field → bS, sliceBounds → bT, binaryOp → bU, NameKind → bV, backTo → b7, cellsFrom → b8, wpAny_seqItems → b9, wpAny_mono → cA, sysModules → cB, wpAny_newObj_type → cG, wpAny_callSpecial?_slot → cH, cLine → cJ, wpAny_rule → cK, wpAny_setField_rec → cL, wpAny_passesOwn → cM, wpAny_holding → cO, FuncData → cZ, wpAny_call_entry → dB, attributeBase → dG, tupleKind_room_in1 → dH, Stmt → dI, assignEach → dL, holding → dN, keywordEach → dP, wpAny_Call_Name_kw → dS, codeAny → dZ, wpAny_truthy_bool → d4, Scope → d7, behindInMarks → d8, getMethod → eE, IsPair → eK, call_meets → eM, wpAny_execs_nil → eP, letOwnedTupleGo → eQ, wpAny_updateSeq_pair → eU, standAt → eW, relabel → eX, getItem → eZ, callerA → e6, BindsTo → e7, backToKw → e8, assign → fG, wpAny_onRaise → fK, wpAny_pyIter_list → fM, foldedSetIterable → fN, IsZip → fR, sliceRange → fS, valueAt → fT, IsPart → fU, codeAny_mono → fV, strKind_is → fW, wpAny_getItem_list_slice → fX, wpAny_comprehension_free → fY, atKey → fZ, tupleKind → f8, swapsWith → f9, slicePick → gA, pushCells → gB, wpAny_pyNext_list_item → gE, pyNext → gG, notedBy → gH, newFunctionEnv → gI, wpAny_pyNext_list_end → gJ, field → gK, bindL → gM, bindC → gO, callWith → gQ, PlainAttrs → gR, wpAny_loadName_local → gS, wpAny_standAt → gU, wpAny_attempt → gV, strKind → gW, wpAny_loadName_cell → gX, pyIter → gY, isTrue → gZ, wpAny_typeOf → g7, seqIndex_neg → g8, concat_meets → g9, Within → hU, wpAny_pyIter_tuple → hV, getattributeRaised → iA, wpAny_pyIter_enum → iD, wpAny_assign_Name → iE, wpAny_letGo → iH, seqIndex_of → iI, bindArgs → iJ, wpAny_pyIter_zip → iK, wpAny_getItem_of → iM, wpAny_execs_cons → iN, noFill_tuple_add → iO, rawInt → iR, Result → iS, wpAny_Name → iT, typeIs_str → iU, typeIs_int → iV, builtinsNs → iX, call → iZ, wpAny_loadPart' → i6, pushCells_keeps → i7, codeAny_builtin → i8, setItem → lC, Keyword → lD, wpAny_setField → lG, wpAny_notIn_of → lH, wpAny_newTuple → lI, firstArgMember → lK, storeName → lO, seqItems? → lP, typeOf → lV, Params → lW
open PyProof.Rows renaming wpS_bind → aI, wpS_pure → aJ, pendingOf → aS, wpS_forRange → bG, SortSt → bJ, Keyed → bN, wpS_mono → bR, wpS_modify → bW, callWith_type1 → b6, IntsAre → cI, wpS_get → dE, envOfC → dJ, seqObj → dR, wpS_lift → eA, failedOf → eB, SortKind → eC, AllBare → eD, slot_tuple_getitem → eJ, subscriptTail_builtinR → gF, tail_any → gP, Subscript_ → iY, callWith_builtin1 → lB, slicePart_none → lJ, IsTup → lT, oneType' → lX, mergeAt' → lY, bitXor_and → lZ, bitAnd_m1 → l4
open PySem.PassesOwn renaming never → a8
open PySem.W renaming findIn → a9, nsIn → bA, kia_one → bL, keepIn → bP, fnOf → bX, emptyDict → bZ, instObj → cC, codeIn → cY, plainGet → dM, callWith_K → dU, kitOne → d0, hasDictIn → d5, cellsFrom_some → d6, methodCall_KW → eI, isFn → eO, makesIn → eR, plainGet_of → eV, lookIn → e9, plainOver → fO, methodObj → fP, kitx_list → fQ, takerIn → gC, OpenLaw → gD, kitx_tuple → iB, kitx_dict → iF, handedIn → iP, binds_K → i9, WalkO → lQ
open PySem.Builtin.SmallTypes renaming nextOf → bF, ownedTupleIsFree → bY, ownedTupleHandOut → dW
open PySem.SeqAt renaming shaped → bI, eqv_refl → lM, EqAt → l5
open PySem.Heap renaming SameBut → bM, ExtBut → fF
open PySem.NameKind renaming free → bQ, cell → cP
open PySem.Builtin.List renaming listTooLong → cD
open PySem.F renaming slot_tuple_iterator_next → cQ, slot_zip_next → eS, args_tuple_iterator_next_1 → fE, entry_tuple_iterator_next → fJ, args_zip_next_1 → iG, entry_zip_next → iQ, slot_int_rmul → lA
open PySem.Obj renaming mapSeq → cU, data_mapFields → iC
open PySem.Builtin.Slice renaming slicePlaces → cX, sliceAdjust → dQ, sliceApplied → fL, slicePartIndex → lN, sliceFields → lU
open PySem.Builtin.Tuple renaming tupleExact → dD, tupleItemsOf → lR
open PySem.Paired renaming length → d9, snoc → l3
open PySem.Builtin renaming bitXor → fC
def aA:=@if_neg
def aF:=@if_pos
def aN:=@absurd
def a7:=@decide_eq_false
def bK:=@decide_eq_true
def cS:=@of_decide_eq_true
open List renaming range → u3, length_map → u4, getElem?_eq_getElem → u5, mem_range → u8, getElem?_map → u9, mem_map → vQ, mem_cons → vR, length_append → vT, replicate → vU, mem_append → vV, append_assoc → vW, size_toArray → vZ, map_cons → v4, map_append → v7, getElem?_eq_none → v8, nodup_cons → v9, mem_cons_of_mem → wA, lookup_cons → wC, getD_eq_getElem?_getD → wD, flatMap_cons → wE, map_map → wF, getElem?_eq_some_iff → wG, mem_cons_self → wJ, mem_of_getElem? → wK, length_take → wM, length_set → wN, length_range → wO, append_nil → wQ, getElem?_append_right → wR, nodup_append → wS, getElem?_append_left → wU, range_succ → wV, filterMap_cons → w8, mem_append_right → w9, length_cons → xA, lookup → xB, getElem_mem → xF, getElem?_set_self → xG, getElem?_replicate → xH, take_succ → xI, getElem?_range → xL, mem_append_left → xN, getElem?_mapIdx → xQ, take_length → xR, getElem?_set_ne → xS, any_cons → xV, getElem?_set → xX, sum_cons → xY, find?_cons → yB, take_of_length_le → yC, ext_getElem? → yD, perm_append_comm → yE, take_append_drop → yF, map_congr_left → yG, mem_filterMap → yI, length_drop → yJ, flatMap_nil → yL, mem_filter → yO, length_replicate → yQ, map_nil → yR, replicate_succ → yS, mem_flatMap → yU, map → yV, length_mapIdx → yW, flatten_cons → yZ, extract_eq_drop_take → y8, sum_append → y9, zip_append → zA, nodup_range → zB, all_cons → zH, foldl_cons → zI, length_singleton → zJ, of_mem_zip → zT, length_filterMap_le → zZ, filterMap_append → z7, map_take → z8, mem_map_of_mem → kP, flatMap_append → k7, zip_map' → k9, range_zero → j3, any_eq_true → j4, getElem?_eq_none_iff → j8, length → uaB, nil_append → uaD, forIn_cons → uaE, forIn_nil → uaG, zipIdx_cons → uaH, filterMap → uaK, dropLast_eq_take → uaL, eq_nil_of_length_eq_zero → uaN, reverse_perm → uaQ, map_snd_zip → uaR, getElem_of_mem → uaS, ext_getElem → uaT, getElem_map → uaU, range_succ_eq_map → uaV, mem_singleton → uaW, map_set → uaX, take_add_one → uaY, not_mem_nil → uaZ, getElem?_take_of_lt → ua2, filterMap_map → ua3, length_eq_zero_iff → ubA, mem_of_mem_drop → ubE, mem_of_mem_take → ubF, getElem_range → ubH, zip_cons_cons → ubI, getLast?_cons → ubJ, getLast?_eq_some_iff → ubK, dropLast_concat → ubL, flatten_replicate_singleton → ubM, map_replicate → ubN, drop_of_length_le → ubO, flatten_append → ubP
open PySem.PyData renaming int → u6, list → v5, str → wI, bool → wT, tuple → xC, eqv → xD, none → y4, canLayAll0 → zX, depthAll → zY
open Nat renaming le_refl → u7, zero_le → wH, le_trans → wL, ne_of_lt → wP, lt_or_ge → wX, lt_of_lt_of_le → wZ, lt_irrefl → xE, mul_le_mul_right → yM, le_of_lt → yP, add_mul → yT, ne_of_gt → zF, le_of_succ_le → zK, min_eq_left → zM, add_sub_cancel_left → zN, add_sub_cancel → zO, lt_succ_self → zR, le_succ → zS, mul_comm → zU, le_of_not_lt → zV, lt_succ_of_lt → zW, add_assoc → k8, succ_ne_zero → j5, succ_sub_one → j6, le_of_eq → uaA, add_comm → uaC, min_eq_right → uaI, lt_trichotomy → uaJ, eq_zero_or_pos → ubB, exists_eq_add_of_le → ubQ
open PySem.Heap renaming get?_push_of_some → vS, lt_size → vY, get?_push_size → wB, size_push → xU, get?_update_self → ua4, get?_update_other → ua5, get?_some_iff → ua9
open PySem.Value renaming ref → vX, none → xM, isStrOf → xZ, isInt → zC, int → zD, str → zE, bool → zQ, float → j7
open Bool renaming false_ne_true → v3, false_eq_true → yA, and_eq_true → yY, eq_iff_iff → zG, not_eq_true → uaF, and_eq_true_iff → ua7
open Int renaming toNat_natCast → v6, le_refl → xK, add_zero → yN, eq_ofNat_of_zero_le → yX, sub_zero → zP, le_trans → k6, fmod_eq_emod_of_nonneg → ua1, fdiv_eq_ediv_of_nonneg → ua8
open Sum renaming inl → wW, inr → yH
open Option renaming some → wY, map_eq_some_iff → w6, isSome_iff_exists → xO, isSome_map → zL, bind_eq_some_iff → uaM, isSome_some → ua6
open Array renaming toList_append → xJ, length_toList → xT, toList_push → yK, getElem?_toList → y3, toList_extract → y6, getElem?_eq_getElem → z9, toList → j9, perm_iff_toList_perm → uaO, toList_reverse → uaP, append_assoc → ua0, toList_setIfInBounds → ubC, size_extract → ubD, toList_modify → ubG
open Or renaming inr → xP, inl → xW
open PySem.Str renaming ofString → x9
local macro_rules|`(tactic|walk_at "vi")=>`(tactic|first|exact .inl rfl|exact .inr rfl|assumption)
abbrev Fg:=PySem.W.Frag
open PySem.F renaming plainAttrs_list → ğa, slot_list_append → ğb, type_list_append → ğc, slot_list_extend → ğd, type_list_extend → ğe, slot_list_pop → ğf, type_list_pop → ğg, slot_dict_getitem → ğh, args_tuple_add_2 → ği, entry_tuple_add → ğj, slot_tuple_add → ğk
namespace _2
open PySem PySem.Spec PyProof.Rows
variable {A:bB}{C a b dx it:aE}{E:aC->aH->Prop}{K:Fg}{M:Model}{N ps:List Str}{base:aX}{body:List dI}{ch fp:List aE}{es:List aZ}{f:aC->aC->Sem aC}{g':Array GenState}{i n:Nat}{kw:List (Str×aC)}{mA mg:Str->Option aC}{o:Obj}{op:Operator}{outer:List Env}{pins:List (aE×Obj)}{pos pos':Pos}{qual x:Str}{s:aH}{scope:d7}{tg:aZ}{u:aC}{us:List aC}{w:aR}
abbrev Key:=Sum Int Str
def zq21:Key->aC->Bool
|.inl k,v=>zC k v
|.inr x,v=>xZ x v
def keyH(w:aR):Key->Int
|.inl k=>hashInt k
|.inr x=>hashStr w x
theorem zt1:∀{k:Key}{v:aC},zq21 k v=true->(∃i t,k=wW i/\v=zD i t) \/ (∃x t,k=yH x/\v=zE x t)
|.inl i,v,h=>by
  obtain⟨t,e⟩:=Value.isInt_shape (k:=i) (v:=v) h;exact .inl ⟨i,t,rfl,e⟩
|.inr x,v,h=>by
  obtain⟨t,e⟩:=Value.isStrOf_shape (x:=x) (v:=v) h;exact .inr ⟨x,t,rfl,e⟩
theorem zhe(i:Int)(t:Tok):zq21 (.inl i) (.int i t)=true:=by simp[zq21,zC]
theorem zst(x:Str)(t:Tok):zq21 (.inr x) (.str x t)=true:=by simp[zq21,xZ]
theorem zc91(a b:Int):decide ((wW a:Key)=wW b)=(a == b):=by
 by_cases e:a=b
 ·subst e;simp
 ·have h:¬(wW a:Key)=wW b:=λq=>e (wW.inj q);rw[a7 h];exact(beq_eq_false_iff_ne.mpr e).symm
theorem zub1(a b:Str):decide ((yH a:Key)=yH b)=decide (a=b):=by
 by_cases e:a=b
 ·subst e;simp
 ·have h:¬(yH a:Key)=yH b:=λq=>e (yH.inj q);rw[a7 h,a7 e]
theorem zz81(a:Int)(b:Str):decide ((wW a:Key)=yH b)=false:=a7 (λq=>nomatch q)
theorem zn91(a:Str)(b:Int):decide ((yH a:Key)=wW b)=false:=a7 (λq=>nomatch q)
def ze2(prog:aQ)(w:aR):PySem.KeyKind prog w Key where
 is:=zq21
 hash:=keyH w
 inj:=λv a b z p=>by
  rcases zt1 z with⟨i,t,rfl,rfl⟩|⟨x,t,rfl,rfl⟩
  ·rcases zt1 p with⟨j,u,rfl,e⟩|⟨y,u,rfl,e⟩
   ·injection e with g _;rw[g]
   ·exact nomatch e
  ·rcases zt1 p with⟨j,u,rfl,e⟩|⟨y,u,rfl,e⟩
   ·exact nomatch e
   ·injection e with g _;rw[g]
 byValue:=λk v h=>by
  rcases zt1 h with⟨i,t,rfl,rfl⟩|⟨x,t,rfl,rfl⟩ <;> rfl
 pyHash:=λm h=>by
  rcases zt1 m with⟨i,t,rfl,rfl⟩|⟨x,t,rfl,rfl⟩
  ·exact wpAny_pyHash_int h
  ·exact wpAny_pyHash_str h
 eqBool:=λq m h=>by
  rcases zt1 q with⟨i,t,rfl,rfl⟩|⟨x,t,rfl,rfl⟩
  ·rcases zt1 m with⟨j,u,rfl,rfl⟩|⟨y,u,rfl,rfl⟩
   ·rw[zc91]at h;exact wpAny_eqBool_int h
   ·rw[zz81]at h;exact SeqAt.EqAt.int_str i t y u _ _ _ _ h
  ·rcases zt1 m with⟨j,u,rfl,rfl⟩|⟨y,u,rfl,rfl⟩
   ·rw[zn91]at h;exact SeqAt.EqAt.str_int x t j u _ _ _ _ h
   ·rw[zub1]at h;exact wpAny_eqBool_str h
 «strs»:=λk x t v h=>by
  rcases zt1 h with⟨i,u,rfl,e⟩|⟨y,u,rfl,e⟩
  ·exact nomatch e
  ·injection e with g _
   subst g
   cases v <;> rfl
theorem zal(prog:aQ)(w:aR)(i:Int)(t:Tok):(ze2 prog w).is (.inl i) (.int i t)=true:=zhe i t
theorem zqk(prog:aQ)(w:aR)(x:Str)(t:Tok):(ze2 prog w).is (.inr x) (.str x t)=true:=zst x t
set_option genInjectivity true in
inductive V where
|non|bl (b:Bool)|int (i:Int)|str (x:Str)|byt (b:Array UInt8)|flt (b:UInt64)|ref (a:aE)|ty (n:String)
 deriving DecidableEq
def RelV:V->aC->Prop
|.non,u=>u=xM
|.bl b,u=>u=zQ b
|.int i,u=>∃t,u=zD i t
|.str x,u=>∃t,u=zE x t
|.byt b,u=>∃t,u=Value.bytes b t
|.flt b,u=>∃t,u=j7 b t
|.ref a,u=>u=vX a
|.ty n,u=>u=Value.type n
abbrev Vals:List V->List aC->Prop:=Paired RelV
theorem Vals.length{xs:List V}{us:List aC}(r:Vals xs us):xs.length=us.length:=d9 r
theorem Vals.get:∀{xs:List V}{us:List aC}{i:Nat}{x:V},Vals xs us->xs[i]?=some x->∃u,us[i]?=some u/\RelV x u
|_,_,_,_,.nil,e=>by simp at e
|_,_,0,_,.cons r _,e=>by simp at e;subst e;exact⟨_,rfl,r⟩
|_,_,i+1,x,.cons _ t,e=>by
  obtain⟨u,m,g⟩:=Vals.get (i:=i) (x:=x) t (by simpa using e);exact⟨u,by simpa using m,g⟩
theorem Vals.set{x:V}{u:aC}(r:RelV x u):∀{xs:List V}{us:List aC}(i:Nat),Vals xs us->Vals (xs.set i x) (us.set i u)
|_,_,_,.nil=>.nil
|_,_,0,.cons _ t=>.cons r t
|_,_,i+1,.cons q t=>.cons q (Vals.set r i t)
theorem Vals.append:∀{xs ys:List V}{us ws:List aC},Vals xs us->Vals ys ws->Vals (xs++ys) (us++ws)
|_,_,_,_,.nil,s=>s
|_,_,_,_,.cons r t,s=>.cons r (Vals.append t s)
theorem Vals.take:∀{xs:List V}{us:List aC}(n:Nat),Vals xs us->Vals (xs.take n) (us.take n)
|_,_,0,_=>.nil
|_,_,_+1,.nil=>.nil
|_,_,n+1,.cons r t=>.cons r (Vals.take n t)
theorem Vals.drop:∀{xs:List V}{us:List aC}(n:Nat),Vals xs us->Vals (xs.drop n) (us.drop n)
|_,_,0,r=>r
|_,_,_+1,.nil=>.nil
|_,_,n+1,.cons _ t=>Vals.drop n t
theorem Vals.none_of:∀{xs:List V}{us:List aC}{i:Nat},Vals xs us->xs[i]?=none->us[i]?=none:=λ{xs us i} r e=>by
 have m:=r.length;have g:xs.length<=i:=j8.mp e;exact j8.mpr (by lia)
def RelO:Option V->Option aC->Prop
|some v,some u=>RelV v u
|none,none=>True
|_,_=>False
def KV{κ:Type}:List (κ×V)->List (κ×aC)->Prop:=Paired λ(p:κ×V)(q:κ×aC)=>p.1=q.1/\RelV p.2 q.2
def kV:Key->V
|.inl i=>.int i
|.inr x=>.str x
set_option genInjectivity true in
inductive HO where
 /-- a list -/
|lst (xs:List V)
 /-- a tuple (never changes) -/
|tup (xs:List V)
 /-- a dict whose keys are ints and texts;one whose keys are tuples of ints and texts (the empty one is both) -/
|dK (kvs:List (Key×V))|dT (kvs:List (List Key×V))
 /-- a set of ints: its members,its size -/
|set (S:Int->Bool) (n:Nat)
 /-- an instance of the class at C,its dict at dx,its attributes -/
|ins (C dx:aE) (fs:List (Str×V))
 /-- the dict of the instance at x -/
|own (x:aE)
 /-- the dict of an exception -/
|xd (fs:List (Str×V))
 /-- a bound method,f of x -/
|met (f x:aE)
 /-- a range object lo,lo+1,.. below hi -/
|rng (lo hi:Int)
 /-- a thing that is known to the object (the script;a dict while a loop walks it): read,never written while it is so -/
|frz (o:Obj) (u:HO)
 /-- a code object's table -/
|tbl (ps:Array aC)
 /-- any other thing,by what is true of its one object (a def of one's own: SetO a S n:=HO.ext λh=>..) -/
|ext (φ:aX->Prop)
abbrev Hp:=aE->Option HO
def upd(H:Hp)(a:aE)(o:HO):Hp:=λb=>if b=a then some o else H b
theorem zp0{H:Hp}{o:HO}:upd H a o a=some o:=by unfold upd;rw[aF rfl]
theorem zb1{H:Hp}{o:HO}(h:b≠a):upd H a o b=H b:=by unfold upd;rw[aA h]
theorem zme1{H:Hp}{o u:HO}(h:H a=some o)(h':H b=some u)(d:o≠u):a≠b:=by
 intro e;subst e;rw[h]at h';exact d (wY.inj h')
theorem zw4{H:Hp}{o:HO}(h:H a=some o)(h':H b=none):a≠b:=by
 intro e;subst e;rw[h]at h';cases h'
section
variable (P:aQ)(w:aR)
def ObjOk(H:Hp)(h:aX)(a:aE):HO->Prop
|.lst xs=>xs.length<=sizeLine/\∃(its:List aC)(n:Nat),Vals xs its/\h.get? a=some { cls:=.type "list",data:=.seq its.toArray n }
|.tup xs=>xs.length<=sizeLine/\∃its:List aC,Vals xs its/\lT h a its.toArray
|.dK kvs=>kvs.length<=sizeLine/\(a == cB)=false/\∃vs,KV kvs vs/\h.DictOf (ze2 P w) a vs
|.dT kvs=>kvs.length<=sizeLine/\(a == cB)=false/\∃xs:List (List Key×aE×aC),
   Paired (λ(p:List Key×V)(q:List Key×aE×aC)=>p.1=q.1/\H q.2.1=some (.tup (p.1.map kV))/\RelV p.2 q.2.2) kvs xs /\
   ∃o es ep,h.get? a=some o/\o.ExactDict/\o.data=.dict es ep/\es.toList=xs.map (entryOfKey (f8 (ze2 P w)))/\(xs.map (·.1)).Nodup
|.set S n=>h.SetOf (intKind P w) a S n
|.ins C dx fs=>H dx=some (.own a)/\fs.length<=1000/\dx≠a/\h.get? a=some (cC C dx) /\
   ∃mA,h.Ns1 dx mA/\(∀f,RelO (fs.lookup f) (mA f))/\hU mA (fs.map (·.1))
|.own _=>∃o,h.get? a=some o
|.xd fs=>∃mA,h.Ns1 a mA/\∀f,RelO (fs.lookup f) (mA f)
|.rng lo hi=>∃t u v,h.get? a=some { cls:=.type "range",data:=.fields #[.int lo t,.int hi u,.int 1 v] }
|.frz o u=>h.get? a=some o/\ObjOk H h a u
|.tbl ps=>h.get? a=some { cls:=.none,data:=.fields ps }
|.met f x=>h.get? a=some (fP (.ref f) (.ref x))
|.ext φ=>φ h/\(∃o,h.get? a=some o)/\∀m g:aX,φ m->(∀o,m.get? a=some o->g.get? a=some o)->φ g
def HOk(H:Hp)(h:aX):Prop:=∀a o,H a=some o->ObjOk P w H h a o
end
section
variable {P:aQ}{w:aR}{H H':Hp}{h h':aX}{a:aE}{o:HO}
theorem ObjOk.lt(x:ObjOk P w H h a o):a < h.objs.size:=by
 cases o with
|lst xs=>obtain⟨_,_,_,_,e⟩:=x;exact vY e
|tup xs=>obtain⟨_,_,_,p⟩:=x;exact p.lt
|dK kvs=>obtain⟨_,_,_,_,o,_,_,e,_⟩:=x;exact vY e
|dT kvs=>obtain⟨_,_,_,_,o,_,_,e,_⟩:=x;exact vY e
|set S n=>obtain⟨o,_,_,_,e,_⟩:=x;exact vY e
|ins C dx fs=>obtain⟨_,_,_,e,_⟩:=x;exact vY e
|own y=>obtain⟨_,e⟩:=x;exact vY e
|xd fs=>obtain⟨_,⟨_,_,_,e,_⟩,_⟩:=x;exact vY e
|rng lo hi=>obtain⟨_,_,_,e⟩:=x;exact vY e
|frz ob u=>obtain⟨e,_⟩:=x;exact vY e
|tbl ps=>exact vY (show h.get? a=some _ from x)
|met f y=>exact vY (show h.get? a=some _ from x)
|ext φ=>obtain⟨_,⟨_,e⟩,_⟩:=x;exact vY e
theorem Paired.mapP{α β:Type}{F G:α->β->Prop}:∀{l₁:List α}{l₂:List β},Paired F l₁ l₂->(∀a b,F a b->G a b)->Paired G l₁ l₂
|_,_,.nil,_=>.nil
|_,_,.cons r t,f=>.cons (f _ _ r) (Paired.mapP t f)
theorem ObjOk.stay(x:ObjOk P w H h a o)(k:∀b u,(b=a \/ H b=some (.own a))->h.get? b=some u->h'.get? b=some u)
  (G:∀b,H b=some (.own a)->H' b=some (.own a)) (B:∀b xs,H b=some (.tup xs)->H' b=some (.tup xs)):ObjOk P w H' h' a o:=by
 induction o with
|lst xs=>obtain⟨z,its,n,r,e⟩:=x;exact⟨z,its,n,r,k _ _ (.inl rfl) e⟩
|tup xs=>obtain⟨z,its,r,ob,e,c⟩:=x;exact⟨z,its,r,ob,k _ _ (.inl rfl) e,c⟩
|dK kvs=>obtain⟨z,y,vs,r,ob,es,ep,e,c⟩:=x;exact⟨z,y,vs,r,ob,es,ep,k _ _ (.inl rfl) e,c⟩
|dT kvs =>
  obtain⟨z,y,xs,r,ob,es,ep,e,c⟩:=x;exact⟨z,y,xs,Paired.mapP r λp q z=>⟨z.1,B _ _ z.2.1,z.2.2⟩,ob,es,ep,k _ _ (.inl rfl) e,c⟩
|set S n=>obtain⟨ob,es,ep,t,e,c⟩:=x;exact⟨ob,es,ep,t,k _ _ (.inl rfl) e,c⟩
|ins C dx fs =>
  obtain⟨d,z,ne,e,mA,⟨g,es,ep,I,c⟩,r⟩:=x;exact⟨G _ d,z,ne,k _ _ (.inl rfl) e,mA,⟨g,es,ep,k _ _ (.inr d) I,c⟩,r⟩
|own y=>obtain⟨ob,e⟩:=x;exact⟨ob,k _ _ (.inl rfl) e⟩
|xd fs=>obtain⟨mA,⟨g,es,ep,e,c⟩,r⟩:=x;exact⟨mA,⟨g,es,ep,k _ _ (.inl rfl) e,c⟩,r⟩
|rng lo hi=>obtain⟨t,u,v,e⟩:=x;exact⟨t,u,v,k _ _ (.inl rfl) e⟩
|frz ob u m=>obtain⟨e,q⟩:=x;exact⟨k _ _ (.inl rfl) e,m q⟩
|tbl ps =>
  have e:h.get? a=some { cls:=.none,data:=.fields ps }:=x;show h'.get? a=some { cls:=.none,data:=.fields ps };exact k a _ (.inl rfl) e
|met f y =>
  have e:h.get? a=some (fP (.ref f) (.ref y)):=x;show h'.get? a=some (fP (.ref f) (.ref y));exact k a _ (.inl rfl) e
|ext φ=>obtain⟨p,⟨o,e⟩,st⟩:=x;exact⟨st _ _ p λo q=>k _ _ (.inl rfl) q,⟨o,k _ _ (.inl rfl) e⟩,st⟩
theorem HOk.lt(x:HOk P w H h)(e:H a=some o):a < h.objs.size:=(x a o e).lt
theorem HOk.fresh(x:HOk P w H h)(e:h.objs.size<=a):H a=none:=by
 cases q:H a with
|none=>rfl
|some u=>exact aN (wZ (x.lt q) e) (xE _)
theorem HOk.kept(x:HOk P w H h)(k:∀b u,h.get? b=some u->h'.get? b=some u):HOk P w H h':=λa o e =>
 (x a o e).stay (λb u _ q=>k b u q) (λ_ q=>q) λ_ _ q=>q
theorem HOk.laid(x:HOk P w H h)(k:∀b u,h.get? b=some u->h'.get? b=some u)(p:h.objs.size<=a)(new:ObjOk P w (upd H a o) h' a o):HOk P w (upd H a o) h':=λb u e=>by
 have g:=x.fresh p;by_cases m:b=a
 ·subst m;rw[zp0]at e;cases e;exact new
 ·rw[zb1 m]at e;exact(x b u e).stay (λc v _ q=>k c v q) (λc q=>by rw[zb1 (zw4 q g)];exact q) λc xs q=>by rw[zb1 (zw4 q g)];exact q
end
def Rd(H:Hp)(a:aE)(u:HO):Prop:=H a=some u \/ ∃o,H a=some (.frz o u)
theorem Rd.ok{P:aQ}{H:Hp}{h:aX}{u:HO}(r:Rd H a u)(x:HOk P w H h):ObjOk P w H h a u:=by
 rcases r with r|⟨o,r⟩
 ·exact x a u r
 ·obtain⟨_,q⟩:=x a _ r;exact q
def Mut:Option HO->Prop
|some (.lst _)=>True
|some (.dK _)=>True
|some (.dT _)=>True
|some (.set _ _)=>True
|some (.ins _ _ _)=>True
|some (.ext _)=>True
|_=>False
section
variable {P:aQ}{w:aR}{H:Hp}{h h':aX}{x e:aE}{o':HO}
theorem HOk.write(ok:HOk P w H h)(B:Mut (H x))(O:e=x \/ H e=some (.own x))(k:∀b u,b≠e->h.get? b=some u->h'.get? b=some u)(J:∃u,h'.get? e=some u)
  (new:ObjOk P w (upd H x o') h' x o'):HOk P w (upd H x o') h':=λb u q=>by
 have m:∀c y,H c=some (.own y)->c≠x:=λc y r z=>by subst z;rw[r]at B;exact B
 have p:∀c xs,H c=some (.tup xs)->c≠x:=λc xs r z=>by subst z;rw[r]at B;exact B
 by_cases I:b=x
 ·subst I;rw[zp0]at q;cases q;exact new
 ·rw[zb1 I]at q;by_cases g:b=e
  ·have L:H b=some (.own x):=by
    rcases O with z|z
    ·exact aN (g.trans z) I
    ·rw[g];exact z
   rw[q]at L;cases L;obtain⟨v,S⟩:=J;exact⟨v,by rw[g];exact S⟩
  ·refine(ok b u q).stay (λc v G r=>k c v ?_ r) (λc r=>by rw[zb1 (m c b r)];exact r) λc xs r=>by rw[zb1 (p c xs r)];exact r
   rcases G with rfl|G
   ·exact g
   ·rintro rfl;rcases O with z|z
    ·exact m c b G z
    ·rw[G]at z;cases z;exact I rfl
end
structure Un(fs ex:List aE)(H H':Hp)(h h':aX):Prop where
 keep:∀b o,h.get? b=some o->H b=none->b ∉ fs->b ∉ ex->h'.get? b=some o
 slot:∀b o,h.get? b=some o->H b=none->b∈fs->b ∉ ex->∃sl,h'.get? b=some { o with slots:=sl }
 free:∀b o,h.get? b=some o->H b=none->b ∉ ex->H' b=none
 there:∀b o,h.get? b=some o->b ∉ ex->∃o',h'.get? b=some o'
 tups:∀b xs,H b=some (.tup xs)->H' b=some (.tup xs)
 frzs:∀b o u,H b=some (.frz o u)->H' b=some (.frz o u)
 tbls:∀b ps,H b=some (.tbl ps)->∃more,H' b=some (.tbl (ps++more))
section
variable {fs fs' ex ex':List aE}{H H1 H2:Hp}{h h1 h2 h':aX}{a x e:aE}{o:HO}
theorem Un.any(u:Un fs ex H H1 h h1){ob:Obj}(q:h.get? b=some ob)(n:H b=none)(g:b ∉ ex):∃sl,h1.get? b=some { ob with slots:=sl }:=by
 by_cases m:b∈fs
 ·exact u.slot b ob q n m g
 ·exact⟨ob.slots,u.keep b ob q n m g⟩
theorem Un.kept(k:∀b u,h.get? b=some u->h'.get? b=some u):Un fs ex H H h h' :=
 ⟨λb ob q _ _ _=>k b ob q,λb ob q _ _ _=>⟨ob.slots,k b ob q⟩,λ_ _ _ n _=>n,λb ob q _=>⟨ob,k b ob q⟩,λ_ _ q=>q,λ_ _ _ q=>q,λ_ ps q=>⟨#[],by rw[q];simp⟩⟩
theorem Un.refl:Un fs ex H H h h:=Un.kept λ_ _ q=>q
theorem Un.laid(k:∀b u,h.get? b=some u->h'.get? b=some u)(m:h.objs.size<=a)(g:H a=none):Un fs ex H (upd H a o) h h' where
 keep:=λb u q _ _ _=>k b u q
 slot:=λb u q _ _ _=>⟨u.slots,k b u q⟩
 free:=λb u q n _=>by rw[zb1 (wP (wZ (vY q) m))];exact n
 there:=λb u q _=>⟨u,k b u q⟩
 tups:=λb xs q=>by rw[zb1 (zw4 q g)];exact q
 frzs:=λb u xs q=>by rw[zb1 (zw4 q g)];exact q
 tbls:=λb ps q=>⟨#[],by rw[zb1 (zw4 q g),q];simp⟩
theorem Un.write(m:Mut (H x))(I:e=x \/ H e=some (.own x))(k:∀b u,b≠e->h.get? b=some u->h'.get? b=some u)(y:∃u,h'.get? e=some u):Un fs ex H (upd H x o) h h':=by
 have B:∀b,H b=none->b≠x:=λb n z=>by subst z;rw[n]at m;exact m
 have G:∀b,H b=none->b≠e:=λb n z=>by
  subst z;rcases I with r|r
  ·exact B b n r
  ·rw[n]at r;cases r
 have p:∀b u,H b=some u->¬Mut (some u)->b≠x:=λb u q nm z=>by subst z;rw[q]at m;exact nm m
 refine⟨λb u q n _ _=>k b u (G b n) q,λb u q n _ _=>⟨u.slots,k b u (G b n) q⟩,λb u q n _=>by rw[zb1 (B b n)];exact n,λb u q _=>?_,
  λb xs q=>by rw[zb1 (p b _ q λz=>z)];exact q,λb u xs q=>by rw[zb1 (p b _ q λz=>z)];exact q,λb ps q=>⟨#[],by rw[zb1 (p b _ q λz=>z),q];simp⟩⟩
 by_cases g:b=e
 ·subst g;exact y
 ·exact⟨u,k b u g q⟩
end
def trk(h:aX)(H:Hp):List Addr:=(u3 h.objs.size).filter λa=>(H a).isSome
def hidT(h:aX)(H:Hp):Heap:=PySem.W.hideAll h (trk h H)
theorem zau(h:aX)(H:Hp):(hidT h H).objs.size=h.objs.size:=PySem.W.hideAll_size _ _
theorem zr01{h:aX}{H:Hp}(e:h.get? b=some o)(n:H b=none):(hidT h H).get? b=some o :=
 PySem.W.hideAll_get _ e λg=>by
  have q:(H b).isSome=true:=(yO.mp g).2;rw[n]at q;simp at q
theorem zt31{h:aX}{H:Hp}(e:(hidT h H).get? b=some o):h.get? b=some o/\H b=none:=by
 have g:h.get? b=some o:=PySem.W.of_hideAll (trk h H) e;refine⟨g,?_⟩;cases q:H b with
|none=>rfl
|some x =>
  have m:b∈trk h H:=yO.mpr ⟨u8.mpr (vY g),by simp[q]⟩;have z:(hidT h H).get? b=none:=PySem.W.hideAll_none (trk h H) m;rw[z]at e;cases e
structure Mod(K:Fg)(mg:Str->Option aC)(base:aX):Prop where
 kin:K.In base
 glob:base.Ns aT mg
 blt:∃mb,base.Ns iX mb/\∀x:Str,x ≠ "__name__"->mb x=bH x
 nolimit:base.NoLimit
structure Cx where
 prog:aQ
 w:aR
 K:Fg
 mg:Str->Option aC
 base:aX
 A:bB
 N:List Str
 s₀:aH
 H₀:Hp
 env:Env
 outer:List Env
 stack:List Env
 ex:List aE
 fn:Str->Bool
 calm:Bool
 pn:List (aE×Obj)
 xe:aC->aH->Prop
def frs(l:List Env):List Addr:=l.filterMap (·.frame)
abbrev Cx.fs(X:Cx):List Addr:=frs X.outer
def Vis(sc:d7)(x:Str):Prop:=sc.names.lookup x=some .local \/ sc.names.lookup x=some .cell \/ sc.names.lookup x=some .free
def Loc(sc:d7)(x:Str):Prop:=sc.names.lookup x=some .local \/ sc.names.lookup x=some .cell
def Look(env:Env)(h:aX)(m:Str->Option aC)(x:Str)(u:aC):Prop :=
 (env.kindOf x=some .local/\m x=some u) \/ ((env.kindOf x=some .cell \/ env.kindOf x=some .free)/\∃c,env.cells.lookup x=some c/\h.IsCell c (some u))
structure Cx.Ok(X:Cx):Prop where
 mod:Mod X.K X.mg X.base
 kind:X.env.scope.kind=.function
 glob:X.env.globals=aT
 blt:X.env.builtins=iX
 above:X.s₀.heap.objs.size<=X.env.locals
 inj:∀x y c,X.env.cells.lookup x=some c->X.env.cells.lookup y=some c->x=y
 has:∀x,(X.env.kindOf x=some .cell \/ X.env.kindOf x=some .free)->∃c,X.env.cells.lookup x=some c
 cab:∀x c,X.fn x=true->X.env.cells.lookup x=some c->X.s₀.heap.objs.size<=c
 hd:X.calm=true->X.A.handled=none
 frames:X.A.frames=some X.stack
 stk:X.stack=X.outer \/ (X.stack=X.env :: X.outer/\X.env.frame=some X.env.locals)
 exf:∀b∈X.ex,b≠X.env.locals/\∀x c,X.env.cells.lookup x=some c->c≠b
 bs:∀b o,X.base.get? b=some o->X.s₀.heap.get? b=some o/\X.H₀ b=none
 bsz:X.base.objs.size<=X.s₀.heap.objs.size
 noex:∀b o,X.base.get? b=some o->b ∉ X.ex
 exfs:∀b∈X.ex,b ∉ X.fs
 funs:X.s₀.heap.FunFrames X.base X.outer
 frf:∀b∈X.fs,X.H₀ b=none
structure Inv(X:Cx)(pins:List (aE×Obj))(Y:List (Option V))(H:Hp)(s:aH):Prop where
 ok:X.Ok
 os:s.os=X.s₀.os
 bare:eD s.gens
 base:Un X.fs X.ex X.H₀ H X.s₀.heap s.heap
 loc:∃m,s.heap.Ns X.env.locals m/\∀(i:Nat)(x:Str)(v:V),X.N[i]?=some x->Y[i]?=some (some v)->Vis X.env.scope x->∃u,RelV v u/\Look X.env s.heap m x u
 cell:∀x c,X.env.cells.lookup x=some c->∃v,s.heap.IsCell c v
 free:H X.env.locals=none
 freeC:∀x c,X.env.cells.lookup x=some c->H c=none
 pin:∀p∈X.pn++pins,s.heap.get? p.1=some p.2/\H p.1=none/\p.1≠X.env.locals/\p.1 ∉ X.fs/\∀v,p.2.data≠.cell v
 hok:HOk X.prog X.w H s.heap
 len:Y.length=X.N.length
section
variable {X:Cx}{pins:List (aE×Obj)}{Y:List (Option V)}{H H':Hp}{s:aH}{h':aX}
theorem Cx.Ok.nofr(ok:X.Ok)(e:X.base.get? b=some o):b ∉ X.fs:=λg=>by
 have:=(ok.funs.mem g).1;rw[e]at this;cases this
theorem Inv.bs(I:Inv X pins Y H s):∀b o,X.base.get? b=some o->s.heap.get? b=some o/\H b=none:=λb o e =>
 ⟨I.base.keep b o (I.ok.bs b o e).1 (I.ok.bs b o e).2 (I.ok.nofr e) (I.ok.noex b o e),I.base.free b o (I.ok.bs b o e).1 (I.ok.bs b o e).2 (I.ok.noex b o e)⟩
theorem Inv.bk(I:Inv X pins Y H s):∀b o,X.base.get? b=some o->s.heap.get? b=some o:=λb o e=>(I.bs b o e).1
theorem Inv.mod(I:Inv X pins Y H s):Mod X.K X.mg X.base:=I.ok.mod
theorem Inv.kIn(I:Inv X pins Y H s):X.K.In s.heap:=I.ok.mod.kin.keeps I.bk
theorem Inv.lt(I:Inv X pins Y H s):X.env.locals < s.heap.objs.size:=let ⟨_,g,_⟩:=I.loc;g.lt
theorem Inv.sz(I:Inv X pins Y H s):X.s₀.heap.objs.size<=s.heap.objs.size:=wL I.ok.above (yP I.lt)
theorem Inv.nofs(I:Inv X pins Y H s)(h:s.heap.objs.size<=a):a ∉ X.fs:=λm=>by
 obtain⟨_,o,g,_⟩:=I.ok.funs.mem m;exact aN (wZ (vY g) (wL I.sz h)) (xE _)
theorem Inv.cne(I:Inv X pins Y H s):∀x c,X.env.cells.lookup x=some c->c≠X.env.locals:=λx c e z=>by
 obtain⟨v,o,q,hd⟩:=I.cell x c e;obtain⟨m,⟨y,es,ep,g,p,_⟩,_⟩:=I.loc;rw[z,g]at q;cases q;rw[p]at hd;cases hd
theorem Inv.funs(I:Inv X pins Y H s):s.heap.FunFrames X.base X.outer:=by
 have all:∀(l:List Env),(∀b∈frs l,b∈X.fs)->X.s₀.heap.FunFrames X.base l->s.heap.FunFrames X.base l:=by
  intro l
  induction l with
 |nil=>intro _ _;trivial
 |cons env r y =>
   intro q hl;obtain⟨J,⟨L,o,g,G,B,hd⟩,hr⟩:=hl;have p:L∈X.fs:=q L (by unfold frs;rw[w8,g];exact wJ);obtain⟨sl,e⟩:=I.base.slot L o B (I.ok.frf L p) p λz=>I.ok.exfs L z p;exact⟨J,⟨L,_,g,G,e,hd⟩,y (λb m=>q b (by unfold frs;rw[w8,g];exact wA _ m)) hr⟩
 exact all X.outer (λ_ m=>m) I.ok.funs
theorem Inv.stack(I:Inv X pins Y H s):s.heap.FunFrames X.base X.stack:=by
 rcases I.ok.stk with e|⟨e,p⟩
 ·rw[e];exact I.funs
 ·rw[e];obtain⟨m,g,_⟩:=I.loc;refine .cons (by rw[I.ok.kind];decide) p g ?_ I.funs;exact Heap.get?_none_of_le (wL I.ok.bsz I.ok.above)
theorem Inv.stkSub(I:Inv X pins Y H s):∀b∈frs X.stack,b∈X.env.locals :: X.fs:=λb g=>by
 rcases I.ok.stk with e|⟨e,m⟩
 ·rw[e]at g;exact wA _ g
 ·rw[e]at g;unfold frs at g;rw[w8,m]at g;exact g
theorem Inv.stkFree(I:Inv X pins Y H s):∀b∈frs X.stack,H b=none:=λb g=>by
 rcases vR.mp (I.stkSub b g)with e|g
 ·rw[e];exact I.free
 ·obtain⟨_,o,m,_⟩:=I.ok.funs.mem g;exact I.base.free b o m (I.ok.frf b g) λz=>I.ok.exfs b z g
theorem Inv.step{g':Array GenState}{t':Nat}{d':Drawn}(I:Inv X pins Y H s)
  (B:∀b∈ch,(b∈X.ex \/ X.s₀.heap.objs.size<=b)/\b≠X.env.locals/\(∀x c,X.env.cells.lookup x=some c->c≠b)/\∀p∈X.pn++pins,p.1≠b)
  (keep:∀b o,b≠X.env.locals->b ∉ X.fs->b ∉ ch->s.heap.get? b=some o->H b=none->h'.get? b=some o)
  (slot:∀b o,b≠X.env.locals->b∈X.fs->b ∉ ch->s.heap.get? b=some o->H b=none->∃sl,h'.get? b=some { o with slots:=sl }) (free:∀b o,b ∉ ch->s.heap.get? b=some o->H b=none->H' b=none)
  (there:∀b o,b ∉ ch->s.heap.get? b=some o->∃U,h'.get? b=some U)
  (tups:∀b xs,H b=some (.tup xs)->H' b=some (.tup xs)) (frzs:∀b o u,H b=some (.frz o u)->H' b=some (.frz o u)) (tbls:∀b ps,H b=some (.tbl ps)->∃more,H' b=some (.tbl (ps++more)))
  (ns:∀m,s.heap.Ns X.env.locals m->h'.Ns X.env.locals m) (hok:HOk X.prog X.w H' h') (hg:eD g') :
  Inv X pins Y H' { s with heap:=h',gens:=g',drawn:=d',toks:=t' }:=by
 have Z:∀b o,X.s₀.heap.get? b=some o->b≠X.env.locals:=λb o e=>wP (wZ (vY e) I.ok.above);have L:∀b o,X.s₀.heap.get? b=some o->b ∉ X.ex->b ∉ ch:=λb o e g O=>by
  rcases(B b O).1 with z|z
  ·exact g z
  ·exact aN (wZ (vY e) z) (xE _)
 have G:∀x c,X.env.cells.lookup x=some c->∀v,s.heap.IsCell c v->h'.IsCell c v:=λx c e v ⟨o,S,hd⟩=>by
  have y:c ∉ ch:=λz=>(B c z).2.2.1 x c e rfl;by_cases hc:c∈X.fs
  ·obtain⟨sl,q⟩:=slot c o (I.cne x c e) hc y S (I.freeC x c e);exact⟨_,q,hd⟩
  ·exact⟨o,keep c o (I.cne x c e) hc y S (I.freeC x c e),hd⟩
 refine⟨I.ok,I.os,hg,⟨λb o e n O g=>?_,λb o e n O g=>?_,λb o e n g=>?_,λb o e g=>?_,λb xs e=>tups b xs (I.base.tups b xs e),λb o xs e=>frzs b o xs (I.base.frzs b o xs e),λb ps e=>?_⟩,?_,λx c e=>?_,?_,λx c e=>?_,λp hp=>?_,hok,I.len⟩
 ·exact keep b o (Z b o e) O (L b o e g) (I.base.keep b o e n O g) (I.base.free b o e n g)
 ·obtain⟨sl,J⟩:=I.base.slot b o e n O g;obtain⟨sl',W⟩:=slot b _ (Z b o e) O (L b o e g) J (I.base.free b o e n g);exact⟨sl',W⟩
 ·obtain⟨U,J⟩:=I.base.there b o e g;exact free b U (L b o e g) J (I.base.free b o e n g)
 ·obtain⟨U,J⟩:=I.base.there b o e g;exact there b U (L b o e g) J
 ·obtain⟨m1,J⟩:=I.base.tbls b ps e;obtain⟨m2,W⟩:=tbls b _ J;exact⟨m1++m2,by rw[W,ua0]⟩
 ·obtain⟨m,hn,hl⟩:=I.loc;refine⟨m,ns m hn,λi x v J W e3=>?_⟩;obtain⟨u,r,l⟩:=hl i x v J W e3;refine⟨u,r,?_⟩;rcases l with l|⟨k,c,e,z⟩
  ·exact .inl l
  ·exact .inr ⟨k,c,e,G x c e _ z⟩
 ·obtain⟨v,z⟩:=I.cell x c e;exact⟨v,G x c e v z⟩
 ·obtain⟨m,⟨o,_,_,S,_⟩,_⟩:=I.loc;exact free _ o (λz=>(B _ z).2.1 rfl) S I.free
 ·obtain⟨v,o,S,hd⟩:=I.cell x c e;exact free c o (λz=>(B c z).2.2.1 x c e rfl) S (I.freeC x c e)
 ·obtain⟨e,n,ne,nf,d⟩:=I.pin p hp;have y:p.1 ∉ ch:=λz=>(B p.1 z).2.2.2 p hp rfl;exact⟨keep p.1 p.2 ne nf y e n,free p.1 p.2 y e n,ne,nf,d⟩
theorem Inv.un{t':Nat}(I:Inv X pins Y H s)(u:Un X.fs [] H H' s.heap h')(q:HOk X.prog X.w H' h'):Inv X pins Y H' { s with heap:=h',toks:=t' }:=by
 obtain⟨m,⟨o,es,ep,G,r⟩,_⟩:=id I.loc;obtain⟨sl,O⟩:=u.any G I.free (by simp);exact I.step (g':=s.gens) (d':=s.drawn) (ch:=[]) (λ_ z=>nomatch z) (λb o _ p _ e n=>u.keep b o e n p (by simp)) (λb o _ p _ e n=>u.slot b o e n p (by simp)) (λb o _ e n=>u.free b o e n (by simp)) (λb o _ e=>u.there b o e (by simp)) u.tups u.frzs u.tbls (λU L=>by
  obtain⟨S,y,B,g,J⟩:=L;rw[G]at g;cases g;exact⟨_,y,B,O,J⟩) q I.bare
theorem Inv.call{t':Nat}{d':Drawn}(I:Inv X pins Y H s)(u:Un (frs X.stack) ch H H' s.heap h')(G:HOk X.prog X.w H' h')(W:eD g')
  (y:∀b∈ch,(b∈X.ex \/ X.s₀.heap.objs.size<=b)/\b≠X.env.locals/\(∀x c,X.env.cells.lookup x=some c->c≠b)/\∀p∈X.pn++pins,p.1≠b) :
  Inv X pins Y H' { s with heap:=h',gens:=g',drawn:=d',toks:=t' }:=by
 obtain⟨m,⟨o,es,ep,O,r⟩,_⟩:=id I.loc;obtain⟨sl,B⟩:=u.any O I.free λz=>(y _ z).2.1 rfl;exact I.step (ch:=ch) y (λb o B Z g e n=>u.keep b o e n (λz=>(vR.mp (I.stkSub b z)).elim B Z) g) (λb o _ _ g e n=>u.any e n g) (λb o g e n=>u.free b o e n g) (λb o g e=>u.there b o e g) u.tups u.frzs u.tbls (λm' U=>by
  obtain⟨o',J,L,q,S⟩:=U;rw[O]at q;cases q;exact⟨_,J,L,B,S⟩) G W
theorem Inv.turned{t':Nat}(I:Inv X pins Y H s)(k:∀b o,b≠it->s.heap.get? b=some o->h'.get? b=some o)(J:H it=none)(B:it≠X.env.locals)
  (W:it∈X.ex \/ X.s₀.heap.objs.size<=it) (U:∀x c,X.env.cells.lookup x=some c->c≠it) (S:∀p∈X.pn++pins,p.1≠it):Inv X pins Y H { s with heap:=h',toks:=t' }:=by
 have y:∀b u,H b=some u->b≠it:=λb u e z=>by rw[z,J]at e;cases e
 refine I.step (g':=s.gens) (d':=s.drawn) (ch:=[it]) (λb O=>?_) (λb o _ _ g e _=>k b o (λz=>g (by simp[z])) e) (λb o _ _ g e _=>⟨o.slots,k b o (λz=>g (by simp[z])) e⟩) (λ_ _ _ _ n=>n)
  (λb o g e=>⟨o,k b o (λz=>g (by simp[z])) e⟩) (λ_ _ e=>e) (λ_ _ _ e=>e) (λb ps e=>⟨#[],by rw[e];simp⟩) (λm L=>?_) (λb u e=>?_) I.bare
 ·have e:b=it:=by simpa using O
  subst e;exact⟨W,B,U,S⟩
 ·obtain⟨o,es,ep,G,r⟩:=L;exact⟨o,es,ep,k _ o (Ne.symm B) G,r⟩
 ·refine(I.hok b u e).stay (λc v g q=>k c v ?_ q) (λ_ q=>q) λ_ _ q=>q;rcases g with z|z
  ·rw[z];exact y b u e
  ·exact y c _ z
theorem Inv.tok(I:Inv X pins Y H s)(t:Nat):Inv X pins Y H { s with toks:=t }:=I.un (h':=s.heap) (t':=t) Un.refl I.hok
theorem Inv.kept{t':Nat}(I:Inv X pins Y H s)(k:∀b u,s.heap.get? b=some u->h'.get? b=some u):Inv X pins Y H { s with heap:=h',toks:=t' }:=I.un (Un.kept k) (I.hok.kept k)
theorem Inv.laid{a:aE}{o:HO}{t':Nat}(I:Inv X pins Y H s)(k:∀b u,s.heap.get? b=some u->h'.get? b=some u)(g:s.heap.objs.size<=a)(new:ObjOk X.prog X.w (upd H a o) h' a o) :
  Inv X pins Y (upd H a o) { s with heap:=h',toks:=t' }:=I.un (Un.laid k g (I.hok.fresh g)) (I.hok.laid k g new)
theorem Inv.write{x e:aE}{o:HO}{t':Nat}(I:Inv X pins Y H s)(m:Mut (H x))(p:e=x \/ H e=some (.own x))(k:∀b u,b≠e->s.heap.get? b=some u->h'.get? b=some u)(g:∃u,h'.get? e=some u)
  (new:ObjOk X.prog X.w (upd H x o) h' x o):Inv X pins Y (upd H x o) { s with heap:=h',toks:=t' }:=I.un (Un.write m p k g) (I.hok.write m p k g new)
theorem Inv.pins_of{g:List (aE×Obj)}(I:Inv X pins Y H s)(h:∀p∈g,s.heap.get? p.1=some p.2/\H p.1=none/\p.1≠X.env.locals/\p.1 ∉ X.fs/\∀v,p.2.data≠.cell v):Inv X g Y H s :=
 ⟨I.ok,I.os,I.bare,I.base,I.loc,I.cell,I.free,I.freeC,λp m=>(vV.mp m).elim (λz=>I.pin p (xN _ z)) (h p),I.hok,I.len⟩
theorem zlr(g:N.Nodup){j:Nat}(a:N[i]?=some x)(b:N[j]?=some x):i=j:=by
 obtain⟨y,p⟩:=wG.mp a;obtain⟨q,m⟩:=wG.mp b;exact(List.getElem_inj g).mp (p.trans m.symm)
theorem zjk{M:Model}{A:bB}{E:aC->aH->Prop}{v:V}{Q:Unit->aH->Prop}(I:Inv X pins Y H s)(hN:X.N.Nodup)(hi:X.N[i]?=some x)(S:Loc X.env.scope x)(r:RelV v u)
  (h:∀s',Inv X pins (Y.set i (some v)) H s'->(∃a,bM a s.heap s'.heap/\(a=X.env.locals \/ X.env.cells.lookup x=some a))->Q () s') (hf:X.fn x=true \/ X.env.scope.names.lookup x=some .local:=by walk_at"vi"):aL M A (lO X.env x u) Q E s:=by
 obtain⟨m,hn,hl⟩:=id I.loc;have hcls:(X.env.scope.kind == .class || (X.env.scope.kind == .module && X.env.locals != X.env.globals))=false:=by rw[I.ok.kind];rfl
 have hiY:i < Y.length:=by rw[I.len];exact(wG.mp hi).1
 have cne:=I.cne;have L:∀{a:aE}{h':aX},(∃o,s.heap.get? a=some o/\H a=none)->bM a s.heap h'->HOk X.prog X.w H h':=λ{a h'} ha g b ob e=>by
  obtain⟨_,_,U⟩:=ha;refine(I.hok b ob e).stay (λc w' O q=>(g.2 c ?_).trans q) (λ_ q=>q) λ_ _ q=>q;rintro rfl;rcases O with rfl|O
  ·rw[U]at e;cases e
  ·rw[U]at O;cases O
 rcases S with Z|Z
 ·refine wpAny_storeName_local Z hn (λh' hn' g=>?_) hcls;obtain⟨oL,_,_,hoL,_⟩:=id hn;refine h _ ⟨I.ok,I.os,I.bare,⟨λb o e n hb S=>?_,λb o e n hb S=>?_,I.base.free,λb o e S=>?_,I.base.tups,I.base.frzs,I.base.tbls⟩,⟨_,hn',λj y v' G W e3=>?_⟩,λy c e=>?_,I.free,I.freeC,λp hp=>?_,L ⟨oL,hoL,I.free⟩ g,by simpa using I.len⟩ ⟨_,g,.inl rfl⟩
  ·exact(g.2 b (wP (wZ (vY e) I.ok.above))).trans (I.base.keep b o e n hb S)
  ·obtain⟨sl,G⟩:=I.base.slot b o e n hb S;exact⟨sl,(g.2 b (wP (wZ (vY e) I.ok.above))).trans G⟩
  ·obtain⟨o',G⟩:=I.base.there b o e S;exact⟨o',(g.2 b (wP (wZ (vY e) I.ok.above))).trans G⟩
  ·by_cases hj:j=i
   ·subst hj;rw[hi]at G;cases G;rw[xG hiY]at W;cases W;exact⟨u,r,.inl ⟨Z,by simp⟩⟩
   ·rw[xS (Ne.symm hj)]at W;obtain⟨u',r',q⟩:=hl j y v' G W e3;refine⟨u',r',?_⟩;rcases q with⟨k,e⟩|⟨k,c,e,z⟩
    ·refine .inl ⟨k,?_⟩;have:y≠x:=λe=>hj (zlr hN G (e ▸ hi));simp[this,e]
    ·exact .inr ⟨k,c,e,z.sameBut g (cne y c e)⟩
  ·obtain⟨w',z⟩:=I.cell y c e;exact⟨w',z.sameBut g (cne y c e)⟩
  ·obtain⟨e,n,ne,nf,d⟩:=I.pin p hp;exact⟨(g.2 p.1 ne).trans e,n,ne,nf,d⟩
 ·have hfn:X.fn x=true:=by
   rcases hf with z|z
   ·exact z
   ·rw[z]at Z;cases Z
  obtain⟨c,O⟩:=I.ok.has x (.inl Z);obtain⟨w',z⟩:=I.cell x c O;refine wpAny_storeName_cell I.ok.kind Z O z (λh' hc' g=>?_);obtain⟨oc,hoc,hocd⟩:=id z;refine h { s with heap:=h' } ⟨I.ok,I.os,I.bare,⟨λb o e n hb S=>?_,λb o e n hb S=>?_,I.base.free,λb o e S=>?_,I.base.tups,I.base.frzs,I.base.tbls⟩,⟨m,hn.sameBut g (Ne.symm (cne x c O)),λj y v' G W e3=>?_⟩,λy c' e=>?_,I.free,I.freeC,λp hp=>?_,L ⟨oc,hoc,I.freeC x c O⟩ g,by simpa using I.len⟩ ⟨c,g,.inr O⟩
  ·exact(g.2 b (wP (wZ (vY e) (I.ok.cab x c hfn O)))).trans (I.base.keep b o e n hb S)
  ·obtain⟨sl,G⟩:=I.base.slot b o e n hb S;exact⟨sl,(g.2 b (wP (wZ (vY e) (I.ok.cab x c hfn O)))).trans G⟩
  ·obtain⟨o',G⟩:=I.base.there b o e S;exact⟨o',(g.2 b (wP (wZ (vY e) (I.ok.cab x c hfn O)))).trans G⟩
  ·by_cases hj:j=i
   ·subst hj;rw[hi]at G;cases G;rw[xG hiY]at W;cases W;exact⟨u,r,.inr ⟨.inl Z,c,O,hc'⟩⟩
   ·rw[xS (Ne.symm hj)]at W;obtain⟨u',r',q⟩:=hl j y v' G W e3;refine⟨u',r',?_⟩;rcases q with q|⟨k,c',e,z'⟩
    ·exact .inl q
    ·refine .inr ⟨k,c',e,z'.sameBut g ?_⟩;rintro rfl;exact hj (zlr hN G (I.ok.inj _ _ _ e O ▸ hi))
  ·by_cases hcc:c'=c
   ·subst hcc;exact⟨_,hc'⟩
   ·obtain⟨w2,z2⟩:=I.cell y c' e;exact⟨w2,z2.sameBut g hcc⟩
  ·obtain⟨e,n,ne,nf,d⟩:=I.pin p hp;refine⟨(g.2 p.1 ?_).trans e,n,ne,nf,d⟩;intro q;rw[q,hoc]at e;have q':oc=p.2:=wY.inj e;exact d w' (by rw[<- q'];exact hocd)
theorem zhh{M:Model}{A:bB}{E:aC->aH->Prop}{v:V}{Q:Unit->aH->Prop}(I:Inv X pins Y H s)(p:X.N.Nodup)(hi:X.N[i]?=some x)(g:Loc X.env.scope x)(r:RelV v u)
  (h:∀s',Inv X pins (Y.set i (some v)) H s'->Q () s') (m:X.fn x=true \/ X.env.scope.names.lookup x=some .local:=by walk_at"vi"):aL M A (lO X.env x u) Q E s :=
 zjk I p hi g r (λs' q _=>h s' q) m
theorem Inv.call'{s':aH}(I:Inv X pins Y H s)(y:s'.os=s.os)(u:Un (frs X.stack) ch H H' s.heap s'.heap)(g:HOk X.prog X.w H' s'.heap)(z:eD s'.gens)
  (m:∀b∈ch,(b∈X.ex \/ X.s₀.heap.objs.size<=b)/\b≠X.env.locals/\(∀x c,X.env.cells.lookup x=some c->c≠b)/\∀p∈X.pn++pins,p.1≠b):Inv X pins Y H' s':=by
 obtain⟨h',g',d',t',q⟩:=s';have e:q=s.os:=y;subst e;exact I.call (g':=g') (t':=t') (d':=d') u g z m
end
abbrev XK:=aC->Option aE->Hp->Prop
abbrev St:=List (Option V)
abbrev VK:=V->Hp->Prop
abbrev TE:=St->Hp->VK->Prop
abbrev TT:=St->Hp->(Bool->Hp->Prop)->Prop
abbrev TA:=St->Hp->(List V->Hp->Prop)->Prop
structure Ends where
 nx:St->Hp->Prop
 rt:VK
 bk:St->Hp->Prop:=λ_ _=>False
 ct:St->Hp->Prop:=λ_ _=>False
abbrev TS:=Ends->St->Hp->Prop
def EP(X:Cx)(pins:List (aE×Obj))(Y:St)(Q:VK)(u:aC)(s':aH):Prop:=∃v H',Inv X pins Y H' s'/\RelV v u/\Q v H'
def TP(X:Cx)(pins:List (aE×Obj))(Y:St)(Q:Bool->Hp->Prop)(b:Bool)(s':aH):Prop:=∃H',Inv X pins Y H' s'/\Q b H'
def AP(X:Cx)(pins:List (aE×Obj))(Y:St)(Q:List V->Hp->Prop)(us:List aC)(s':aH):Prop:=∃vs H',Inv X pins Y H' s'/\Vals vs us/\Q vs H'
def SP(X:Cx)(pins:List (aE×Obj))(D:Ends)(f:Flow)(s':aH):Prop :=
 match f with
|.next=>∃g H',Inv X pins g H' s'/\D.nx g H'
|.brk=>∃g H',Inv X pins g H' s'/\D.bk g H'
|.cont=>∃g H',Inv X pins g H' s'/\D.ct g H'
|.ret u=>∃v g H',Inv X pins g H' s'/\RelV v u/\D.rt v H'
def PE(X:Cx)(e:aZ)(t:TE):Prop :=
 ∀(pins:List (aE×Obj))(s:aH)(Y:St)(H:Hp)(Q:VK),Inv X pins Y H s->t Y H Q->aL (aM X.prog X.w) X.A (bD e X.env) (EP X pins Y Q) X.xe s
def PT(X:Cx)(e:aZ)(t:TT):Prop :=
 ∀(pins:List (aE×Obj))(s:aH)(Y:St)(H:Hp)(Q:Bool->Hp->Prop),Inv X pins Y H s->t Y H Q->aL (aM X.prog X.w) X.A (gZ e X.env (bD e X.env)) (TP X pins Y Q) X.xe s
def PW(X:Cx)(e:aZ)(t:TT):Prop :=
 ∀(g:Sem aC)(pins:List (aE×Obj))(s:aH)(Y:St)(H:Hp)(Q:Bool->Hp->Prop),Inv X pins Y H s->t Y H Q->aL (aM X.prog X.w) X.A (gZ e X.env g) (TP X pins Y Q) X.xe s
theorem PW.pt{X:Cx}{e:aZ}{t:TT}(h:PW X e t):PT X e t:=h _
def PA(X:Cx)(es:List aZ)(t:TA):Prop :=
 ∀(pos:Pos)(pins:List (aE×Obj))(s:aH)(Y:St)(H:Hp)(Q:List V->Hp->Prop),Inv X pins Y H s->t Y H Q->aL (aM X.prog X.w) X.A (spliced (b7 pos (aW es X.env))) (AP X pins Y Q) X.xe s
def PS(X:Cx)(st:dI)(t:TS):Prop :=
 ∀(pins:List (aE×Obj))(s:aH)(Y:St)(H:Hp)(D:Ends),Inv X pins Y H s->t D Y H->aL (aM X.prog X.w) X.A (exec st X.env) (SP X pins D) X.xe s
def PSs(X:Cx)(st:List dI)(t:TS):Prop :=
 ∀(pins:List (aE×Obj))(s:aH)(Y:St)(H:Hp)(D:Ends),Inv X pins Y H s->t D Y H->aL (aM X.prog X.w) X.A (execs st X.env) (SP X pins D) X.xe s
theorem thn{α:Type}{t:Sem α}{Q g:α->aH->Prop}(h:aL M A t Q E s)(m:∀a s,Q a s->g a s):aL M A t g E s:=cA h m λ_ _ x=>x
section
variable {X:Cx}
def tVar(i:Nat):TE:=λY H Q=>∃v,Y[i]?=some (some v)/\Q v H
def tC(v:V):TE:=λ_ H Q=>Q v H
theorem zi91{pos:Pos}(L:X.N[i]?=some x)(B:Vis X.env.scope x)(hd:(x == ("__debug__":Str))=false:=by decide)(y:(x == ("__classdict__":Str))=false:=by decide):PE X (.Name x pos) (tVar i):=by
 walk_at"1";obtain⟨v,e,h⟩:=h;obtain⟨m,G,hl⟩:=I.loc;obtain⟨u,r,l⟩:=hl i x v L e B;have q:EP X pins Y Q u s:=⟨v,H,I,r,h⟩
 rcases l with⟨p,J⟩|⟨p,c,z,g⟩
 ·exact iT (gS I.ok.kind p G J q) hd
 ·rcases p with p|p
  ·exact iT (gX I.ok.kind p z g q) hd
  ·exact iT (wpAny_loadName_free I.ok.kind p z g q y) hd
theorem ze0{i j pos}:PE X (.Constant (.int i) j pos) (tC (.int i)):=λ_ _ _ H _ I h=>wpAny_Constant_int ⟨.int i,H,I.tok _,⟨_,rfl⟩,h⟩
theorem zom{b j pos}:PE X (.Constant (.bool b) j pos) (tC (.bl b)):=λ_ _ _ H _ I h=>Constant_bool ⟨.bl b,H,I,rfl,h⟩
theorem zzo{j pos}:PE X (.Constant .none j pos) (tC .non):=λ_ _ _ H _ I h=>Constant_none ⟨.non,H,I,rfl,h⟩
theorem zy5{x j pos}:PE X (.Constant (.str x) j pos) (tC (.str x)):=λ_ _ _ H _ I h=>Calls.Constant_str ⟨.str x,H,I.tok _,⟨_,rfl⟩,h⟩
def Gl(X:Cx)(x:Str):Prop:=X.env.kindOf x=some .globalImplicit
theorem zmo{E:aC->aH->Prop}{Y:St}{H:Hp}{pos:Pos}{Q:aC->aH->Prop}(I:Inv X pins Y H s)(m:Gl X x)(g:X.mg x=some u)(h:Q u s)
  (hd:(x == ("__debug__":Str))=false:=by decide):aL (aM X.prog X.w) X.A (bD (.Name x pos) X.env) Q E s :=
 Calls.Name_function_global I.ok.kind m (Calls.loadGlobal_global (by rw[I.ok.glob];exact I.mod.glob.keeps I.bk) g h) hd
theorem zui{E:aC->aH->Prop}{Y:St}{H:Hp}{pos:Pos}{Q:aC->aH->Prop}(I:Inv X pins Y H s)(q:Gl X x)(p:X.mg x=none)(g:bH x=some u)(h:Q u s)
  (m:x ≠ "__name__":=by decide) (hd:(x == ("__debug__":Str))=false:=by decide):aL (aM X.prog X.w) X.A (bD (.Name x pos) X.env) Q E s:=by
 obtain⟨B,z,y⟩:=I.mod.blt;exact Calls.Name_function_global I.ok.kind q (Calls.loadGlobal_builtin (by rw[I.ok.glob];exact I.mod.glob.keeps I.bk) p (by rw[I.ok.blt];exact z.keeps I.bk) ((y x m).trans g) h) hd
theorem zw5{v:V}{pos:Pos}(m:Gl X x)(g:X.mg x=some u)(r:RelV v u)(hd:(x == ("__debug__":Str))=false:=by decide):PE X (.Name x pos) (tC v) :=
 λ_ _ _ H _ I h=>zmo I m g ⟨v,H,I,r,h⟩ hd
theorem zub{v:V}{pos:Pos}(q:Gl X x)(p:X.mg x=none)(g:bH x=some u)(r:RelV v u)(m:x ≠ "__name__":=by decide)(hd:(x == ("__debug__":Str))=false:=by decide):PE X (.Name x pos) (tC v) :=
 λ_ _ _ H _ I h=>zui I q p g ⟨v,H,I,r,h⟩ m hd
variable {a b:aZ}{ta tb:TE}{pos:Pos}
variable {tA tB':TT}{rest:List aZ}
def tAnd(t u:TT):TT:=λY H Q=>t Y H λc g=>if c=true then u Y g Q else Q false g
def tOr(t u:TT):TT:=λY H Q=>t Y H λc g=>if c=true then Q true g else u Y g Q
def tNot(t:TT):TT:=λY H Q=>t Y H λc g=>Q (!c) g
theorem zbg(g:PT X a tA):PW X (.BoolOp .And [a] pos) tA:=by
 intro m pins s Y H Q I h;refine isTrue_and (thn (g pins s Y H Q I h) λc s1 e=>?_);cases c with
|true=>exact isTrue_and_nil e
|false=>exact e
theorem zff(g:PT X a tA):PW X (.BoolOp .Or [a] pos) tA:=by
 intro m pins s Y H Q I h;refine isTrue_or (thn (g pins s Y H Q I h) λc s1 e=>?_);cases c with
|false=>exact isTrue_or_nil e
|true=>exact e
theorem zsk(z:PT X a tA)(y:PW X (.BoolOp .And (b :: rest) pos) tB'):PW X (.BoolOp .And (a :: b :: rest) pos) (tAnd tA tB'):=by
 intro q pins s Y H Q I h;refine isTrue_and (thn (z pins s Y H _ I h) λc s1 hz=>?_);obtain⟨p,m,g⟩:=hz;cases c with
|true=>exact y q pins s1 Y p Q m g
|false=>exact⟨p,m,g⟩
theorem zgg(z:PT X a tA)(y:PW X (.BoolOp .Or (b :: rest) pos) tB'):PW X (.BoolOp .Or (a :: b :: rest) pos) (tOr tA tB'):=by
 intro q pins s Y H Q I h;refine isTrue_or (thn (z pins s Y H _ I h) λc s1 hz=>?_);obtain⟨p,m,g⟩:=hz;cases c with
|true=>exact⟨p,m,g⟩
|false=>exact y q pins s1 Y p Q m g
theorem zgc(g:PT X a tA):PT X (.UnaryOp .Not a pos) (tNot tA):=by
 walk_at"1";exact isTrue_not (g pins s Y H (λc m=>Q (!c) m) I h)
def zuf1(ta tb:TE):TE:=λY H Q=>ta Y H λx g=>∃c,x=.bl c/\if c=true then tb Y g Q else Q (.bl false) g
def zqd1(ta:TE):TE:=λY H Q=>ta Y H λx g=>∃c,x=.bl c/\Q (.bl (!c)) g
theorem zg71{op}{t:TE}(h:PE X a t):PE X (.BoolOp op [a] pos) t:=λpins s Y H Q I hw=>BoolOp_one (h pins s Y H Q I hw)
theorem zq41(z:PE X a ta)(y:PE X (.BoolOp .And (b :: rest) pos) tb):PE X (.BoolOp .And (a :: b :: rest) pos) (zuf1 ta tb):=by
 walk_at"1";refine BoolOp_and (thn (z pins s Y H _ I h) λv s1 hz=>?_);obtain⟨x,p,m,q,g⟩:=hz;obtain⟨c,rfl,g⟩:=g;cases q;refine d4 ?_;cases c with
|true=>exact y pins s1 Y p Q m g
|false=>exact⟨.bl false,p,m,rfl,g⟩
theorem zrb1(p:PE X a ta):PE X (.UnaryOp .Not a pos) (zqd1 ta):=by
 walk_at"1";refine UnaryOp_ (thn (p pins s Y H _ I h) λv s1 hz=>?_);obtain⟨x,y,q,m,g⟩:=hz;obtain⟨c,rfl,g⟩:=g;cases m;exact not_of (d4 ⟨.bl (!c),y,q,rfl,g⟩)
def tIf(t:TT)(ta tb:TE):TE:=λY H Q=>t Y H λc g=>if c=true then ta Y g Q else tb Y g Q
theorem zqi{c:aZ}(q:PT X c tA)(z:PE X a ta)(y:PE X b tb):PE X (.IfExp c a b pos) (tIf tA ta tb):=by
 walk_at"1";refine wpAny_IfExp (thn (q pins s Y H _ I h) λd s1 hz=>?_);obtain⟨p,m,g⟩:=hz;cases d with
|true=>exact z pins s1 Y p Q m g
|false=>exact y pins s1 Y p Q m g
end
def SqL(K:Fg)(H:Hp)(a:aE)(xs:List V):Prop :=
 Rd H a (.lst xs) \/
  ∃(o:Obj)(its:Array aC)(n:Nat),K.lookup a=some o/\o.cls=.type "list"/\o.dict=none/\o.data=.seq its n/\its.size<=sizeLine/\Vals xs its.toList
def SqT(K:Fg)(H:Hp)(a:aE)(xs:List V):Prop :=
 Rd H a (.tup xs) \/
  ∃(o:Obj)(its:Array aC)(n:Nat),K.lookup a=some o/\o.cls=.type "tuple"/\o.data=.seq its n/\its.size<=sizeLine/\Vals xs its.toList
def absV:aC->Option V
|.none=>some .non
|.bool b=>some (.bl b)
|.int i _=>some (.int i)
|.str x _=>some (.str x)
|.bytes b _=>some (.byt b)
|.float b _=>some (.flt b)
|.ref a=>some (.ref a)
|.type n=>some (.ty n)
|_=>none
theorem RelV.abs{x:V}(r:RelV x u):absV u=some x:=by
 cases x with
|non=>cases r;rfl
|bl _=>cases r;rfl
|int _=>obtain⟨t,rfl⟩:=r;rfl
|str _=>obtain⟨t,rfl⟩:=r;rfl
|byt _=>obtain⟨t,rfl⟩:=r;rfl
|flt _=>obtain⟨t,rfl⟩:=r;rfl
|ref _=>cases r;rfl
|ty _=>cases r;rfl
theorem RelV.inj{x y:V}{u:aC}(r:RelV x u)(q:RelV y u):x=y:=wY.inj (r.abs.symm.trans q.abs)
theorem Vals.inj:∀{xs ys:List V}{us:List aC},Vals xs us->Vals ys us->xs=ys
|_,_,_,.nil,.nil=>rfl
|_,_,_,.cons r t,.cons r' t'=>by rw[r.inj r',Vals.inj t t']
section
variable {X:Cx}{pins:List (aE×Obj)}{Y:St}{H:Hp}{s:aH}{a:aE}{xs ys:List V}
theorem SqL.of(h:H a=some (.lst xs)):SqL K H a xs:=.inl (.inl h)
theorem SqT.of(h:H a=some (.tup xs)):SqT K H a xs:=.inl (.inl h)
theorem Inv.list(I:Inv X pins Y H s)(h:SqL X.K H a xs):∃its:List aC,Vals xs its/\PlainL s.heap a its.toArray/\xs.length<=sizeLine:=by
 rcases h with h|⟨o,its,n,m,p,hd,g,hz,r⟩
 ·obtain⟨z,its,n,r,e⟩:=h.ok I.hok;exact⟨its,r,⟨_,n,e,rfl,rfl,rfl⟩,z⟩
 ·refine⟨its.toList,r,⟨o,n,I.kIn a o m,p,hd,by simpa using g⟩,?_⟩;have e:=r.length;simp only[xT]at e;lia
theorem Inv.tuple(I:Inv X pins Y H s)(h:SqT X.K H a xs):∃its:List aC,Vals xs its/\lT s.heap a its.toArray/\xs.length<=sizeLine:=by
 rcases h with h|⟨o,its,n,m,q,g,hz,r⟩
 ·obtain⟨z,its,r,p⟩:=h.ok I.hok;exact⟨its,r,p,z⟩
 ·refine⟨its.toList,r,⟨o,I.kIn a o m,q,n,by simpa using g⟩,?_⟩;have e:=r.length;simp only[xT]at e;lia
theorem Inv.list_inj(I:Inv X pins Y H s)(h:SqL X.K H a xs)(h':SqL X.K H a ys):xs=ys:=by
 obtain⟨its,r,⟨o,n,e,_,_,d⟩,_⟩:=I.list h;obtain⟨its',m,⟨q,y,g,_,_,d'⟩,_⟩:=I.list h';rw[e]at g;cases g;rw[d]at d';injection d' with p _;have:its=its':=by simpa using congrArg j9 p
 subst this;exact r.inj m
theorem Inv.tuple_inj(I:Inv X pins Y H s)(h:SqT X.K H a xs)(h':SqT X.K H a ys):xs=ys:=by
 obtain⟨its,r,⟨o,e,_,n,d⟩,_⟩:=I.tuple h;obtain⟨its',m,⟨q,g,_,y,d'⟩,_⟩:=I.tuple h';rw[e]at g;cases g;rw[d]at d';injection d' with p _;have:its=its':=by simpa using congrArg j9 p
 subst this;exact r.inj m
end
abbrev Cx.wish(X:Cx)(E:aC->aH->Prop):Cx:={ X with xe:=E }
abbrev Cx.nox(X:Cx):Cx:=X.wish λ_ _=>False
theorem Cx.Ok.wish{X:Cx}(ok:X.Ok)(E:aC->aH->Prop):(X.wish E).Ok :=
 ⟨ok.mod,ok.kind,ok.glob,ok.blt,ok.above,ok.inj,ok.has,ok.cab,ok.hd,ok.frames,ok.stk,ok.exf,ok.bs,ok.bsz,ok.noex,ok.exfs,ok.funs,ok.frf⟩
theorem Cx.Ok.unwish{X:Cx}(ok:(X.wish E).Ok):X.Ok :=
 ⟨ok.mod,ok.kind,ok.glob,ok.blt,ok.above,ok.inj,ok.has,ok.cab,ok.hd,ok.frames,ok.stk,ok.exf,ok.bs,ok.bsz,ok.noex,ok.exfs,ok.funs,ok.frf⟩
section
variable {X:Cx}{pins:List (aE×Obj)}{Y:St}{H:Hp}{s:aH}{E:aC->aH->Prop}
theorem Inv.wish(I:Inv X pins Y H s)(E:aC->aH->Prop):Inv (X.wish E) pins Y H s:=⟨I.ok.wish E,I.os,I.bare,I.base,I.loc,I.cell,I.free,I.freeC,I.pin,I.hok,I.len⟩
theorem Inv.unwish(I:Inv (X.wish E) pins Y H s):Inv X pins Y H s:=⟨I.ok.unwish,I.os,I.bare,I.base,I.loc,I.cell,I.free,I.freeC,I.pin,I.hok,I.len⟩
theorem SP.unwish{D:Ends}{f:Flow}{s':aH}(h:SP (X.wish E) pins D f s'):SP X pins D f s':=by
 cases f with
|next=>obtain⟨g,H',I,q⟩:=h;exact⟨g,H',I.unwish,q⟩
|brk=>obtain⟨g,H',I,q⟩:=h;exact⟨g,H',I.unwish,q⟩
|cont=>obtain⟨g,H',I,q⟩:=h;exact⟨g,H',I.unwish,q⟩
|ret u=>obtain⟨v,g,H',I,r,q⟩:=h;exact⟨v,g,H',I.unwish,r,q⟩
theorem PSs.nox{st:List dI}{t:TS}(h:PSs X.nox st t):PSs X st t:=λpins s Y H D I hw =>
 cA (h pins s Y H D (I.wish _) hw) (λ_ _ q=>q.unwish) λ_ _ z=>False.elim z
end
section
variable {X:Cx}{st:dI}{rest:List dI}{t u:TS}{e:aZ}{te:TE}{pos:Pos}
def zyd1:TS:=λD Y H=>D.nx Y H
def tSeq(t u:TS):TS:=λD Y H=>t { D with nx:=u D } Y H
theorem zm1:PSs X [] zyd1:=λ_ _ Y H _ I h=>eP ⟨Y,H,I,h⟩
theorem zd0(m:PS X st t)(g:PSs X rest u):PSs X (st :: rest) (tSeq t u):=by
 walk_at"5";refine iN (thn (m pins s Y H { D with nx:=u D } I h) λf s1 q=>?_);cases f with
|next =>
  obtain⟨p,H',y,q⟩:=q;exact g pins s1 p H' D y q
|ret v=>exact q
|brk=>exact q
|cont=>exact q
theorem zj0(g:PS X st t):PSs X [st] t:=by
 walk_at"5";refine iN (thn (g pins s Y H D I h) λf s1 q=>?_);cases f with
|next=>exact eP q
|ret v=>exact q
|brk=>exact q
|cont=>exact q
def zrd1:TS:=λD Y H=>D.ct Y H
theorem zml:PS X (.Continue pos) zrd1:=λ_ _ Y H _ I h=>wpAny_Continue ⟨Y,H,I,h⟩
theorem Inv.quiet{Y:St}{H:Hp}(I:Inv X pins Y H s):interactive X.env=false:=by simp[interactive,I.ok.kind]
def zfd1(te:TE):TS:=λD Y H=>te Y H λ_ g=>D.nx Y g
theorem zm2(p:PE X e te)(m:f9 e none pos.line X.env=pure false:=by rfl):PS X (.Expr e pos) (zfd1 te):=by
 walk_at"5";exact wpAny_Expr_any (thn (p pins s Y H _ I h) λv s1 ⟨x,y,q,z,g⟩=>⟨Y,y,q,g⟩) I.quiet m
def tRet(te:TE):TS:=λD Y H=>te Y H D.rt
theorem zz0(p:PE X e te):PS X (.Return (some e) pos) (tRet te):=by
 walk_at"5";exact wpAny_Return_some (thn (p pins s Y H _ I h) λv s1 ⟨x,y,q,g,m⟩=>⟨x,Y,y,q,g,m⟩)
def tIfS(c:TT)(t u:TS):TS:=λD Y H=>c Y H λb g=>if b=true then t D Y g else u D Y g
theorem zm7{c:aZ}{a b:List dI}{g:TT}(y:PT X c g)(B:PSs X a t)(z:PSs X b u):PS X (.If c a b pos) (tIfS g t u):=by
 walk_at"5";refine wpAny_If (thn (y pins s Y H _ I h) λd s1 hz=>?_);obtain⟨q,p,m⟩:=hz;cases d with
|true=>exact B pins s1 Y q D p m
|false=>exact z pins s1 Y q D p m
end
abbrev TG:=V->St->Hp->(St->Hp->Prop)->Prop
abbrev TGs:=List V->St->Hp->(St->Hp->Prop)->Prop
def PG(X:Cx)(g:aZ)(t:TG):Prop :=
 ∀(pins:List (aE×Obj))(s:aH)(Y:St)(H:Hp)(v:V)(u:aC)(Q:St->Hp->Prop),Inv X pins Y H s->RelV v u->t v Y H Q ->
  aL (aM X.prog X.w) X.A (fG g X.env u) (λ_ s'=>∃m H',Inv X pins m H' s'/\Q m H') X.xe s
def PGs(X:Cx)(ts:List aZ)(t:TGs):Prop :=
 ∀(pins:List (aE×Obj))(s:aH)(Y:St)(H:Hp)(vs:List V)(us:List aC)(Q:St->Hp->Prop),Inv X pins Y H s->Vals vs us->t vs Y H Q ->
  aL (aM X.prog X.w) X.A (assignInOrder ((dL ts X.env).map (·.2)) us) (λ_ s'=>∃g H',Inv X pins g H' s'/\Q g H') X.xe s
abbrev TSet:=V->V->V->Hp->(Hp->Prop)->Prop
def PSet(X:Cx)(t:TSet):Prop :=
 ∀(pins:List (aE×Obj))(s:aH)(Y:St)(H:Hp)(o i v:V)(g m u:aC)(Q:Hp->Prop),Inv X pins Y H s->RelV o g->RelV i m->RelV v u->t o i v H Q ->
  aL (aM X.prog X.w) X.A (lC g m u) (λ_ s'=>∃H',Inv X pins Y H' s'/\Q H') X.xe s
abbrev TIp:=V->V->Hp->VK->Prop
def PIp(X:Cx)(op:Operator)(t:TIp):Prop :=
 ∀(pins:List (aE×Obj))(s:aH)(Y:St)(H:Hp)(x y:V)(v u:aC)(Q:VK),Inv X pins Y H s->RelV x v->RelV y u->t x y H Q ->
  aL (aM X.prog X.w) X.A (inplaceOp op v u) (EP X pins Y Q) X.xe s
section
variable {X:Cx}{pos:Pos}
def zos(i:Nat):TG:=λv Y H Q=>Q (Y.set i (some v)) H
theorem zz51(p:X.N.Nodup)(hi:X.N[i]?=some x)(g:Loc X.env.scope x)(m:X.fn x=true \/ X.env.scope.names.lookup x=some .local:=by walk_at"vi"):PG X (.Name x pos) (zos i):=by
 walk_at"32";exact iE (zhh I p hi g r (λs' q=>⟨_,H,q,h⟩) m)
def gNil:TGs:=λvs Y H Q=>vs=[]/\Q Y H
def zjf1(t:TG)(u:TGs):TGs:=λvs Y H Q=>∃v r,vs=v :: r/\t v Y H λg H'=>u r g H' Q
theorem zz6:PGs X [] gNil:=by
 walk_at"31";obtain⟨e,h⟩:=h;subst e;cases r;exact assignInOrder_nil ⟨Y,H,I,h⟩
theorem zj1{e:aZ}{t:TG}{u:TGs}(y:PG X e t)(q:PGs X es u)
  (p:(dL (e :: es) X.env).map (·.2)=fG e X.env :: (dL es X.env).map (·.2):=by rfl):PGs X (e :: es) (zjf1 t u):=by
 walk_at"31";obtain⟨v,L,z,h⟩:=h;subst z;cases r with
|cons r g =>
  rw[p];refine assignInOrder_cons (thn (y pins s Y H _ _ _ I r h) λ_ s1 hz=>?_);obtain⟨B,J,G,m⟩:=hz;exact q pins s1 B J _ _ Q G g m
def gTup(K:Fg)(n:Nat)(t:TGs):TG:=λv Y H Q=>∃a xs,v=.ref a/\SqT K H a xs/\xs.length=n/\t xs Y H Q
theorem zza1{k:Nat}{t:TGs}(z:X.calm=true)(h:PGs X es t)
  (y:(dL es X.env).length=n:=by rfl) (g:(dL es X.env).findIdx? (·.1)=none:=by rfl):PG X (.Tuple es k pos) (gTup X.K n t):=by
 intro pins s Y H v u Q I r hw;obtain⟨a,xs,B,q,hl,hw⟩:=hw;subst B;cases r;obtain⟨its,rv,p,hz⟩:=I.tuple q;refine assign_Tuple_tuple (I.ok.hd z) p (by simp[y,<- hl,rv.length]) g λh' m=>?_;have G:Inv X pins Y H { s with heap:=h' }:=I.kept (t':=s.toks) λb o e=>m b o (wP (vY e)) e;exact h pins _ Y H xs _ Q G (by simpa using rv) hw
def gSub(g ti:TE)(t:TSet):TG:=λv Y H Q=>g Y H λo p=>ti Y p λi H2=>t o i v H2 λm=>Q Y m
theorem zd71{o i:aZ}{p ti:TE}{t:TSet}(O:PE X o p)(hi:PE X i ti)(L:PSet X t)
  (S:∀v,fG (.Subscript o i pos) X.env v=(do
   let g <- dN [v] (bD o X.env)
   let m <- dN [v,g] (bD i X.env)
   eW pos
   dN [v,g,m] (lC g m v)
   release [v,g,m] []):=by intro _;rfl):PG X (.Subscript o i pos) (gSub p ti t):=by
 walk_at"32";rw[S];refine aG (cO (thn (O pins s Y H _ I h) λg s1 hz=>?_));obtain⟨x,H1,Z,z,J⟩:=hz;refine aG (cO (thn (hi pins s1 Y H1 _ Z J) λm s2 hz=>?_));obtain⟨y,H2,W,q,G⟩:=hz;refine aG (gU (aG (cO (thn (L pins s2 Y H2 x y v g m u _ W z q r G) λ_ s3 hz=>?_))));obtain⟨H3,U,B⟩:=hz;exact wpAny_release ⟨Y,H3,U,B⟩
def tAsg(m:TE)(g:TG):TS:=λD Y H=>m Y H λx p=>g x Y p D.nx
theorem zuz{e:aZ}{m:TE}{g:TG}(G:PE X e m)(B:PG X tg g)(z:swapsWithSole [tg] e pos.line X.env=pure false:=by rfl)(hw:swappedStores [tg] e X.env=pure none:=by rfl)
  (J:(dL [tg] X.env).map (·.2)=[fG tg X.env]:=by rfl):PS X (.Assign [tg] e pos) (tAsg m g):=by
 walk_at"5";refine wpAny_Assign_stores (thn (G pins s Y H _ I h) λv s1 hz=>?_) z hw;obtain⟨x,O,L,p,y⟩:=hz;rw[J];exact thn (B pins s1 Y O x v _ L p y) λ_ s2 q=>q
theorem zoz{e:aZ}{g:TE}(O:X.N.Nodup)(hi:X.N[i]?=some x)(q:Loc X.env.scope x)(L:PE X e g)(z:f9 e (some (.Name x pos')) pos.line X.env=pure false:=by rfl)(G:X.fn x=true \/ X.env.scope.names.lookup x=some .local:=by walk_at"vi") :
  PS X (.Assign [.Name x pos'] e pos) (tAsg g (zos i)):=by
 walk_at"5";refine wpAny_Assign_Name (thn (L pins s Y H _ I h) λv s1 hz=>?_) z;obtain⟨y,W,U,m,p⟩:=hz;exact zhh U O hi q m (λs2 S=>⟨_,W,S,p⟩) G
def tAug(i:Nat)(g:TE)(ti:TIp):TS:=λD Y H=>∃x,Y[i]?=some (some x)/\g Y H λy m=>ti x y m λz H2=>D.nx (Y.set i (some z)) H2
theorem zve{e:aZ}{L:TE}{ti:TIp}{pos':Pos}(hN:X.N.Nodup)(hi:X.N[i]?=some x)(q:Loc X.env.scope x)(he:PE X e L)(Z:PIp X op ti)(hf:X.fn x=true \/ X.env.scope.names.lookup x=some .local:=by walk_at"vi") :
  PS X (.AugAssign (.Name x pos') op e pos) (tAug i L ti):=by
 walk_at"5";obtain⟨v,e1,h⟩:=h;obtain⟨m,hn,hl⟩:=I.loc;have G:Vis X.env.scope x:=by rcases q with k|k;exact .inl k;exact .inr (.inl k)
 obtain⟨u,r,l⟩:=hl i x v hi e1 G;refine wpAny_AugAssign_Name ?_;have go:aL (aM X.prog X.w) X.A (bD e X.env) (λw s₂=>aL (aM X.prog X.w) X.A (inplaceOp op u w) (λr s₃=>aL (aM X.prog X.w) X.A (lO X.env x r) (λ_=>SP X pins D .next) X.xe s₃) X.xe s₂) X.xe s:=by
  refine thn (he pins s Y H _ I h) λw s1 hz=>?_;obtain⟨y,H1,I1,S,W⟩:=hz;refine thn (Z pins s1 Y H1 v y u w _ I1 r S W) λz s2 hz=>?_;obtain⟨zv,H2,I2,O,U⟩:=hz;exact zhh I2 hN hi q O (λs3 I3=>⟨_,H2,I3,U⟩) hf
 rcases l with⟨g,hm⟩|⟨g,c,hc,p⟩
 ·exact gS I.ok.kind g hn hm go
 ·rcases g with g|g
  ·exact gX I.ok.kind g hc p go
  ·rcases q with k|k
   ·have:X.env.scope.names.lookup x=some .free:=g;rw[k]at this;cases this
   ·have:X.env.scope.names.lookup x=some .free:=g;rw[k]at this;cases this
def zod1(q ti B:TE)(m:V->V->Hp->VK->Prop)(p:TIp)(g:TSet):TS:=λD Y H=>q Y H λo O=>ti Y O λi H2=>m o i H2 λx L=>B Y L λy J=>p x y J λz I=>g o i z I λG=>D.nx Y G
def PGet(X:Cx)(t:V->V->Hp->VK->Prop):Prop :=
 ∀(pins:List (aE×Obj))(s:aH)(Y:St)(H:Hp)(o i:V)(g m:aC)(Q:VK),Inv X pins Y H s->RelV o g->RelV i m->t o i H Q ->
  aL (aM X.prog X.w) X.A (eZ g m) (EP X pins Y Q) X.xe s
theorem zkv{o i e:aZ}{B ti G:TE}{m:V->V->Hp->VK->Prop}{y:TIp}{g:TSet}{z:Pos}(ho:PE X o B)(hi:PE X i ti)(hg:PGet X m)(he:PE X e G)(hp:PIp X op y)(hs:PSet X g)
  (ha:∀p q new,augStore i p q new=(do dN [new,p,q] (lC p q new);release [new,p,q] [];pure .next):=by intros;rfl):PS X (.AugAssign (.Subscript o i z) op e pos) (zod1 B ti G m y g):=by
 walk_at"5";refine wpAny_AugAssign_SubscriptAny (thn (ho pins s Y H _ I h) λp s1 hz=>?_) ha;obtain⟨x1,H1,I1,L,q1⟩:=hz;refine thn (hi pins s1 Y H1 _ I1 q1) λq s2 hz=>?_;obtain⟨x2,H2,I2,J,q2⟩:=hz;refine thn (hg pins s2 Y H2 x1 x2 p q _ I2 L J q2) λold s3 hz=>?_;obtain⟨x3,H3,I3,r3,q3⟩:=hz;refine thn (he pins s3 Y H3 _ I3 q3) λv U hz=>?_;obtain⟨S,H4,I4,Z,q4⟩:=hz;refine thn (hp pins U Y H4 x3 S old v _ I4 r3 Z q4) λnew s5 hz=>?_;obtain⟨O,H5,I5,W,q5⟩:=hz;exact thn (hs pins s5 Y H5 x1 x2 O p q new _ I5 L J W q5) λ_ s6 ⟨H6,I6,q6⟩=>⟨Y,H6,I6,q6⟩
def ipI(f:Int->Int->Int):TIp:=λx y H Q=>∃i j,x=.int i/\y=.int j/\Q (.int (f i j)) H
theorem zbl:PIp X .Add (ipI λi j=>i+j):=by
 walk_at"10";obtain⟨i,j,z,p,q⟩:=h;subst z;subst p;obtain⟨t,rfl⟩:=m;obtain⟨t',rfl⟩:=g;exact iadd_int ⟨.int _,H,I.tok _,⟨_,rfl⟩,q⟩
theorem zys:PIp X .Sub (ipI λi j=>i - j):=by
 walk_at"10";obtain⟨i,j,z,p,q⟩:=h;subst z;subst p;obtain⟨t,rfl⟩:=m;obtain⟨t',rfl⟩:=g;exact isub_int ⟨.int _,H,I.tok _,⟨_,rfl⟩,q⟩
def za71(c:TT)(y:TS):TS:=λD Y H=>∃W:Nat->St->Hp->Prop,(∃m,W m Y H)/\∀m Y H,W m Y H ->
 c Y H λb q=>if b=true then ∃N:St->Hp->Prop,(∀p H',N p H'->∃g,g < m/\W g p H')/\y { D with nx:=N,ct:=N,bk:=D.nx } Y q else D.nx Y q
theorem zi9{c:aZ}{S:TT}{U:TS}(Z:PassesOwn (aM X.prog X.w) X.A X.env X.xe)(hc:PT X c S)(hb:PSs X body U):PS X (.While c body [] pos) (za71 S U):=by
 walk_at"5";obtain⟨W,⟨m0,w0⟩,p⟩:=h;refine wpAny_While (codeAny_whileLoop (λn s'=>∃Y' H',Inv X pins Y' H' s'/\W n Y' H') ?_ m0 ⟨Y,H,I,w0⟩);rintro n s1 ⟨z,H1,I1,w1⟩;refine cM Z (thn (hc pins s1 z H1 _ I1 (p n z H1 w1)) λb s2 hz=>?_);obtain⟨H2,I2,y⟩:=hz;cases b with
|true =>
  obtain⟨N,hN,y⟩:=y;rw[aF rfl];refine cM Z (thn (hb pins s2 z H2 _ I2 y) λf s3 q=>?_);cases f with
 |next =>
   obtain⟨g,m,O,G⟩:=q;obtain⟨J,L,B⟩:=hN g m G;exact⟨J,L,g,m,O,B⟩
 |cont =>
   obtain⟨g,m,O,G⟩:=q;obtain⟨J,L,B⟩:=hN g m G;exact⟨J,L,g,m,O,B⟩
 |brk=>exact q
 |ret v=>exact q
|false =>
  rw[aA v3];exact eP ⟨z,H2,I2,y⟩
end
structure It where
 go:Nat->Hp->Prop
 yld:Nat->Hp->V->Hp->Prop
 stop:Nat->Hp->Prop
def FpOk(X:Cx)(pins:List (aE×Obj))(H:Hp)(b:aE):Prop :=
 H b=none/\b≠X.env.locals/\b ∉ X.fs/\(b∈X.ex \/ X.s₀.heap.objs.size<=b)/\(∀x c,X.env.cells.lookup x=some c->c≠b)/\∀p∈X.pn++pins,p.1≠b
theorem Inv.fpOk{X:Cx}{Y:St}{H H':Hp}(I:Inv X pins Y H s)(g:s.heap.objs.size<=b)(y:H' b=none):FpOk X pins H' b:=by
 refine⟨y,zF (wZ I.lt g),I.nofs g,.inr (wL I.sz g),λx c e z=>?_,λp m z=>?_⟩
 ·obtain⟨v,q⟩:=I.cell x c e;exact aN (wZ q.lt (by rw[z];exact g)) (xE _)
 ·exact aN (wZ (vY (I.pin p m).1) (by rw[z];exact g)) (xE _)
structure Turn(P:aQ)(w:aR)(K:Fg)(tg:aZ)(J:It)(fp:List aE)(it:aE)(tn:Nat->aX->Prop):Prop where
 mem:it∈fp
 obj:∀i h,tn i h->∀b∈fp,∃o,h.get? b=some o/\∀v,o.data≠.cell v
 keep:∀i h h',tn i h->(∀b∈fp,∀o,h.get? b=some o->h'.get? b=some o)->tn i h'
 item:∀(X:Cx),X.prog=P->X.w=w->X.K=K->X.calm=true->∀(i:Nat)(pins:List (aE×Obj))(s:aH)(Y:St)(H:Hp)(E:aC->aH->Prop),Inv X pins Y H s->(∀b∈fp,FpOk X pins H b)->tn i s.heap->J.go i H ->
  aL (aM P w) X.A (gG (.ref it)) (λr s1=>∃u,r=some u /\
   aL (aM P w) X.A (eQ tg (.ref it) u) (λ_ s2=>∃x H',Inv X pins Y H' s2/\RelV x u/\J.yld i H x H'/\tn (i+1) s2.heap/\∀b∈fp,H' b=none) E s1) E s
 done:∀(X:Cx),X.prog=P->X.w=w->X.K=K->X.calm=true->∀(i:Nat)(pins:List (aE×Obj))(s:aH)(Y:St)(H:Hp)(E:aC->aH->Prop),Inv X pins Y H s->(∀b∈fp,FpOk X pins H b)->tn i s.heap->J.stop i H ->
  aL (aM P w) X.A (gG (.ref it)) (λr s1=>r=none/\Inv X pins Y H s1) E s
 self:∀(A:bB)(i:Nat)(s:aH)(Q:aC->aH->Prop)(E:aC->aH->Prop),tn i s.heap->Q (.ref it) s->aL (aM P w) A (gY (.ref it)) Q E s
abbrev TI:=St->Hp->(It->Hp->Prop)->Prop
def PIE(X:Cx)(pins:List (aE×Obj))(Y:St)(tg:aZ)(R:It->Hp->Prop)(g:aC)(s2:aH):Prop :=
 ∃(it:aE)(fp:List aE)(m:Nat->aX->Prop)(J:It)(H':Hp),g=.ref it/\Inv X pins Y H' s2/\Turn X.prog X.w X.K tg J fp it m/\m 0 s2.heap/\(∀b∈fp,FpOk X pins H' b)/\R J H'
def PI(X:Cx)(tg iter:aZ)(g:TI):Prop :=
 ∀(pins:List (aE×Obj))(s:aH)(Y:St)(H:Hp)(R:It->Hp->Prop),Inv X pins Y H s->g Y H R ->
  aL (aM X.prog X.w) X.A (bD iter X.env) (λv s1=>aL (aM X.prog X.w) X.A (gY v) (PIE X pins Y tg R) X.xe s1) X.xe s
theorem zf81{E : aC → aH → Prop}{n : String}{vs : Array aC}{Q : Unit → aH → Prop}(m : s.heap.get? it = some o)(q : o.cls = .type n)(hd : o.data = .fields vs)
    (p : ["enumerate", "zip", "dict_itemiterator", "dict_reverseitemiterator", "odict_iterator", "itertools.zip_longest", "itertools.pairwise"].contains n = false) (g : Q () s) : aL M A (eQ tg (.ref it) u) Q E s := by
  unfold eQ;cases tg <;> first
    | exact aP g
    | (cases u <;> first
        | exact aP g
        | (refine aG (wpAny_load m ?_)
           rw[q, hd];show aL M A (if(["enumerate", "zip", "dict_itemiterator", "dict_reverseitemiterator", "odict_iterator", "itertools.zip_longest", "itertools.pairwise"].contains n && vs[0]? == some (iR _)) = true then _ else _) Q E s;rw[aA (by intro h; rw[p, Bool.false_and]at h; cases h)];exact aP g))
def Itl(K:Fg)(a:aE):It :=
 ⟨λi H=>∃xs x,SqL K H a xs/\xs[i]?=some x,λi H x H'=>H'=H/\∀xs,SqL K H a xs->xs[i]?=some x,λi H=>∃xs,SqL K H a xs/\xs.length<=i⟩
def Itt(K:Fg)(a:aE):It :=
 ⟨λi H=>∃xs x,SqT K H a xs/\xs[i]?=some x,λi H x H'=>H'=H/\∀xs,SqT K H a xs->xs[i]?=some x,λi H=>∃xs,SqT K H a xs/\xs.length<=i⟩
def Itr(lo:Int)(n:Nat):It:=⟨λi _=>i < n,λi H x H'=>H'=H/\x=.int (lo+i),λi _=>n<=i⟩
theorem znu{P:aQ}(a it:aE):Turn P w K tg (Itl K a) [it] it (λi h=>h.IsListIter it a i) where
 mem:=by simp
 obj:=λi h st b g=>by
  have e:b=it:=by simpa using g
  subst e;obtain⟨o,e,c,d⟩:=st;exact⟨o,e,λv z=>by rw[d]at z;cases z⟩
 keep:=λi h h' st k=>st.at λo e=>k it (by simp) o e
 item:=by
  walk_at"8";subst J hw L;obtain⟨xs,x,q,B⟩:=G;obtain⟨its,rv,p,hz⟩:=I.list q;obtain⟨u,hu,ru⟩:=rv.get B;obtain⟨U,f1,f2,S,O,f5⟩:=y it (by simp);refine gE st p.isList (x:=u) (by simpa using hu) λh' m Z=>?_;have I1:Inv X pins Y H { s with heap:=h' }:=I.turned (t':=s.toks) (λb o g e=>(Z.2 b g).trans e) U f1 S O f5;obtain⟨o,e,c,d⟩:=id m;exact⟨u,rfl,zf81 (s:={ s with heap:=h' }) e c d (by decide) ⟨x,H,I1,ru,⟨rfl,λys hy=>by rw[I.list_inj hy q];exact B⟩,m,λb g=>(y b g).1⟩⟩
 done:=by
  walk_at"8";subst J hw L;obtain⟨xs,q,B⟩:=G;obtain⟨its,rv,p,hz⟩:=I.list q;obtain⟨U,f1,f2,S,O,f5⟩:=y it (by simp);have hl:=rv.length;exact gJ (I.ok.hd W) st p.isList (by simp;lia) λh' eb=>⟨rfl,I.turned (t':=s.toks) (λb o g e=>eb b o g e) U f1 S O f5⟩
 self:=λ_ _ _ _ _ st h=>wpAny_pyIter_listiter st h
theorem zyq{P:aQ}(a it:aE):Turn P w K tg (Itt K a) [it] it (λi h=>h.IsTupleIter it a i) where
 mem:=by simp
 obj:=λi h st b g=>by
  have e:b=it:=by simpa using g
  subst e;obtain⟨o,e,c,d⟩:=st;exact⟨o,e,λv z=>by rw[d]at z;cases z⟩
 keep:=λi h h' st k=>st.at λo e=>k it (by simp) o e
 item:=by
  walk_at"8";subst J hw L;obtain⟨xs,x,q,B⟩:=G;obtain⟨its,rv,p,hz⟩:=I.tuple q;obtain⟨u,hu,ru⟩:=rv.get B;obtain⟨U,f1,f2,S,O,f5⟩:=y it (by simp);refine wpAny_pyNext_tuple_item st (show s.heap.IsTuple a its.toArray from p) (x:=u) (by simpa using hu) λh' m Z=>?_;have I1:Inv X pins Y H { s with heap:=h' }:=I.turned (t':=s.toks) (λb o g e=>(Z.2 b g).trans e) U f1 S O f5;obtain⟨o,e,c,d⟩:=id m;exact⟨u,rfl,zf81 (s:={ s with heap:=h' }) e c d (by decide) ⟨x,H,I1,ru,⟨rfl,λys hy=>by rw[I.tuple_inj hy q];exact B⟩,m,λb g=>(y b g).1⟩⟩
 done:=by
  walk_at"8";subst J hw L;obtain⟨xs,q,B⟩:=G;obtain⟨its,rv,p,hz⟩:=I.tuple q;obtain⟨U,f1,f2,S,O,f5⟩:=y it (by simp);have hl:=rv.length;exact wpAny_pyNext_tuple_end (I.ok.hd W) st (show s.heap.IsTuple a its.toArray from p) (by simp;lia) λh' eb=>⟨rfl,I.turned (t':=s.toks) (λb o g e=>eb b o g e) U f1 S O f5⟩
 self:=λ_ _ _ _ _ st h=>wpAny_pyIter_tupleiter st h
theorem zoq{P:aQ}(it:aE)(lo:Int)(n:Nat):Turn P w K tg (Itr lo n) [it] it (λi h=>IsRangeIter h it (lo+(i:Nat) * 1) ((n:Int) - (i:Nat)) 1) where
 mem:=by simp
 obj:=λi h st b g=>by
  have e:b=it:=by simpa using g
  subst e;exact⟨_,st,λv z=>by
   have S:Data.fields _=Data.cell v:=z;cases S⟩
 keep:=λi h h' st k=>k it (by simp) _ st
 item:=by
  walk_at"21";subst B hw G;obtain⟨O,f1,f2,L,J,f5⟩:=p it (by simp);have W:=Walks.range (prog:=X.prog) (w:=X.w) (I.ok.hd y) it lo 1 n;refine W.item i s _ _ q st λv h' tk Z m U=>?_;obtain⟨t,rfl⟩:=Z;have I1:Inv X pins Y H { s with heap:=h',toks:=tk }:=I.turned (λb o g e=>U b o (by simpa using g) e) O f1 L J f5;refine⟨_,rfl,zf81 (s:={ s with heap:=h',toks:=tk }) (n := "range_iterator") m rfl rfl (by decide) ⟨.int (lo+i),H,I1,⟨t,?_⟩,⟨rfl,rfl⟩,m,λb g=>(p b g).1⟩⟩;rw[Int.mul_one]
 done:=by
  walk_at"21";subst B hw G;obtain⟨O,f1,f2,L,J,f5⟩:=p it (by simp);exact wpAny_pyNext_range_end (I.ok.hd y) st (by have:n<=i:=q;lia) λh' eb=>⟨rfl,I.turned (t':=s.toks) (λb o g e=>eb b o g e) O f1 L J f5⟩
 self:=λ_ _ _ _ _ st h=>wpAny_pyIter_rangeiter st h
section
variable {X:Cx}{tg:aZ}
theorem zar{Y:St}{H:Hp}{R:It->Hp->Prop}{lo hi:Int}{t u v:Tok}{tk:Nat}(I:Inv X pins Y H s)(B:-(2 ^ 62)<=lo)(z:lo < 2 ^ 62)(y:-(2 ^ 62)<=hi)(p:hi < 2 ^ 62)
  (q:R (Itr lo (hi - lo).toNat) H):aL (aM X.prog X.w) X.A (gY (.ref s.heap.objs.size)) (PIE X pins Y tg R) E { s with heap:=s.heap.push { cls:=.type "range",data:=.fields #[.int lo t,.int hi u,.int 1 v] },toks:=tk }:=by
 refine wpAny_pyIter_range (IsRange.new ..) (small_one B z y p) ?_;have g:Inv X pins Y H { s with heap:=s.heap.push { cls:=.type "range",data:=.fields #[.int lo t,.int hi u,.int 1 v] },toks:=tk }:=I.kept λb o e=>vS _ e;refine⟨(s.heap.push { cls:=.type "range",data:=.fields #[.int lo t,.int hi u,.int 1 v] }).objs.size,[(s.heap.push { cls:=.type "range",data:=.fields #[.int lo t,.int hi u,.int 1 v] }).objs.size],_,_,H,rfl,
  g.kept (t':=tk) λb o e=>vS _ e,zoq _ lo (hi - lo).toNat,?_,λb m=>?_,q⟩
 ·have J:lo+((0:Nat):Int) * 1=lo:=by simp
  have G:(((hi - lo).toNat:Nat):Int) - ((0:Nat):Int)=Builtin.Range.rangeSize lo hi 1:=by rw[rangeSize_one];split <;> lia
  show IsRangeIter _ _ (lo+((0:Nat):Int) * 1) ((((hi - lo).toNat:Nat):Int) - ((0:Nat):Int)) 1;rw[J,G];exact wB _ rfl
 ·have e:b=(s.heap.push { cls:=.type "range",data:=.fields #[.int lo t,.int hi u,.int 1 v] }).objs.size:=by simpa using m
  subst e;exact g.fpOk (u7 _) (g.hok.fresh (u7 _))
def zte1(g:TA):TI:=λY H R=>g Y H λvs m=>∃j:Int,vs=[.int j]/\-(2 ^ 62)<=j/\j < 2 ^ 62/\R (Itr 0 j.toNat) m
def zxe1(g:TA):TI:=λY H R=>g Y H λvs m=>∃i j:Int,vs=[.int i,.int j]/\(-(2 ^ 62)<=i/\i < 2 ^ 62/\-(2 ^ 62)<=j/\j < 2 ^ 62)/\R (Itr i (j - i).toNat) m
theorem zl2{a:aZ}{m:TA}{p pos:Pos}(L:Gl X "range")(J:X.mg "range"=none)(O:PA X [a] m)(G:aW [a] X.env=[(false,bD a X.env)]:=by rfl):PI X tg (.Call (.Name "range" p) [a] [] pos) (zte1 m):=by
 walk_at"13";refine Call_ (zui I L J boot_range (b6 (thn (O pos pins s Y H _ I h) λus s1 hz=>?_) G rfl));obtain⟨vs,U,S,z,g⟩:=hz;obtain⟨j,e,g,B,q⟩:=g;subst e;cases z with
|cons r y =>
  cases y;obtain⟨t,rfl⟩:=r;exact call_range_1 (zar S (by lia) (by lia) g B (by simpa using q))
theorem zwt{a b:aZ}{z:TA}{p pos:Pos}(W:Gl X "range")(U:X.mg "range"=none)(Z:PA X [a,b] z)(S:aW [a,b] X.env=[(false,bD a X.env),(false,bD b X.env)]:=by rfl)(g:aW [b] X.env=[(false,bD b X.env)]:=by rfl) :
  PI X tg (.Call (.Name "range" p) [a,b] [] pos) (zxe1 z):=by
 walk_at"13";refine Call_ (zui I W U boot_range (b6 (thn (Z pos pins s Y H _ I h) λus s1 hz=>?_) (by rw[S,g]) (by rw[g];rfl)));obtain⟨vs,H1,I1,B,y⟩:=hz;obtain⟨i,j,e,⟨y,O,L,J⟩,q⟩:=y;subst e;cases B with
|cons r m =>
  cases m with
 |cons G m =>
   cases m;obtain⟨t,rfl⟩:=r;obtain⟨t',rfl⟩:=G;exact call_range_2 (zar I1 y O L J q)
def tFor(y:TI)(g:TG)(z:TS):TS:=λD Y H=>y Y H λJ G=>∃W:Nat->Nat->St->Hp->Prop,(∃m,W 0 m Y G)/\∀i m Y H,W i m Y H ->
 (J.stop i H/\D.nx Y H) \/ (J.go i H/\∃N:St->Hp->Prop,(∀q H',N q H'->∃p,p < m/\W (i+1) p q H')/\∀x H',J.yld i H x H'->g x Y H' λB H2=>z { D with nx:=N,ct:=N,bk:=D.nx } B H2)
def zpr(fp:List aE)(h:aX):List (aE×Obj):=fp.filterMap λb=>(h.get? b).map λo=>(b,o)
theorem zs8{h:aX}(g:b∈fp)(e:h.get? b=some o):(b,o)∈zpr fp h:=yI.mpr ⟨b,g,by rw[e];rfl⟩
theorem zmu{h:aX}{p:aE×Obj}(g:p∈zpr fp h):p.1∈fp/\h.get? p.1=some p.2:=by
 obtain⟨b,m,e⟩:=yI.mp g;cases q:h.get? b with
|none=>rw[q]at e;cases e
|some o =>
  rw[q]at e;have y:(b,o)=p:=wY.inj e;subst y;exact⟨m,q⟩
theorem Inv.pinned{Y:St}{H:Hp}(I:Inv X pins Y H s)(B:∀b∈fp,FpOk X pins H b)(y:∀b∈fp,∃o,s.heap.get? b=some o/\∀v,o.data≠.cell v):Inv X (pins++zpr fp s.heap) Y H s :=
 I.pins_of λp q=>(vV.mp q).elim (λz=>I.pin p (w9 _ z)) λz=>by
  obtain⟨g,e⟩:=zmu z;obtain⟨G,f1,f2,_⟩:=B p.1 g;obtain⟨o,m,d⟩:=y p.1 g;rw[e]at m;cases m;exact⟨e,G,f1,f2,d⟩
theorem Inv.unpinned{pl:List (aE×Obj)}{Y:St}{H:Hp}(I:Inv X (pins++pl) Y H s):Inv X pins Y H s:=I.pins_of λp g=>I.pin p (w9 _ (xN _ g))
theorem zo7{iter:aZ}{wi:TI}{g:TG}{tb:TS}{pos:Pos}(S:PassesOwn (aM X.prog X.w) X.A X.env X.xe)(hc:X.calm=true)(hi:PI X tg iter wi)(hg:PG X tg g)(p:PSs X body tb)
  (hs:∀x,fN iter X.env x=pure x:=by intro _;rfl):PS X (.For tg iter body [] pos) (tFor wi g tb):=by
 walk_at"5";refine wpAny_For (thn (hi pins s Y H _ I h) λv s1 h1=>thn h1 λitv s2 h2=>?_) hs;obtain⟨it,fp,tn,J,H2,e,I2,T,st2,f2,W,⟨m0,w0⟩,turn⟩:=h2;subst e
 -- what stays true of the iterator's objects through the loop
 have B:∀{H':Hp},(∀b∈fp,H' b=none)->∀b∈fp,FpOk X pins H' b:=λhn b p=>⟨hn b p,(f2 b p).2⟩
 refine codeAny_forLoop_any (λn s'=>∃i Z H',Inv X pins Z H' s'/\tn i s'.heap/\(∀b∈fp,H' b=none)/\W i n Z H') ?_ m0 ⟨0,Y,H2,I2,st2,λb p=>(f2 b p).1,w0⟩;rintro n s3 ⟨i,U,H3,I3,st3,fr3,w3⟩;rcases turn i n U H3 w3 with⟨stop,qn⟩|⟨go,N,hN,step⟩
 ·refine cM S (thn (T.done X rfl rfl rfl hc i pins s3 U H3 X.xe I3 (B fr3) st3 stop) λr s4 hz=>?_);obtain⟨hr,I4⟩:=hz;subst hr;exact eP ⟨U,H3,I4,qn⟩
 ·refine cM S (thn (T.item X rfl rfl rfl hc i pins s3 U H3 X.xe I3 (B fr3) st3 go) λr s4 hz=>?_);obtain⟨u,hr,h4⟩:=hz;subst hr;refine cM S (thn h4 λ_ s5 hz=>?_);obtain⟨x,H5,I5,r5,y5,L,fr5⟩:=hz;have I5':=I5.pinned (B fr5) (T.obj _ _ L);refine cM S (thn (hg _ s5 U H5 x u _ I5' r5 (step x H5 y5)) λ_ s6 hz=>?_);obtain⟨Y6,H6,I6,q6⟩:=hz;refine cM S (thn (p _ s6 Y6 H6 _ I6 q6) λf s7 G=>?_);have again:∀{q:St}{z:Hp},Inv X (pins++zpr fp s5.heap) q z s7->N q z->∃m,m < n/\∃i Z H',Inv X pins Z H' s7/\tn i s7.heap/\(∀b∈fp,H' b=none)/\W i m Z H':=λ{q z} y O=>by
   obtain⟨m',hm,w7⟩:=hN q z O;refine⟨m',hm,i+1,q,z,y.unpinned,T.keep _ _ _ L λb p o e=>(y.pin (b,o) (w9 _ (w9 _ (zs8 p e)))).1,λb p=>?_,w7⟩;obtain⟨o,e,d⟩:=T.obj _ _ L b p;exact(y.pin (b,o) (w9 _ (w9 _ (zs8 p e)))).2.1
  cases f with
 |next=>obtain⟨q,z,y,O⟩:=G;exact again y O
 |cont=>obtain⟨q,z,y,O⟩:=G;exact again y O
 |brk=>obtain⟨q,z,y,G⟩:=G;exact⟨q,z,y.unpinned,G⟩
 |ret v=>obtain⟨x7,q,z,y,r7,G⟩:=G;exact⟨x7,q,z,y.unpinned,r7,G⟩
end
abbrev R2:=V->V->Hp->VK->Prop
def OpR(X:Cx)(f:aC->aC->Sem aC)(r:R2):Prop :=
 ∀(pins:List (aE×Obj))(s:aH)(Y:St)(H:Hp)(x y:V)(v u:aC)(Q:VK),Inv X pins Y H s->RelV x v->RelV y u->r x y H Q ->
  aL (aM X.prog X.w) X.A (f v u) (EP X pins Y Q) X.xe s
def UnR(X:Cx)(f:aC->Sem aC)(r:V->Hp->VK->Prop):Prop :=
 ∀(pins:List (aE×Obj))(s:aH)(Y:St)(H:Hp)(x:V)(v:aC)(Q:VK),Inv X pins Y H s->RelV x v->r x H Q ->
  aL (aM X.prog X.w) X.A (f v) (EP X pins Y Q) X.xe s
def CallR(X:Cx)(f:aC)(r:List V->Hp->VK->Prop):Prop :=
 ∀(pins:List (aE×Obj))(s:aH)(Y:St)(H:Hp)(xs:List V)(us:List aC)(Q:VK),Inv X pins Y H s->Vals xs us->r xs H Q ->
  aL (aM X.prog X.w) X.A (call f us) (EP X pins Y Q) X.xe s
def TruR(X:Cx)(r:V->Hp->(Bool->Hp->Prop)->Prop):Prop :=
 ∀(pins:List (aE×Obj))(s:aH)(Y:St)(H:Hp)(x:V)(v:aC)(Q:Bool->Hp->Prop),Inv X pins Y H s->RelV x v->r x H Q ->
  aL (aM X.prog X.w) X.A (truthy v) (TP X pins Y Q) X.xe s
def tOp(r:R2)(m g:TE):TE:=λY H Q=>m Y H λx p=>g Y p λy H2=>r x y H2 Q
def tUn(r:V->Hp->VK->Prop)(g:TE):TE:=λY H Q=>g Y H λx m=>r x m Q
def rI(C:Int->Int->Prop)(g:Int->Int->V):R2:=λx y H Q=>∃i j,x=.int i/\y=.int j/\C i j/\Q (g i j) H
def rI0(g:Int->Int->V):R2:=λx y H Q=>∃i j,x=.int i/\y=.int j/\Q (g i j) H
def rU(g:Int->V):V->Hp->VK->Prop:=λx H Q=>∃i,x=.int i/\Q (g i) H
section
variable {X:Cx}{a b c:aZ}{ta tb tc:TE}{pos:Pos}
theorem binT(J:PE X a ta)(G:PE X b tb){Y:St}{H:Hp}{R:V->V->Hp->Prop}(I:Inv X pins Y H s)
  (h:ta Y H λx g=>tb Y g λy H2=>R x y H2) {Q:aC->aH->Prop} 
  (B:∀v u s2 x y H2,Inv X pins Y H2 s2->RelV x v->RelV y u->R x y H2->aL (aM X.prog X.w) X.A (f v u) Q X.xe s2) :
  aL (aM X.prog X.w) X.A (bD a X.env) (λv s₁=>aL (aM X.prog X.w) X.A (bD b X.env) (λu s₂=>aL (aM X.prog X.w) X.A (f v u) Q X.xe s₂) X.xe s₁) X.xe s:=by
 refine thn (J pins s Y H _ I h) λv s1 hz=>?_;obtain⟨x,g,O,p,z⟩:=hz;refine thn (G pins s1 Y g _ O z) λu s2 hz=>?_;obtain⟨y,H2,L,m,q⟩:=hz;exact B v u s2 x y H2 L p m q
theorem zl1{r:R2}(p:OpR X (bU op) r)(B:PE X a ta)(z:PE X b tb):PE X (.BinOp a op b pos) (tOp r ta tb):=by
 walk_at"1";exact wpAny_BinOp (binT B z I h λv u s2 x y H2 G m g q=>p pins s2 Y H2 x y v u Q G m g q)
theorem zle1{op:UnaryOp}{r:V->Hp->VK->Prop}(p:UnR X (unaryOp op) r)(q:PE X a ta):PE X (.UnaryOp op a pos) (tUn r ta):=by
 walk_at"1";exact UnaryOp_ (thn (q pins s Y H _ I h) λv s1 ⟨x,z,y,g,m⟩=>p pins s1 Y z x v Q y g m)
theorem opI{f:aC->aC->Sem aC}{C:Int->Int->Prop}{g:Int->Int->Int}
  (rule:∀(i j:Int)(t u:Tok)(s:aH)(Q:aC->aH->Prop)(E:aC->aH->Prop),C i j->Q (.int (g i j) s.toks) { s with toks:=s.toks+1 }->aL (aM X.prog X.w) X.A (f (.int i t) (.int j u)) Q E s) :
  OpR X f (rI C λi j=>.int (g i j)):=by
 walk_at"15";obtain⟨i,j,rfl,rfl,z,q⟩:=h;obtain⟨t,rfl⟩:=p;obtain⟨t',rfl⟩:=m;exact rule i j t t' s _ _ z ⟨.int (g i j),H,I.tok _,⟨_,rfl⟩,q⟩
theorem opI0{f:aC->aC->Sem aC}{g:Int->Int->Int}
  (rule:∀(i j:Int)(t u:Tok)(s:aH)(Q:aC->aH->Prop)(E:aC->aH->Prop),Q (.int (g i j) s.toks) { s with toks:=s.toks+1 }->aL (aM X.prog X.w) X.A (f (.int i t) (.int j u)) Q E s) :
  OpR X f (rI0 λi j=>.int (g i j)):=by
 walk_at"15";obtain⟨i,j,rfl,rfl,q⟩:=h;obtain⟨t,rfl⟩:=p;obtain⟨t',rfl⟩:=m;exact rule i j t t' s _ _ ⟨.int (g i j),H,I.tok _,⟨_,rfl⟩,q⟩
theorem opB0{g:Int->Int->Bool}
  (rule:∀(i j:Int)(t u:Tok)(s:aH)(Q:aC->aH->Prop)(E:aC->aH->Prop),Q (.bool (g i j)) s->aL (aM X.prog X.w) X.A (f (.int i t) (.int j u)) Q E s) :
  OpR X f (rI0 λi j=>.bl (g i j)):=by
 walk_at"15";obtain⟨i,j,rfl,rfl,q⟩:=h;obtain⟨t,rfl⟩:=p;obtain⟨t',rfl⟩:=m;exact rule i j t t' s _ _ ⟨.bl (g i j),H,I,rfl,q⟩
def CPow(i j:Int):Prop:=0<=j/\j<=1000000/\i.natAbs < 2 ^ 64
def CMul(i j:Int):Prop:=(-(2 ^ 64) < i/\i < 2 ^ 64) \/ (-(2 ^ 64) < j/\j < 2 ^ 64)
theorem CMul.ok{i j:Int}(h:CMul i j):IntMulOk i j:=by
 rcases h with⟨m,g⟩|⟨m,g⟩
 ·exact .of_left (intBits_le_64 m g)
 ·exact .of_right (intBits_le_64 m g)
theorem zmb1:OpR X (bU .Add) (rI0 λi j=>.int (i+j)):=opI0 λ_ _ _ _ _ _ _ q=>add_int q
theorem zy8:OpR X (bU .Sub) (rI0 λi j=>.int (i - j)):=opI0 λ_ _ _ _ _ _ _ q=>sub_int q
theorem zcb1:OpR X (bU .Mult) (rI CMul λi j=>.int (i * j)):=opI λ_ _ _ _ _ _ _ g q=>mul_int q g.ok
theorem zu4:OpR X (bU .Mod) (rI (λ_ j=>0 < j) λi j=>.int (i % j)):=opI λi j _ _ _ _ _ g q=>by
 have m:(0:Int) < j:=g;exact mod_int' (by lia) (by rw[ua1 i (by lia)];exact q)
theorem zlo:OpR X (bU .Pow) (rI CPow λi j=>.int (i ^ j.toNat)):=opI λ_ _ _ _ _ _ _ g q=>pow_int_small g.1 g.2.1 g.2.2 q
theorem ze71:OpR X (bU .BitXor) (rI0 λi j=>.int (fC i j)):=opI0 λ_ _ _ _ _ _ _ q=>xor_int q
theorem unI{f:aC->Sem aC}{g:Int->Int}
  (rule:∀(i:Int)(t:Tok)(s:aH)(Q:aC->aH->Prop)(E:aC->aH->Prop),Q (.int (g i) s.toks) { s with toks:=s.toks+1 }->aL (aM X.prog X.w) X.A (f (.int i t)) Q E s) :
  UnR X f (rU λi=>.int (g i)):=by
 intro pins s Y H x v Q I m h;obtain⟨i,rfl,q⟩:=h;obtain⟨t,rfl⟩:=m;exact rule i t s _ _ ⟨.int (g i),H,I.tok _,⟨_,rfl⟩,q⟩
theorem zr31:UnR X (unaryOp .USub) (rU λi=>.int (-i)):=unI λ_ _ _ _ _ q=>neg_int q
end
def scal:V->V->Bool
|.non,.non=>true|.non,.int _=>true|.int _,.non=>true|.non,.bl _=>true|.bl _,.non=>true|.non,.str _=>true|.str _,.non=>true
|.int _,.int _=>true|.bl _,.bl _=>true|.str _,.str _=>true|.byt _,.byt _=>true
|.int _,.str _=>true|.str _,.int _=>true|.bl _,.str _=>true|.str _,.bl _=>true
|_,_=>false
def rEq:R2:=λx y H Q=>scal x y=true/\Q (.bl (decide (x=y))) H
def rNe:R2:=λx y H Q=>scal x y=true/\Q (.bl (!decide (x=y))) H
theorem zhf{i j:Int}:decide (V.int i=V.int j)=(i == j):=by
 rw[zG];simp
theorem zym{i j:Bool}:decide (V.bl i=V.bl j)=(i == j):=by
 rw[zG];simp
theorem znf{i j:Str}:decide (V.str i=V.str j)=(i == j):=by
 rw[zG];simp
theorem zkw{i j:Array UInt8}:decide (V.byt i=V.byt j)=(i.toList == j.toList):=by
 rw[zG];cases i;cases j;simp
section
variable {X:Cx}{a b c:aZ}{ta tb tc:TE}{pos:Pos}
theorem zv1{Y:St}{H:Hp}{Q:VK}{k g:Bool}(I:Inv X pins Y H s)(q:Q (.bl k) H)(e:k=g):EP X pins Y Q (.bool g) s:=by
 subst e;exact⟨.bl k,H,I,rfl,q⟩
theorem zdg1:OpR X (bC .Eq) rEq:=by
 walk_at"26";obtain⟨m,q⟩:=h;cases x with
|non =>
  cases p;cases y with
 |non=>cases g;exact PySem.EqNone.eq_none_none (zv1 I q (by simp))
 |bl j=>cases g;exact PySem.EqNone.eq_none_bool (zv1 I q (by simp))
 |int j=>obtain⟨t',rfl⟩:=g;exact PySem.EqNone.eq_none_int (zv1 I q (by simp))
 |str j=>obtain⟨t',rfl⟩:=g;exact PySem.EqNone.eq_none_str (zv1 I q (by simp))
 |_=>exact aN (show false=true from m) v3
|bl i =>
  cases p;cases y with
 |non=>cases g;exact PySem.EqNone.eq_bool_none (zv1 I q (by simp))
 |bl j=>cases g;exact eq_bool (zv1 I q zym)
 |str j=>obtain⟨t',rfl⟩:=g;exact PySem.EqMixed.eq_bool_str (zv1 I q (by simp))
 |_=>exact aN (show false=true from m) v3
|int i =>
  obtain⟨t,rfl⟩:=p;cases y with
 |non=>cases g;exact PySem.EqNone.eq_int_none (zv1 I q (by simp))
 |int j=>obtain⟨t',rfl⟩:=g;exact eq_int (zv1 I q zhf)
 |str j=>obtain⟨t',rfl⟩:=g;exact PySem.EqMixed.eq_int_str (zv1 I q (by simp))
 |_=>exact aN (show false=true from m) v3
|str i =>
  obtain⟨t,rfl⟩:=p;cases y with
 |non=>cases g;exact PySem.EqNone.eq_str_none (zv1 I q (by simp))
 |bl j=>cases g;exact PySem.EqMixed.eq_str_bool (zv1 I q (by simp))
 |int j=>obtain⟨t',rfl⟩:=g;exact PySem.EqMixed.eq_str_int (zv1 I q (by simp))
 |str j=>obtain⟨t',rfl⟩:=g;exact eq_str (zv1 I q znf)
 |_=>exact aN (show false=true from m) v3
|byt i =>
  obtain⟨t,rfl⟩:=p;cases y with
 |byt j=>obtain⟨t',rfl⟩:=g;exact PySem.W.eq_bytes (zv1 I q zkw)
 |_=>exact aN (show false=true from m) v3
|_=>cases y <;> exact aN (show false=true from m) v3
theorem zfg1:OpR X (bC .NotEq) rNe:=by
 walk_at"26";obtain⟨m,q⟩:=h;cases x with
|non =>
  cases p;cases y with
 |non=>cases g;exact PySem.EqNone.ne_none_none (zv1 I q (by simp))
 |bl j=>cases g;exact PySem.EqNone.ne_none_bool (zv1 I q (by simp))
 |int j=>obtain⟨t',rfl⟩:=g;exact PySem.EqNone.ne_none_int (zv1 I q (by simp))
 |str j=>obtain⟨t',rfl⟩:=g;exact PySem.EqNone.ne_none_str (zv1 I q (by simp))
 |_=>exact aN (show false=true from m) v3
|bl i =>
  cases p;cases y with
 |non=>cases g;exact PySem.EqNone.ne_bool_none (zv1 I q (by simp))
 |bl j=>cases g;exact ne_bool (zv1 I q (congrArg not zym))
 |str j=>obtain⟨t',rfl⟩:=g;exact PySem.EqMixed.ne_bool_str (zv1 I q (by simp))
 |_=>exact aN (show false=true from m) v3
|int i =>
  obtain⟨t,rfl⟩:=p;cases y with
 |non=>cases g;exact PySem.EqNone.ne_int_none (zv1 I q (by simp))
 |int j=>obtain⟨t',rfl⟩:=g;exact ne_int (zv1 I q (congrArg not zhf))
 |str j=>obtain⟨t',rfl⟩:=g;exact PySem.EqMixed.ne_int_str (zv1 I q (by simp))
 |_=>exact aN (show false=true from m) v3
|str i =>
  obtain⟨t,rfl⟩:=p;cases y with
 |non=>cases g;exact PySem.EqNone.ne_str_none (zv1 I q (by simp))
 |bl j=>cases g;exact PySem.EqMixed.ne_str_bool (zv1 I q (by simp))
 |int j=>obtain⟨t',rfl⟩:=g;exact PySem.EqMixed.ne_str_int (zv1 I q (by simp))
 |str j=>obtain⟨t',rfl⟩:=g;exact ne_str (zv1 I q (congrArg not znf))
 |_=>exact aN (show false=true from m) v3
|byt i =>
  obtain⟨t,rfl⟩:=p;cases y with
 |byt j=>obtain⟨t',rfl⟩:=g;exact PySem.W.ne_bytes (zv1 I q (congrArg not zkw))
 |_=>exact aN (show false=true from m) v3
|_=>cases y <;> exact aN (show false=true from m) v3
theorem zcy:OpR X (bC .Lt) (rI0 λi j=>.bl (decide (i < j))):=opB0 λ_ _ _ _ _ _ _ q=>lt_int q
theorem zg91:OpR X (bC .LtE) (rI0 λi j=>.bl (decide (i<=j))):=opB0 λ_ _ _ _ _ _ _ q=>le_int q
theorem zbw:OpR X (bC .Gt) (rI0 λi j=>.bl (decide (j < i))):=opB0 λ_ _ _ _ _ _ _ q=>gt_int q
theorem zq81:OpR X (bC .GtE) (rI0 λi j=>.bl (decide (j<=i))):=opB0 λ_ _ _ _ _ _ _ q=>ge_int q
theorem zdt:OpR X (bC .In) (λx y H Q=>∃i j,x=.str i/\y=.str j/\Q (.bl (!(Builtin.Str.occurrences j i 0 j.length 1).isEmpty)) H):=by
 walk_at"10";obtain⟨i,j,rfl,rfl,q⟩:=h;obtain⟨t,rfl⟩:=m;obtain⟨t',rfl⟩:=g;exact in_str (zv1 I q rfl)
theorem zia1:OpR X (bC .Is) (λx y H Q=>y=.non/\Q (.bl (decide (x=.non))) H):=by
 walk_at"11";obtain⟨rfl,q⟩:=h;cases m;refine is_none_gen (zv1 I q ?_);cases x <;> first
 |(cases g;rfl)
 |(obtain⟨t,rfl⟩:=g;rfl)
theorem zwv:OpR X (bC .IsNot) (λx y H Q=>y=.non/\Q (.bl (!decide (x=.non))) H):=by
 walk_at"11";obtain⟨rfl,q⟩:=h;cases m;refine isnot_none_gen (zv1 I q ?_);cases x <;> first
 |(cases g;rfl)
 |(obtain⟨t,rfl⟩:=g;rfl)
theorem OpR.or{r p:R2}(h:OpR X f r)(h':OpR X f p):OpR X f (λx y H Q=>r x y H Q \/ p x y H Q):=by
 intro pins s Y H x y v u Q I m g q;rcases q with q|q
 ·exact h pins s Y H x y v u Q I m g q
 ·exact h' pins s Y H x y v u Q I m g q
theorem zf1(b:aZ){op:CmpOp}(h:op≠.In:=by decide)(g:op≠.NotIn:=by decide):d8 op b=false:=by
 have p:(op == CmpOp.In)=false:=by cases op <;> first|rfl|exact aN rfl h
 have m:(op == CmpOp.NotIn)=false:=by cases op <;> first|rfl|exact aN rfl g
 cases b <;> simp[d8,p,m]
theorem zoj{op:CmpOp}{r:R2}(p:OpR X (bC op) r)(G:PE X a ta)(B:PE X b tb)(z:d8 op b=false):PE X (.Compare a [op] [b] pos) (tOp r ta tb):=by
 walk_at"1";exact wpAny_Compare1 (binT G B I h λv u s2 x y H2 J m g q=>p pins s2 Y H2 x y v u Q J m g q) z
def zxf1(t:TE):TT:=λY H Q=>t Y H λx H'=>∃k,x=.bl k/\Q k H'
theorem zn61{op:CmpOp}{r:R2}(J:OpR X (bC op) r)(S:PE X a ta)(O:PE X b tb)(L:d8 op b=false):PT X (.Compare a [op] [b] pos) (zxf1 (tOp r ta tb)):=by
 walk_at"1";refine wpAny_isTrue_Compare1 (thn (S pins s Y H _ I h) λv s1 ⟨x,H1,Z,p,G⟩=>thn (O pins s1 Y H1 _ Z G) λu s2 ⟨y,H2,W,m,B⟩ =>
  thn (J pins s2 Y H2 x y v u _ W p m B) λc s3 hz=>?_) L
 obtain⟨z,H3,U,g,k,e,q⟩:=hz;subst e;cases g;exact d4 ⟨H3,U,q⟩
def TruV(K:Fg)(x:V)(H:Hp)(k:Bool):Prop :=
 match x with
|.non=>k=false
|.bl b=>k=b
|.int i=>k=(i != 0)
|.str y=>y.length<=sizeLine/\k=((y.length:Int) != 0)
|.byt y=>y.size<=sizeLine/\k=((y.size:Int) != 0)
|.ref p=>(∃xs,SqL K H p xs/\k=!xs.isEmpty) \/ (∃xs,SqT K H p xs/\k=!xs.isEmpty) \/ ∃kvs,H p=some (.dK kvs)/\k=!kvs.isEmpty
|_=>False
theorem zso{κ:Type}{kvs:List (κ×V)}{vs:List (κ×aC)}(r:KV kvs vs):(!vs.isEmpty)=!kvs.isEmpty:=by
 cases r <;> rfl
theorem zdg{xs:List V}{its:List aC}(r:Vals xs its):(!its.toArray.isEmpty)=!xs.isEmpty:=by
 cases r <;> simp
theorem zig:(sizeLine:Nat) < 2 ^ 63:=by rw[aY];decide
theorem zk91:TruR X (λx H Q=>∃k,TruV X.K x H k/\Q k H):=by
 intro pins s Y H x v Q I B h;obtain⟨k,e,q⟩:=h;have hl:=zig;have O:sizeLine=16777216:=aY;cases x with
|non =>
  cases B;have g:k=false:=e;subst g;exact truthy_none ⟨H,I,q⟩
|bl b =>
  cases B;have g:k=b:=e;subst g;exact d4 ⟨H,I,q⟩
|int i =>
  obtain⟨t,rfl⟩:=B;have g:k=(i != 0):=e;subst g;exact PySem.P.truthy_int ⟨H,I,q⟩
|str y =>
  obtain⟨t,rfl⟩:=B;obtain⟨J,g⟩:y.length<=sizeLine/\k=((y.length:Int) != 0):=e;subst g;exact PySem.P.truthy_str (by lia) ⟨H,I.tok _,q⟩
|byt y =>
  obtain⟨t,rfl⟩:=B;obtain⟨J,g⟩:y.size<=sizeLine/\k=((y.size:Int) != 0):=e;subst g;exact PySem.W.truthy_bytes (by lia) ⟨H,I.tok _,q⟩
|ref p =>
  cases B;have g:(∃xs,SqL X.K H p xs/\k=!xs.isEmpty) \/ (∃xs,SqT X.K H p xs/\k=!xs.isEmpty) \/ ∃kvs,H p=some (.dK kvs)/\k=!kvs.isEmpty:=e;rcases g with⟨xs,G,g⟩|⟨xs,G,g⟩|⟨kvs,G,g⟩
  ·subst g;obtain⟨its,r,pl,hz⟩:=I.list G;have z:=r.length;exact wpAny_truthy_list pl.isList (by simp only[vZ];lia) ⟨H,I.tok _,by rw[zdg r];exact q⟩
  ·subst g;obtain⟨its,r,pl,hz⟩:=I.tuple G;have z:=r.length;exact truthy_tuple pl (by simp only[vZ];lia) ⟨H,I.tok _,by rw[zdg r];exact q⟩
  ·subst g;obtain⟨hz,L,vs,r,m⟩:kvs.length<=sizeLine/\(p == cB)=false/\∃vs,KV kvs vs/\s.heap.DictOf (ze2 X.prog X.w) p vs:=I.hok p _ G;have z:kvs.length=vs.length:=d9 r;exact wpAny_truthy_dict L m (by lia) ⟨H,I.tok _,by rw[zso r];exact q⟩
|_=>exact(show False from e).elim
theorem zo01(y:PE X a ta)(q:∀g,gZ a X.env g=(do let v <- g;eW a.pos;dN [v] (truthy v))) :
  PT X a (λY H Q=>ta Y H λx H'=>∃k,TruV X.K x H' k/\Q k H'):=by
 walk_at"1";exact isTrue_plain (thn (y pins s Y H _ I h) λv s1 ⟨x,B,z,m,p⟩=>zk91 pins s1 Y B x v Q z m p) (q _)
theorem zqm:OpR X (bU .Add) (λx y H Q=>∃i j,x=.str i/\y=.str j/\i.length+j.length<=sizeLine/\Q (.str (i++j)) H):=by
 walk_at"10";obtain⟨i,j,rfl,rfl,hz,q⟩:=h;obtain⟨t,rfl⟩:=m;obtain⟨t',rfl⟩:=g;exact add_str (λt' tk=>⟨.str (i++j),H,I.tok _,⟨_,rfl⟩,q⟩) hz
theorem zry{x:V}(r:Vals [x] us):∃u,us=[u]/\RelV x u:=by
 cases r with
|cons m g=>cases g;exact⟨_,rfl,m⟩
theorem ze81{x y:V}(r:Vals [x,y] us):∃u g,us=[u,g]/\RelV x u/\RelV y g:=by
 cases r with
|cons z q =>
  cases q with
 |cons p m=>cases m;exact⟨_,_,rfl,z,p⟩
theorem zat(m:X.calm=true):CallR X (.builtin "min") (λxs H Q=>∃i j,xs=[.int i,.int j]/\Q (.int (if j < i then j else i)) H):=by
 walk_at"4";obtain⟨i,j,rfl,q⟩:=h;obtain⟨u,p,rfl,⟨t,rfl⟩,⟨t',rfl⟩⟩:=ze81 r;refine min_two_ints (I.ok.hd m) λh' tk k=>⟨_,H,I.kept k,?_,q⟩
 by_cases g:j < i
 ·rw[aF g,aF g];exact⟨_,rfl⟩
 ·rw[aA g,aA g];exact⟨_,rfl⟩
def LenV(K:Fg)(x:V)(H:Hp)(n:Nat):Prop :=
 match x with
|.str y=>y.length<=sizeLine/\n=y.length
|.byt y=>y.size<=sizeLine/\n=y.size
|.ref p=>(∃xs,SqL K H p xs/\n=xs.length) \/ ∃xs,SqT K H p xs/\n=xs.length
|_=>False
theorem zay:CallR X (.builtin "len") (λxs H Q=>∃x n,xs=[x]/\LenV X.K x H n/\Q (.int n) H):=by
 walk_at"4";obtain⟨x,n,rfl,e,q⟩:=h;obtain⟨u,rfl,z⟩:=zry r;have hl:=zig;have L:sizeLine=16777216:=aY;cases x with
|str y =>
  obtain⟨t,rfl⟩:=z;obtain⟨J,m⟩:y.length<=sizeLine/\n=y.length:=e;subst m;exact len_str (by lia) ⟨.int _,H,I.tok _,⟨_,rfl⟩,q⟩
|byt y =>
  obtain⟨t,rfl⟩:=z;obtain⟨J,m⟩:y.size<=sizeLine/\n=y.size:=e;subst m;exact PySem.W.len_bytes (by lia) ⟨.int _,H,I.tok _,⟨_,rfl⟩,q⟩
|ref p =>
  cases z;have m:(∃xs,SqL X.K H p xs/\n=xs.length) \/ ∃xs,SqT X.K H p xs/\n=xs.length:=e;rcases m with⟨xs,G,m⟩|⟨xs,G,m⟩
  ·subst m;obtain⟨its,B,pl,hz⟩:=I.list G;have g:=B.length;exact Calls.call_len_list pl.isList (by simp only[vZ];lia) ⟨.int xs.length,H,I.tok _,⟨_,by simp only[vZ];rw[g]⟩,q⟩
  ·subst m;obtain⟨its,B,pl,hz⟩:=I.tuple G;have g:=B.length;exact len_tuple pl (by simp only[vZ];lia) ⟨.int xs.length,H,I.tok _,⟨_,by simp only[vZ];rw[g]⟩,q⟩
|_=>exact(show False from e).elim
end
structure ObjM(h:aX)(x dx C:aE)(mA:Str->Option aC):Prop where
 obj:h.get? x=some (cC C dx)
 ns:h.Ns1 dx mA
 ne:dx≠x
theorem zyt{h:aX}(n:h.Ns1 dx mA):∃m,h.get? dx=some m/\∀name,e9 name m=some (mA name):=by
 obtain⟨o,es,ep,B,hd,I,_,G⟩:=n;refine⟨o,B,λname=>?_⟩;have e:=G name;unfold nsFind findBy at e;rw[<- Array.find?_toList]at e;unfold e9;rw[hd];dsimp only;split
 ·rename_i y q
  rw[q]at e;exact congrArg some e
 ·rename_i q
  rw[q]at e;have a:es.toList.any (·.refKey)=false:=by
   rw[List.any_eq_false];intro y p;obtain⟨z,t,g⟩:=I y (Array.mem_toList_iff.mp p);simp[DictEntry.refKey,g]
  have J:¬es.toList.any (·.refKey)=true:=by rw[a];exact v3
  rw[aA J];exact congrArg some e
theorem ObjM.look{h:aX}{x:aE}(I:ObjM h x dx C mA):∃g,PySem.W.InstAt h x (cC C dx) C (some g)/\∀name,e9 name g=some (mA name) :=
 let ⟨g,m,hl⟩:=zyt I.ns
 ⟨g,⟨I.obj,rfl,rfl,m⟩,hl⟩
section
variable {prog:aQ}{w:aR}{A:bB}{E:aC->aH->Prop}{s:aH}{K:Fg}{x dx C f:aE}{mA:Str->Option aC}{name:Str}{v:aC}
theorem zq61{g:Bool}{Q:aC->aH->Prop}(X:K.In s.heap)(I:ObjM s.heap x dx C mA)(y:dM K C name=true)(q:d5 K C=true)
  (z:a9 K (.ref C) name=some none) (p:mA name=some v) (m:iP v=true) (h:Q v { s with toks:=s.toks+1 }) :
  aL (aM prog w) A (getAttr (.ref x) name g) Q E s:=by
 obtain⟨B,J,hl⟩:=I.look;exact PySem.W.get_value X J (eV y).1 (PySem.W.findObj_own q z rfl (by rw[hl,p])) m h
theorem zox{pl:Sem Bool}{Q:aC×List aC->aH->Prop}(X:K.In s.heap)(I:ObjM s.heap x dx C mA)(g:dM K C name=true)
  (y:a9 K (.ref C) name=some (some (.ref f))) (q:eO K (.ref f)=true) (p:mA name=none) (h:Q (.ref f,[.ref x]) s) :
  aL (aM prog w) A (eE (.ref x) name pl) Q E s:=by
 obtain⟨m,J,hl⟩:=I.look;exact PySem.W.method_fn X J (eV g).1 (eV g).2 y (beq_iff_eq.mp q) (by show(e9 name m).map (·.isSome)=some false;rw[hl,p];rfl) h
theorem zf71{ns:List Str}{Q:Unit->aH->Prop}(X:K.In s.heap)(I:ObjM s.heap x dx C mA)
  (O:a9 K (.ref C) "__setattr__"=some (some (.builtin "object.__setattr__"))) (S:fO K C=true) (L:gC K C name=some none) (U:d5 K C=true)
  (hw:hU mA ns) (hsz:ns.length<=sizeLine)
  (h:∀h',ObjM h' x dx C (λy=>if y=name then some v else mA y)->bM dx s.heap h'->Q () { s with heap:=h',toks:=s.toks+2 }) :
  aL (aM prog w) A (setAttr (.ref x) name v) Q E s:=by
 obtain⟨od,J,hl⟩:=I.look;refine PySem.W.set_plain X J O (PySem.W.osa_open (s:={ s with toks:=s.toks+1 }) (r:=none) X J S L λb=>?_);obtain⟨cd,Y,z⟩:=PySem.W.any_some U;have G:s.heap.get? x=some ⟨.ref C,some dx,.plain,#[]⟩:=I.obj;refine aG (aP (aG (aG (wpAny_loadPart G (aG (PySem.W.Looks.here (s:={ s with toks:=s.toks+1 }) (PySem.W.looks_clsIn X Y) ?_))))));rw[z];refine aP (a:=some dx) (aG (aP (aG ?_)));refine wpAny_nsSet1 (s:={ s with toks:=s.toks+1 }) I.ns λh' m g=>?_;obtain⟨oD,Z,epD,p,q,B⟩:=m.count (PySem.Within.cons name v hw);refine aG (wpAny_lookBehind p (by rw[q];exact pastItsLine_dict (wL B (by rw[xA];lia))) ?_);exact aP (h _ ⟨(g.2 _ (Ne.symm I.ne)).trans I.obj,m,I.ne⟩ g)
theorem zw01{R:iS->aH->Prop}{vs:List aC}(X:K.In s.heap)(m:eR K C=true)
  (hi:a9 K (.ref C) "__init__"=some (some (.ref f))) (p:PySem.W.typeIn K (.ref f)=some (.type "function"))
  (h:dZ (aM prog w) (A.under (.builtin "type.__call__" ⟨.ref C :: vs,kw⟩)) (.call (.ref f) ⟨.ref (s.heap.objs.size+1) :: vs,kw⟩) (PySem.W.InitBack (s.heap.objs.size+1) R)
   { s with heap:=(s.heap.push bZ).push (cC C s.heap.objs.size) }) :
  dZ (aM prog w) A (.call (.ref C) ⟨vs,kw⟩) R s:=by
 obtain⟨q,g,d,t,os⟩:=s;exact PySem.W.make_core (PySem.W.makes_of X m) (PySem.W.looks_findIn X hi) (λself=>PySem.W.bind_fn X self p) (.inl rfl) h
end
def putF(f:Str)(v:V):List (Str×V)->List (Str×V)
|[]=>[(f,v)]
|(g,x) :: r=>if g=f then(g,v) :: r else(g,x) :: putF f v r
theorem zhc(f g:Str)(v:V):∀fs:List (Str×V),(putF f v fs).lookup g=if g=f then some v else fs.lookup g
|[]=>by
  show xB g [(f,v)]=_;by_cases h:g=f
  ·have m:(g == f)=true:=beq_iff_eq.mpr h;simp only[xB,m,aF h]
  ·have m:(g == f)=false:=beq_eq_false_iff_ne.mpr h;simp only[xB,m,aA h]
|(k,x) :: r=>by
  have q:=zhc f g v r;rw[show putF f v ((k,x) :: r)=(if k=f then(k,v) :: r else(k,x) :: putF f v r)from rfl];by_cases p:k=f
  ·rw[aF p];by_cases h:g=k
   ·have m:(g == k)=true:=beq_iff_eq.mpr h;simp only[xB,m,aF (h.trans p)]
   ·have m:(g == k)=false:=beq_eq_false_iff_ne.mpr h;simp only[xB,m,aA (λe:g=f=>h (e.trans p.symm))]
  ·rw[aA p];by_cases h:g=k
   ·have m:(g == k)=true:=beq_iff_eq.mpr h;simp only[xB,m,aA (λe:g=f=>p (h.symm.trans e))]
   ·have m:(g == k)=false:=beq_eq_false_iff_ne.mpr h;simp only[xB,m];exact q
theorem zyd(f:Str)(v:V):∀fs:List (Str×V),f∈(putF f v fs).map (·.1)/\∀g,g∈fs.map (·.1)->g∈(putF f v fs).map (·.1)
|[]=>⟨by simp[putF],λg h=>by simp at h⟩
|(k,x) :: r=>by
  obtain⟨q,p⟩:=zyd f v r;rw[show putF f v ((k,x) :: r)=(if k=f then(k,v) :: r else(k,x) :: putF f v r)from rfl];by_cases m:k=f
  ·rw[aF m];subst m;exact⟨by simp,λg h=>by simpa using h⟩
  ·rw[aA m];refine⟨?_,λg h=>?_⟩
   ·rw[v4];exact wA _ q
   ·rw[v4]at h ⊢;rcases vR.mp h with e|e
    ·exact vR.mpr (.inl e)
    ·exact wA _ (p g e)
theorem zcd(f:Str)(v:V):∀fs:List (Str×V),(putF f v fs).length<=fs.length+1
|[]=>by simp[putF]
|(k,x) :: r=>by
  have m:=zcd f v r;rw[show putF f v ((k,x) :: r)=(if k=f then(k,v) :: r else(k,x) :: putF f v r)from rfl];by_cases g:k=f
  ·rw[aF g,xA,xA];lia
  ·rw[aA g,xA,xA];lia
theorem RelO.some_of{v:V}{o:Option aC}(r:RelO (some v) o):∃u,o=some u/\RelV v u:=by
 cases o with
|none=>exact(show False from r).elim
|some u=>exact⟨u,rfl,r⟩
theorem RelO.none_of{o:Option aC}(r:RelO none o):o=none:=by
 cases o with
|none=>rfl
|some u=>exact(show False from r).elim
theorem zft{v:V}(r:RelV v u):iP u=true:=by
 cases v with
|non=>cases (show u=xM from r);rfl
|bl b=>cases (show u=zQ b from r);rfl
|int i=>obtain⟨t,e⟩:=(show ∃t,u=zD i t from r);cases e;rfl
|str x=>obtain⟨t,e⟩:=(show ∃t,u=zE x t from r);cases e;rfl
|byt b=>obtain⟨t,e⟩:=(show ∃t,u=Value.bytes b t from r);cases e;rfl
|flt b=>obtain⟨t,e⟩:=(show ∃t,u=j7 b t from r);cases e;rfl
|ref a=>cases (show u=vX a from r);rfl
|ty n=>cases (show u=Value.type n from r);rfl
section
variable {P:aQ}{w:aR}{H H':Hp}{h h':aX}{a C dx:aE}{fs fs':List (Str×V)}
theorem zmk(g:HOk P w H h)(e:H a=some (.ins C dx fs)):∃mA,ObjM h a dx C mA/\(∀f,RelO (fs.lookup f) (mA f))/\hU mA (fs.map (·.1))/\fs.length<=1000/\H dx=some (.own a):=by
 obtain⟨d,z,ne,ob,mA,n,r,q⟩:=(show ObjOk P w H h a (.ins C dx fs)from g a _ e)
 exact⟨mA,⟨ob,n,ne⟩,r,q,z,d⟩
end
structure Cls(K:Fg)(C:aE):Prop where
 pg:dM K C Str.empty=true
 hd:d5 K C=true
 po:fO K C=true
 sa:a9 K (.ref C) "__setattr__"=some (some (.builtin "object.__setattr__"))
theorem Cls.get(c:Cls K C)(f:Str):dM K C f=true:=c.pg
def NoAttr(K:Fg)(C:aE)(f:Str):Prop:=a9 K (.ref C) f=some none
theorem NoAttr.taker{f:Str}(n:NoAttr K C f):gC K C f=some none:=by
 unfold gC;rw[show a9 K (.ref C) f=some none from n];rfl
structure Meth(K:Fg)(C:aE)(m:Str)(f:aE):Prop where
 at_:a9 K (.ref C) m=some (some (.ref f))
 fn:eO K (.ref f)=true
 kp:bP K (.ref f)=true
section
variable {X:Cx}{pins:List (aE×Obj)}{Y:St}{H:Hp}{s:aH}{a C dx:aE}{fs:List (Str×V)}{f:Str}{v:V}{A:bB}{E:aC->aH->Prop}
theorem zyl{b:Bool}{Q:aC->aH->Prop}(I:Inv X pins Y H s)(e:H a=some (.ins C dx fs))(c:Cls X.K C)(n:NoAttr X.K C f)(l:fs.lookup f=some v)
  (h:∀u s',Inv X pins Y H s'->RelV v u->Q u s'):aL (aM X.prog X.w) A (getAttr (.ref a) f b) Q E s:=by
 obtain⟨mA,O,r,_,_,_⟩:=zmk I.hok e;obtain⟨u,m,g⟩:=RelO.some_of (v:=v) (o:=mA f) (by rw[<- l];exact r f);exact zq61 I.kIn O (c.get f) c.hd n m (zft g) (h u _ (I.tok _) g)
theorem zw8{m:Str}{g:aE}{pl:Sem Bool}{Q:aC×List aC->aH->Prop}(I:Inv X pins Y H s)(e:H a=some (.ins C dx fs))(c:Cls X.K C)(k:Meth X.K C m g)(l:fs.lookup m=none)
  (h:Q (.ref g,[.ref a]) s):aL (aM X.prog X.w) A (eE (.ref a) m pl) Q E s:=by
 obtain⟨mA,O,r,_,_,_⟩:=zmk I.hok e;have p:mA m=none:=RelO.none_of (by rw[<- l];exact r m);exact zox I.kIn O (c.get m) k.at_ k.fn p h
theorem zwl{y:V}{Q:Unit->aH->Prop}(I:Inv X pins Y H s)(e:H a=some (.ins C dx fs))(c:Cls X.K C)(n:NoAttr X.K C f)(hl:fs.length < 1000)(J:RelV y u)
  (h:∀s',Inv X pins Y (upd H a (.ins C dx (putF f y fs))) s'->Q () s'):aL (aM X.prog X.w) A (setAttr (.ref a) f u) Q E s:=by
 obtain⟨mA,O,r,p,_,B⟩:=zmk I.hok e;have hz:(fs.map (·.1)).length<=sizeLine:=by rw[u4,aY];lia
 refine zf71 I.kIn O c.sa c.po n.taker c.hd p hz λh' m G=>h _ ?_;have hd:∃o,h'.get? dx=some o:=let ⟨o,_,_,U,_⟩:=m.ns;⟨o,U⟩;refine I.write (x:=a) (e:=dx) (by rw[e];exact True.intro) (.inr B) (λb q S z=>(G.2 b S).trans z) hd ?_;refine⟨by rw[zb1 O.ne];exact B,?_,O.ne,m.obj,_,m.ns,λg=>?_,λg L=>?_⟩
 ·have:=zcd f y fs;lia
 ·show RelO ((putF f y fs).lookup g) (if g=f then some u else mA g);rw[zhc];by_cases q:g=f
  ·rw[aF q,aF q];exact J
  ·rw[aA q,aA q];exact r g
 ·by_cases q:g=f
  ·rw[q];exact(zyd f y fs).1
  ·refine(zyd f y fs).2 g (p g λz=>L ?_);show(if g=f then some u else mA g)=none;rw[aA q];exact z
theorem Inv.made(I:Inv X pins Y H s):Inv X pins Y (upd (upd H s.heap.objs.size (.own (s.heap.objs.size+1))) (s.heap.objs.size+1) (.ins C s.heap.objs.size []))
  { s with heap:=(s.heap.push bZ).push (cC C s.heap.objs.size) }:=by
 have g:(s.heap.push bZ).get? s.heap.objs.size=some PySem.W.emptyDict:=wB s.heap rfl;have B:((s.heap.push bZ).push (cC C s.heap.objs.size)).get? (s.heap.objs.size+1)=some (cC C s.heap.objs.size):=by
  have:=wB (s.heap.push bZ) (o:=cC C s.heap.objs.size) rfl
  rwa [xU]at this
 have z:(s.heap.push bZ).Ns s.heap.objs.size (λ_=>none):=⟨bZ,#[],_,g,rfl,(λe p=>aN p (by simp)),λ_=>rfl⟩
 have G:=I.laid (a:=s.heap.objs.size) (o:=.own (s.heap.objs.size+1)) (h':=s.heap.push bZ) (t':=s.toks) (λb u q=>vS _ q) (u7 _) ⟨_,g⟩;refine G.laid (a:=s.heap.objs.size+1) (o:=.ins C s.heap.objs.size []) (t':=s.toks) (λb u q=>vS _ q) (uaA (xU _ _)) ?_;have ne:s.heap.objs.size≠s.heap.objs.size+1:=wP (zR _);refine⟨by rw[zb1 ne,zp0],wH _,ne,B,λ_=>none,(Heap.Ns1.of_empty z).at λo q=>vS _ q,λ_=>True.intro,λy m=>aN rfl m⟩
theorem zr51{prog:aQ}{env:Env}{e:aZ}{f:Str}{Q:aC->aH->Prop}(g:dG e f env (bD e env)=bD e env)
  (h:aL (aM prog w) A (bD e env) (λo s₁=>aL (aM prog w) A (getAttr o f true) Q E s₁) E s):aL (aM prog w) A (bD (.Attribute e f pos) env) Q E s :=
 Attribute_any_ h (by rw[arm_eval_Attribute,g])
end
def tFld(K:Fg)(m:TE)(f:Str):TE:=λY H Q=>m Y H λx g=>∃a C dx fs v,x=.ref a/\g a=some (.ins C dx fs)/\Cls K C/\NoAttr K C f/\fs.lookup f=some v/\Q v g
def sFld(K:Fg)(m g:TE)(f:Str):TS:=λD Y H=>g Y H λy p=>m Y p λx H2=>∃a C dx fs,x=.ref a/\H2 a=some (.ins C dx fs)/\Cls K C/\NoAttr K C f/\fs.length < 1000 /\
 D.nx Y (upd H2 a (.ins C dx (putF f y fs)))
section
variable {X:Cx}{o e value:aZ}{f:Str}{pos pos' tpos:Pos}{ta tv:TE}
theorem zgb1(p:PE X e ta)(y:dG e f X.env (bD e X.env)=bD e X.env):PE X (.Attribute e f pos) (tFld X.K ta f):=by
 walk_at"1";refine zr51 y (thn (p pins s Y H _ I h) λu s1 hz=>?_);obtain⟨x,J,G,g,a,C,dx,fs,v,ex,z,c,n,l,q⟩:=hz;subst ex;obtain rfl:u=vX a:=g;exact zyl G z c n l λL s2 B m=>⟨v,J,B,m,q⟩
theorem zkd(J:PE X o ta)(B:PE X value tv)(G:f9 value (some (.Attribute o f pos')) pos.line X.env=pure false):PS X (.Assign [.Attribute o f pos'] value pos) (sFld X.K ta tv f):=by
 walk_at"5";refine plainObj_wpAny_Assign_Attribute (thn (B pins s Y H _ I h) λu s1 ⟨y,W,U,g,q⟩=>thn (J pins s1 Y W _ U q) λz s2 hz=>?_) G;obtain⟨x,H2,S,m,a,C,dx,fs,ex,L,c,n,l,p⟩:=hz;subst ex;obtain rfl:z=vX a:=m;exact zwl S L c n l g λs3 O=>⟨Y,_,O,p⟩
end
section
variable {X:Cx}{pins:List (aE×Obj)}{Y:St}{H:Hp}{s:aH}{A:bB}{E:aC->aH->Prop}{Q:aC->aH->Prop}{c:aC}{b:Bool}
inductive TyOf(K:Fg)(H:Hp):V->aC->Prop where
|non:TyOf K H .non (.type "NoneType")
|bl (x:Bool):TyOf K H (.bl x) (.type "bool")
|int (i:Int):TyOf K H (.int i) (.type "int")
|str (x:Str):TyOf K H (.str x) (.type "str")
|flt (x:UInt64):TyOf K H (.flt x) (.type "float")
|lst {a:aE} {xs:List V} (e:H a=some (.lst xs)):TyOf K H (.ref a) (.type "list")
|frz {a:aE} {o:Obj} {xs:List V} (e:H a=some (.frz o (.lst xs))):TyOf K H (.ref a) (.type "list")
|tup {a:aE} {xs:List V} (e:H a=some (.tup xs)):TyOf K H (.ref a) (.type "tuple")
|dK {a:aE} {kvs:List (Key×V)} (e:H a=some (.dK kvs)):TyOf K H (.ref a) (.type "dict")
|dT {a:aE} {kvs:List (List Key×V)} (e:H a=some (.dT kvs)):TyOf K H (.ref a) (.type "dict")
|ins {a C dx:aE} {fs:List (Str×V)} (e:H a=some (.ins C dx fs)) (cl:Cls K C) (ha:a9 K (.ref C) "__class__"=some (some (.builtin "object.__class__")))
   (hn:PySem.W.specialIn K (.builtin "object.__class__") "__get__"=some (some (.builtin "getset_descriptor.__get__"))) (htk:PySem.W.takesIn K (.builtin "object.__class__")=some true)
   (hm:PySem.W.mroIn K C (.type "object")=some true):TyOf K H (.ref a) (.ref C)
theorem zts{x:V}{t:aC}(I:Inv X pins Y H s)(g:RelV x u)(ty:TyOf X.K H x t)(e:d0 X.K t c=some b)(h:∀tk,Q (.bool b) { s with toks:=tk }) :
  aL (aM X.prog X.w) A (call (.builtin "isinstance") [u,c]) Q E s:=by
 cases ty with
|non=>cases (show u=xM from g);exact bL PySem.W.kitx_none I.kIn True.intro e (λz=>nomatch z) h
|bl y=>cases (show u=zQ y from g);exact bL PySem.W.kitx_bool I.kIn True.intro e (λz=>nomatch z) h
|int i=>obtain⟨t,q⟩:=(show ∃t,u=zD i t from g);cases q;exact bL PySem.W.kitx_int I.kIn True.intro e (λz=>nomatch z) h
|str y=>obtain⟨t,q⟩:=(show ∃t,u=zE y t from g);cases q;exact bL PySem.W.kitx_str I.kIn True.intro e (λz=>nomatch z) h
|flt y=>obtain⟨t,q⟩:=(show ∃t,u=j7 y t from g);cases q;exact bL PySem.W.kitx_float I.kIn True.intro e (λz=>nomatch z) h
|@lst a xs m =>
  cases (show u=vX a from g);obtain⟨_,_,n,_,B⟩:=(show ObjOk X.prog X.w H s.heap a (.lst xs)from I.hok a _ m)
  exact bL fQ I.kIn ⟨_,B,rfl⟩ e (λz=>nomatch z) h
|@frz a ob xs m =>
  cases (show u=vX a from g);obtain⟨_,_,_,n,_,B⟩:=(show ObjOk X.prog X.w H s.heap a (.frz ob (.lst xs))from I.hok a _ m)
  exact bL fQ I.kIn ⟨_,B,rfl⟩ e (λz=>nomatch z) h
|@tup a xs m =>
  cases (show u=vX a from g);obtain⟨_,_,_,p⟩:=(show ObjOk X.prog X.w H s.heap a (.tup xs)from I.hok a _ m)
  obtain⟨o,B,G,_⟩:=p;exact bL iB I.kIn ⟨o,B,G⟩ e (λz=>nomatch z) h
|@dK a kvs m =>
  cases (show u=vX a from g);obtain⟨_,_,vs,_,p⟩:=(show ObjOk X.prog X.w H s.heap a (.dK kvs)from I.hok a _ m)
  obtain⟨o,es,ep,B,G,_⟩:=p;exact bL iF I.kIn ⟨o,B,G.1⟩ e (λz=>nomatch z) h
|@dT a kvs m =>
  cases (show u=vX a from g);obtain⟨_,_,xs,_,o,es,ep,B,G,_⟩:=(show ObjOk X.prog X.w H s.heap a (.dT kvs)from I.hok a _ m)
  exact bL iF I.kIn ⟨o,B,G.1⟩ e (λz=>nomatch z) h
|@ins a C dx fs m cl Z S L U =>
  cases (show u=vX a from g);obtain⟨mA,O,_⟩:=zmk I.hok m;obtain⟨od,J,_⟩:=O.look;exact bL (PySem.W.kitx_own (cl.get _) cl.hd Z S L U) I.kIn J e (λz=>nomatch z) h
end
structure Room(k:Nat)(A:bB):Prop where
 hd:A.handled=none
 dp:A.depth+3 * k+5 < recursionLimit
 gd:A.guards=some []
 un:A.units+16 * k+200 < cJ
theorem Room.mono{j k:Nat}(r:Room k A)(h:j<=k):Room j A:=⟨r.hd,by have:=r.dp;lia,r.gd,by have:=r.un;lia⟩
theorem Room.deeper{k:Nat}{A:bB}(r:Room (k+1) A)(env:Env):Room k (A.deeper env) :=
 ⟨r.hd,by have:=r.dp;show A.depth+1+3 * k+5 < _;lia,r.gd,by have:=r.un;show A.units+3+16 * k+200 < _;lia⟩
theorem zfn:(A.under (.builtin "type.__call__" ⟨.ref C :: us,kw⟩)).depth=A.depth+1:=by
 first|rfl|simp[Around.under,Code.weight,Code.isCreation,Code.isGuard,Code.isCaller,Code.frames,Code.isFrame,guardIds]
theorem znq:(A.under (.builtin "type.__call__" ⟨.ref C :: us,kw⟩)).units=A.units+1:=by
 first|rfl|simp[Around.under,Code.cUnits,Code.frames,Code.isFrame]
theorem Room.make{k:Nat}(r:Room (k+1) A)(C:aE)(us:List aC)(kw:List (Str×aC)):Room k (A.under (.builtin "type.__call__" ⟨.ref C :: us,kw⟩)) :=
 ⟨r.hd,by have:=r.dp;rw[zfn];lia,r.gd,by have:=r.un;rw[znq];lia⟩
theorem Room.depth{k:Nat}{A:bB}(r:Room k A):A.depth < recursionLimit:=by have:=r.dp;lia
theorem Room.units{k:Nat}{A:bB}(r:Room k A):A.units+64 < cLine:=by have:=r.un;lia
def tNil:TA:=λ_ H Q=>Q [] H
def zkm(m:TE)(g:TA):TA:=λY H Q=>m Y H λx p=>g Y p λxs H2=>Q (x :: xs) H2
section
variable {X:Cx}{e:aZ}{es:List aZ}{te:TE}{t:TA}{pos:Pos}
theorem zg0:PA X [] tNil:=λ_ _ _ _ H Q I h=>Calls.spliced_nil ⟨[],H,I,.nil,h⟩
theorem za0(z:PE X e te)(hr:PA X es t)(y:aW (e :: es) X.env=(false,bD e X.env) :: aW es X.env:=by rfl):PA X (e :: es) (zkm te t):=by
 intro pos pins s Y H Q I h;rw[y];show aL _ _ (spliced ((false,bD e X.env) :: b7 pos (aW es X.env))) _ _ s;refine Calls.spliced_cons (thn (z pins s Y H _ I h) λu s1 hz=>?_);obtain⟨x,J,G,m,q⟩:=hz;exact thn (hr pos pins s1 Y J _ G q) λus s2 ⟨xs,H2,B,g,p⟩=>⟨x :: xs,H2,B,.cons m g,p⟩
def tTup(t:TA):TE:=λY H Q=>t Y H λxs g=>xs.length<=sizeLine/\∀p,g p=none->Q (.ref p) (upd g p (.tup xs))
def tLst(t:TA):TE:=λY H Q=>t Y H λxs g=>xs.length<=sizeLine/\∀p,g p=none->Q (.ref p) (upd g p (.lst xs))
theorem zbb1{x1}(h:PA X es t):PE X (.Tuple es x1 pos) (tTup t):=by
 intro pins s Y H Q I p;refine wpAny_Tuple_spliced (thn (h pos pins s Y H _ I p) λus s1 ⟨xs,m,g,r,z,q⟩=>⟨by rw[<- r.length];exact z,?_⟩);have y:m s1.heap.objs.size=none:=g.hok.fresh (u7 _);refine⟨.ref s1.heap.objs.size,upd m s1.heap.objs.size (.tup xs),g.laid (t':=s1.toks) (λb u e=>vS _ e) (u7 _) ?_,rfl,q _ y⟩;exact⟨z,us,r,⟨_,wB _ rfl,rfl,_,rfl⟩⟩
theorem zfb1(h:PA X es t):PE X (.List es pos) (tLst t):=by
 intro pins s Y H Q I p;refine wpAny_List_spliced (thn (h pos pins s Y H _ I p) λus s1 ⟨xs,m,g,r,z,q⟩=>⟨by rw[<- r.length];exact z,?_⟩);have y:m s1.heap.objs.size=none:=g.hok.fresh (u7 _);refine⟨.ref s1.heap.objs.size,upd m s1.heap.objs.size (.lst xs),g.laid (t':=s1.toks) (λb u e=>vS _ e) (u7 _) ?_,rfl,q _ y⟩;exact⟨z,us,0,r,wB _ rfl⟩
end
abbrev Sp:=List V->Hp->VK->XK->Prop
abbrev CXT:=List Env->Hp->aH->XK->aC->aH->Prop
structure Env0(P:aQ)(w:aR)(K:Fg)(mg:Str->Option aC)(base:aX)(A:bB)(outer:List Env)(s:aH)(H:Hp):Prop where
 frames:A.frames=some outer
 mod:Mod K mg base
 bs:∀b o,base.get? b=some o->s.heap.get? b=some o/\H b=none
 bsz:base.objs.size<=s.heap.objs.size
 funs:s.heap.FunFrames base outer
 frf:∀b∈frs outer,H b=none
 hok:HOk P w H s.heap
 bare:eD s.gens
def CE(outer:List Env)(P:aQ)(w:aR)(H:Hp)(s:aH)(Q:VK)(u:aC)(s':aH):Prop :=
 ∃v H',s'.os=s.os/\eD s'.gens/\Un (frs outer) [] H H' s.heap s'.heap/\HOk P w H' s'.heap/\RelV v u/\Q v H'
def CR(CX:CXT)(outer:List Env)(P:aQ)(w:aR)(H:Hp)(s:aH)(Q:VK)(E:XK)(r:iS)(s':aH):Prop :=
 match r with
|.ok (.ret u)=>CE outer P w H s Q u s'
|.ok _=>False
|.error e=>CX outer H s E e s'
structure FnOk(P:aQ)(w:aR)(K:Fg)(mg:Str->Option aC)(base:aX)(CX:CXT)(k:Nat)(f:aE)(fd:cZ)(ps:List Str)(sp:Sp):Prop where
 len:∀vs H Q E,sp vs H Q E->vs.length=ps.length
 run:∀(A:bB)(outer:List Env)(s:aH)(H:Hp)(args:Args)(us:List aC)(vs:List V)(Q:VK)(E:XK),Room k A->Env0 P w K mg base A outer s H->e7 s fd args (ps.zip us)->Vals vs us->sp vs H Q E ->
  dZ (aM P w) A (.call (.ref f) args) (CR CX outer P w H s Q E) s
theorem Env0.make{P:aQ}{H:Hp}(e:Env0 P w K mg base A outer s H)(C:aE)(us:List aC)(kw:List (Str×aC)) :
  Env0 P w K mg base (A.under (.builtin "type.__call__" ⟨.ref C :: us,kw⟩)) outer s H:=⟨by first|exact e.frames|(simpa[Around.under,Code.envs,Code.isFrame,pushEnvs]using e.frames),e.mod,e.bs,e.bsz,e.funs,e.frf,e.hok,e.bare⟩
section
variable {X:Cx}{pins:List (aE×Obj)}{Y:St}{H:Hp}{s s':aH}
theorem Inv.env0(I:Inv X pins Y H s):Env0 X.prog X.w X.K X.mg X.base X.A X.stack s H :=
 ⟨I.ok.frames,I.ok.mod,I.bs,wL I.ok.bsz I.sz,I.stack,I.stkFree,I.hok,I.bare⟩
theorem Inv.after{Q:VK}(I:Inv X pins Y H s)(h:CE X.stack X.prog X.w H s Q u s'):EP X pins Y Q u s':=by
 obtain⟨v,H',os,bare,un,p,r,q⟩:=h;obtain⟨y,g,d,t,m⟩:=s';obtain rfl:m=s.os:=os;exact⟨v,H',I.call (h':=y) (g':=g) (d':=d) (t':=t) (ch:=[]) un p bare (λb z=>aN z (by simp)),r,q⟩
end
def zk21(sp:Sp)(dvs:List V)(E:XK)(t:TA):TE:=λY H Q=>t Y H λvs g=>sp (vs++dvs) g Q E
def zl21(C:aE)(m:Str)(sp:Sp)(dvs:List V)(E:XK)(p:TE)(t:TA):TE:=λY H Q=>p Y H λx g=>∃a dx fs,x=.ref a/\g a=some (.ins C dx fs)/\fs.lookup m=none /\
 t Y g λvs H2=>sp (x :: (vs++dvs)) H2 Q E
def zr91(C:aE)(sp:Sp)(dvs:List V)(E:XK)(t:TA):TE:=λY H Q=>t Y H λvs g=>∀x dx,g x=none->g dx=none->dx≠x ->
 sp (.ref x :: (vs++dvs)) (upd (upd g dx (.own x)) x (.ins C dx [])) (λv H2=>v=.non/\Q (.ref x) H2) E
def Binds(K:Fg)(g:cZ)(ps:List Str)(ds:List aC):Prop :=
 ∀(s:aH)(us:List aC),K.In s.heap->(us++ds).length=ps.length->e7 s g ⟨us,[]⟩ (ps.zip (us++ds))
theorem Binds.all{g:cZ}(h:∀us:List aC,us.length=ps.length->iJ g ⟨us,[]⟩=pure (ps.zip us)):Binds K g ps []:=λs us _ hl=>by
 rw[wQ]at hl ⊢;exact .of_eq (h us hl)
def zci(CX:CXT)(X:Cx)(E:XK):Prop:=∀(pins:List (aE×Obj))(Y:St)(H:Hp)(s:aH)(e:aC)(s':aH),Inv X pins Y H s->CX X.stack H s E e s'->X.xe e s'
section
variable {X:Cx}{CX:CXT}{k:Nat}{f C:aE}{fd:cZ}{ps:List Str}{sp:Sp}{dvs:List V}{ds:List aC}{E:XK}{x m:Str}{p pos apos:Pos}{e o:aZ}{es:List aZ}{ta:TE}{t:TA}
theorem zhu{Y:St}{H:Hp}{Q:VK}{vs:List V}(F:FnOk X.prog X.w X.K X.mg X.base CX k f fd ps sp)(hr:Room k X.A)(z:Binds X.K fd ps ds)(hd:Vals dvs ds)(y:zci CX X E)
  (I:Inv X pins Y H s) (r:Vals vs us) (h:sp (vs++dvs) H Q E):aL (aM X.prog X.w) X.A (call (.ref f) us) (EP X pins Y Q) X.xe s:=by
 have q:Vals (vs++dvs) (us++ds):=r.append hd;have hl:(us++ds).length=ps.length:=by rw[<- q.length];exact F.len _ _ _ _ h
 refine wpAny_call (fV (F.run X.A X.stack s H ⟨us,[]⟩ (us++ds) (vs++dvs) Q E hr I.env0 (z s us I.kIn hl) q h) λr s' g=>?_);cases r with
|error e=>exact y pins Y H s e s' I g
|ok fl =>
  cases fl with
 |ret u=>exact I.after g
 |next=>exact False.elim g
 |brk=>exact False.elim g
 |cont=>exact False.elim g
theorem zpu(F:FnOk X.prog X.w X.K X.mg X.base CX k f fd ps sp)(hr:Room k X.A)(L:Gl X x)(G:X.mg x=some (.ref f))(J:bP X.K (.ref f)=true)(S:Binds X.K fd ps ds)(hd:Vals dvs ds)(B:zci CX X E)
  (U:PA X (e :: es) t) (y:(x == ("__debug__":Str))=false:=by decide) (O:aW (e :: es) X.env=(false,bD e X.env) :: aW es X.env:=by rfl) (g:(b7 pos (aW es X.env)).any (·.1)=false:=by rfl) :
  PE X (.Call (.Name x p) (e :: es) [] pos) (zk21 sp dvs E t):=by
 walk_at"1";refine dS (zmo I L G ?_ y);refine dU (h₀:=X.base) I.ok.mod.kin J (thn (U pos pins s Y H _ I h) λus s1 ⟨vs,W,z,r,q⟩=>⟨z.kIn,?_⟩) O g;exact zhu F hr S hd B z r q
theorem zl61{pl:Sem Bool}(W:PE X o ta)(c:Cls X.K C)(B:Meth X.K C m f)(F:FnOk X.prog X.w X.K X.mg X.base CX k f fd ps sp)(hr:Room k X.A)(Z:Binds X.K fd ps ds)(hd:Vals dvs ds)(S:zci CX X E)(ha:PA X (e :: es) t)
  (g:aW (e :: es) X.env=(false,bD e X.env) :: aW es X.env:=by rfl) (y:(b7 pos (aW es X.env)).any (·.1)=false:=by rfl)
  (U:bD (.Call (.Attribute o m apos) (e :: es) [] pos) X.env=(do
   let z <- bD o X.env
   eW apos.atName
   let (f,first) <- dN [z] (eE z m pl)
   gQ pos f first (b7 pos (aW (e :: es) X.env)) (e8 pos (dP [] X.env))):=by rfl) :
  PE X (.Call (.Attribute o m apos) (e :: es) [] pos) (zl21 C m sp dvs E ta t):=by
 walk_at"1";refine eI (pl:=pl) (thn (W pins s Y H _ I h) λu s1 hz=>?_) U;obtain⟨x,H1,J,L,a,dx,fs,ex,ea,l,q⟩:=hz;subst ex;obtain rfl:u=vX a:=L;refine zw8 J ea c B l ?_;refine dU (first:=[.ref a]) (h₀:=X.base) I.ok.mod.kin B.kp (thn (ha pos pins s1 Y H1 _ J q) λus s2 ⟨vs,H2,G,r,O⟩=>⟨G.kIn,?_⟩) g y;exact zhu (us:=.ref a :: us) (vs:=.ref a :: vs) F hr Z hd S G (.cons rfl r) O
theorem zkz{pl:Sem Bool}(L:PE X o ta)(c:Cls X.K C)(z:Meth X.K C m f)(F:FnOk X.prog X.w X.K X.mg X.base CX k f fd ps sp)(hr:Room k X.A)(O:Binds X.K fd ps ds)(hd:Vals dvs ds)(G:zci CX X E)
  (J:bD (.Call (.Attribute o m apos) [] [] pos) X.env=(do
   let y <- bD o X.env
   eW apos.atName
   let (f,first) <- dN [y] (eE y m pl)
   gQ pos f first (b7 pos (aW [] X.env)) (e8 pos (dP [] X.env))):=by rfl) :
  PE X (.Call (.Attribute o m apos) [] [] pos) (zl21 C m sp dvs E ta tNil):=by
 walk_at"1";refine eI (pl:=pl) (thn (L pins s Y H _ I h) λu s1 hz=>?_) J;obtain⟨x,U,g,B,a,dx,fs,ex,S,l,q⟩:=hz;subst ex;obtain rfl:u=vX a:=B;refine zw8 g S c z l ?_;exact PySem.W.callWith_K0 (first:=[.ref a]) g.kIn z.kp (zhu (us:=[.ref a]) (vs:=[.ref a]) F hr O hd G g (.cons rfl .nil) q)
structure Mk(K:Fg)(C f:aE):Prop where
 makes:eR K C=true
 init:a9 K (.ref C) "__init__"=some (some (.ref f))
 fn:eO K (.ref f)=true
 kp:bP K (.ref C)=true
theorem ztx{Y:St}{H:Hp}{Q:VK}{vs:List V}(M:Mk X.K C f)(F:FnOk X.prog X.w X.K X.mg X.base CX k f fd ps sp)(hr:Room (k+1) X.A)(J:Binds X.K fd ps ds)(hd:Vals dvs ds)
  (G:zci CX X E) (I:Inv X pins Y H s) (r:Vals vs us)
  (h:∀x dx,H x=none->H dx=none->dx≠x->sp (.ref x :: (vs++dvs)) (upd (upd H dx (.own x)) x (.ins C dx [])) (λv H2=>v=.non/\Q (.ref x) H2) E) :
  aL (aM X.prog X.w) X.A (call (.ref C) us) (EP X pins Y Q) X.xe s:=by
 have z:=h (s.heap.objs.size+1) s.heap.objs.size (I.hok.fresh (zS _)) (I.hok.fresh (u7 _)) (wP (zR _));have q:=Inv.made (C:=C) I;have y:Vals (V.ref (s.heap.objs.size+1) :: (vs++dvs)) (vX (s.heap.objs.size+1) :: (us++ds)):=.cons rfl (r.append hd);have hl:(vX (s.heap.objs.size+1) :: us++ds).length=ps.length:=by
  have e:=y.length;rw[F.len _ _ _ _ z]at e;exact e.symm
 refine wpAny_call (zw01 (f:=f) I.kIn M.makes M.init (beq_iff_eq.mp M.fn) (fV (F.run _ X.stack _ _ ⟨vX (s.heap.objs.size+1) :: us,[]⟩ (vX (s.heap.objs.size+1) :: (us++ds)) _ _ E (hr.make C us [])
  (q.env0.make C us []) (J _ (vX (s.heap.objs.size+1) :: us) q.kIn hl) y z) λr s' g=>?_))
 cases r with
|error e=>exact G pins Y _ _ e s' q g
|ok fl =>
  cases fl with
 |ret u =>
   obtain⟨v,H',O,rv,L,B⟩:=q.after g;subst L;exact⟨rv,⟨V.ref (s.heap.objs.size+1),H',O,rfl,B⟩⟩
 |next=>exact False.elim g
 |brk=>exact False.elim g
 |cont=>exact False.elim g
theorem zp61(M:Mk X.K C f)(F:FnOk X.prog X.w X.K X.mg X.base CX k f fd ps sp)(hr:Room (k+1) X.A)(J:Gl X x)(G:X.mg x=some (.ref C))(O:Binds X.K fd ps ds)(hd:Vals dvs ds)(B:zci CX X E)
  (S:PA X (e :: es) t) (y:(x == ("__debug__":Str))=false:=by decide) (L:aW (e :: es) X.env=(false,bD e X.env) :: aW es X.env:=by rfl) (g:(b7 pos (aW es X.env)).any (·.1)=false:=by rfl) :
  PE X (.Call (.Name x p) (e :: es) [] pos) (zr91 C sp dvs E t):=by
 walk_at"1";refine dS (zmo I J G ?_ y);refine dU (h₀:=X.base) I.ok.mod.kin M.kp (thn (S pos pins s Y H _ I h) λus s1 ⟨vs,U,z,r,q⟩=>⟨z.kIn,?_⟩) L g;exact ztx M F hr O hd B z r q
end
structure FnScope(N P:List Str)(sc:d7):Prop where
 kind:sc.kind=.function
 co:sc.isCoroutine=false
 gen:sc.isGenerator=false
 nd:N.Nodup
 pre:N.take P.length=P
 par:∀x∈P,sc.names.lookup x=some .local \/ sc.names.lookup x=some .cell
 nofree:∀y∈sc.names,y.2≠.free
theorem zek{kindOf:Str->Option bV}{x:Str}:∀{binds:List (Str×aC)}{m:Str->Option aC},(∀v,(x,v) ∉ binds)->gM kindOf binds m x=m x
|[],_,_=>rfl
|(n,v) :: r,m,h=>by
  unfold gM;rw[zek λw hw=>h w (wA _ hw)];split
  ·have:x≠n:=by rintro rfl;exact h v wJ
   simp[this]
  ·rfl
theorem zpj{kindOf:Str->Option bV}{x:Str}:∀{binds:List (Str×aC)}{m:Str->Option aC},(∀v,(x,v) ∉ binds)->gO kindOf binds m x=m x
|[],_,_=>rfl
|(n,v) :: r,m,h=>by
  unfold gO;rw[zpj λw hw=>h w (wA _ hw)];split
  ·rfl
  ·have:x≠n:=by rintro rfl;exact h v wJ
   simp[this]
theorem zwj{kindOf:Str->Option bV}{x:Str}{v:aC}:∀{P:List Str}{vs:List aC}{i:Nat}{m:Str->Option aC},P.Nodup->P[i]?=some x->vs[i]?=some v->kindOf x=some .local ->
  gM kindOf (P.zip vs) m x=some v
|[],_,_,_,_,h,_,_=>by simp at h
|_ :: _,[],_,_,_,_,h,_=>by simp at h
|p :: P,w :: vs,0,m,nd,q,g,hk=>by
  simp at q g;subst q;subst g;show gM kindOf ((p,w) :: P.zip vs) m p=_;unfold gM;rw[zek λv y=>(v9.mp nd).1 (zT y).1,aF hk];simp
|p :: P,w :: vs,i+1,m,nd,q,g,hk=>by
  show gM kindOf ((p,w) :: P.zip vs) m x=_;unfold gM;exact zwj (i:=i) (v9.mp nd).2 (by simpa using q) (by simpa using g) hk
theorem zbk{kindOf:Str->Option bV}{x:Str}{v:aC}:∀{P:List Str}{vs:List aC}{i:Nat}{m:Str->Option aC},P.Nodup->P[i]?=some x->vs[i]?=some v->kindOf x≠some .local ->
  gO kindOf (P.zip vs) m x=some v
|[],_,_,_,_,h,_,_=>by simp at h
|_ :: _,[],_,_,_,_,h,_=>by simp at h
|p :: P,w :: vs,0,m,nd,q,g,hk=>by
  simp at q g;subst q;subst g;show gO kindOf ((p,w) :: P.zip vs) m p=_;unfold gO;rw[zpj λv y=>(v9.mp nd).1 (zT y).1,aA hk];simp
|p :: P,w :: vs,i+1,m,nd,q,g,hk=>by
  show gO kindOf ((p,w) :: P.zip vs) m x=_;unfold gO;exact zbk (i:=i) (v9.mp nd).2 (by simpa using q) (by simpa using g) hk
def start(N:List Str)(vs:List V):St:=vs.map some++vU (N.length - vs.length) none
def cxOf(CX:CXT)(P:aQ)(w:aR)(K:Fg)(mg:Str->Option aC)(base:aX)(N:List Str)(qual:Str)(scope:d7)(f:aE)(m:aC)(A:bB)(outer:List Env)(s:aH)(H:Hp)(E:XK):Cx where
 prog:=P
 w:=w
 K:=K
 mg:=mg
 base:=base
 A:=A.deeper (dJ qual scope s.heap.objs.size f m)
 N:=N
 s₀:=s
 H₀:=H
 env:=dJ qual scope s.heap.objs.size f m
 outer:=outer
 stack:=dJ qual scope s.heap.objs.size f m :: outer
 ex:=[]
 calm:=true
 fn:=λ_=>true
 pn:=[]
 xe:=λe s'=>aL (aM P w) (A.deeper (dJ qual scope s.heap.objs.size f m)) (leaving (dJ qual scope s.heap.objs.size f m) e) (λ_ g=>CX outer H s E e g) (λp g=>CX outer H s E p g) s'
theorem zsl{sc:d7}(h:sc.names.lookup x=some .cell):∃c,(b8 n sc.names []).lookup x=some c:=by
 have q:=d6 sc.names n [] (.inl h);exact xO.mp q
theorem zns{CX:CXT}{P:aQ}{f:aE}{O:aC}{s1:aH}{H:Hp}{E:XK}{vs:List V}
  (S:FnScope N ps scope) (hd:A.handled=none) (m:Env0 P w K mg base A outer s H) (hl:vs.length=ps.length) (r:Vals vs us)
  (x:InCallC s s.heap.objs.size (gM (dJ qual scope s.heap.objs.size f O).kindOf (ps.zip us) λ_=>none) (b8 (s.heap.objs.size+1) scope.names []) (gO (dJ qual scope s.heap.objs.size f O).kindOf (ps.zip us) λ_=>none) s1) :
  Inv (cxOf CX P w K mg base N qual scope f O A outer s H E) [] (start N vs) H s1:=by
 have Y:ps.length<=N.length:=by have:=congrArg uaB S.pre;rw[wM]at this;lia
 obtain⟨L,tk,rfl,W⟩:=x.done;have G:∀b:aE,b ∉ (cxOf CX P w K mg base N qual scope f O A outer s H E).ex:=λb z=>aN (show b∈([]:List aE)from z) (by simp);refine⟨⟨m.mod,S.kind,rfl,rfl,u7 _,λy z c L g=>?_,λy B=>?_,λy c _ h=>?_,λ_=>hd,Around.frames_deeper m.frames,.inr ⟨rfl,rfl⟩,λb z=>aN z (G b),m.bs,m.bsz,λb _ _=>G b,λb z=>aN z (G b),m.funs,m.frf⟩,
  rfl,m.bare,Un.kept W,⟨_,x.toInCall.ns,λi y v L g Z=>?_⟩,λy c h=>⟨_,x.cell y c h⟩,m.hok.fresh (u7 _),λy c h=>?_,λp I=>aN (show p∈([]:List (aE×Obj))from I) (by simp),m.hok.kept W,?_⟩
 ·exact name_of_addr x.apart (bO L) (bO g)
 ·have B:scope.names.lookup y=some .cell \/ scope.names.lookup y=some .free:=B;rcases B with B|B
  ·exact zsl B
  ·exact aN rfl (S.nofree _ (bO B))
 ·exact yP (x.above y c (bO h))
 ·have hi:i < vs.length:=by
   unfold start at g;by_cases hi:i < vs.length
   ·exact hi
   ·rw[wR (by simpa using hi)]at g;rw[xH]at g;split at g <;> cases g
  have X:vs[i]?=some v:=by
   unfold start at g;rw[wU (by simpa using hi),u9]at g;cases e:vs[i]? with
  |none=>rw[e]at g;cases g
  |some a=>rw[e]at g;cases g;rfl
  obtain⟨u,U,rv⟩:=r.get X;have I:ps[i]?=some y:=by
   rw[<- S.pre,ua2 (by lia)];exact L
  have J:ps.Nodup:=by rw[<- S.pre];exact S.nd.sublist (List.take_sublist _ _)
  refine⟨u,rv,?_⟩;rcases S.par y (wK I)with k|k
  ·exact .inl ⟨k,zwj J I U k⟩
  ·obtain⟨c,e⟩:=zsl (n:=s.heap.objs.size+1) k;refine .inr ⟨.inl k,c,e,?_⟩;have q:=x.cell y c e;rw[zbk J I U (by show scope.names.lookup y≠_;rw[k];decide)]at q;exact q
 ·exact m.hok.fresh (yP (x.above y c (bO h)))
 ·unfold start;show _=N.length;rw[vT,u4,yQ];lia
theorem zye1{CX:CXT}{P:aQ}{k:Nat}{f:aE}{name:Str}{params:Arguments}{dV kV L Z cdv ct oc:aC}{an od:Option aE}
  {U:Array (Option aC)} {sp:Sp} (lk:K.lookup f=some ⟨oc,od,.func (bX name qual params body scope dV kV L Z an cdv ct),U⟩) (Y:cY K cdv qual=true) (S:FnScope N ps scope)
  (len:∀vs H Q E,sp vs H Q E->vs.length=ps.length)
  (m:∀(A:bB)(outer:List Env)(s:aH)(H:Hp)(vs:List V)(Q:VK)(E:XK),Room k (A.deeper (dJ qual scope s.heap.objs.size f cdv))->sp vs H Q E ->
   ∃t,PSs (cxOf CX P w K mg base N qual scope f cdv A outer s H E) body t/\t { nx:=λ_ H'=>Q .non H',rt:=Q } (start N vs) H) :
  FnOk P w K mg base CX (k+1) f (bX name qual params body scope dV kV L Z an cdv ct) ps sp:=by
 refine⟨len,λA outer s H args us vs Q E hr z hb r B=>?_⟩;have hl:=len _ _ _ _ B;have KX:K.In s.heap:=z.mod.kin.keeps λb o e=>(z.bs b o e).1;have X:s.heap.NoLimit:=z.mod.nolimit.keeps λb o e=>(z.bs b o e).1;have g:∀y∈ps.zip us,scope.names.lookup y.1=some .local \/ (scope.names.lookup y.1=some .cell/\((b8 (s.heap.objs.size+1) scope.names []).lookup y.1).isSome=true):=λ⟨n,v⟩ hy=>by
  rcases S.par n (zT hy).1 with q|q
  ·exact .inl q
  ·exact .inr ⟨q,d6 _ _ _ (.inl q)⟩
 refine codeAny_call_function hr.depth (KX _ _ lk) rfl S.co S.gen rfl (PySem.W.codeRec_of KX Y) (hb _ _ _ _ ?_);refine wpAny_newFunctionEnv_cells S.kind g λenv he s1 x=>?_;subst he;refine⟨X.keeps x.toInCall.keep,codeAny_func ?_⟩;obtain⟨t,ht,hq⟩:=m A outer s H vs Q E (hr.deeper _) B;have I:Inv (cxOf CX P w K mg base N qual scope f cdv A outer s H E) [] (start N vs) H s1:=zns S hr.hd z hl r x;refine cA (ht [] s1 (start N vs) H _ I hq) (λfl s' p=>?_) λe s' p=>p;have G:∀{O:St}{H':Hp}{v:V}{u:aC},Inv (cxOf CX P w K mg base N qual scope f cdv A outer s H E) [] O H' s'->RelV v u->Q v H'->CE outer P w H s Q u s' :=
  λ{O H' v u} J rv q=>⟨v,H',J.os,J.bare,J.base,J.hok,rv,q⟩
 cases fl with
|ret u =>
  obtain⟨v,O,H',J,rv,q⟩:=p;exact G J rv q
|next =>
  obtain⟨O,H',J,q⟩:=p;exact G (v:=V.non) (u:=xM) J rfl q
|brk =>
  obtain⟨_,_,_,q⟩:=p;exact False.elim q
|cont =>
  obtain⟨_,_,_,q⟩:=p;exact False.elim q
section
variable {X:Cx}{x:Str}{p pos:Pos}{e:aZ}{es:List aZ}{t:TA}{id T:String}{r:List V->Hp->VK->Prop}
def tCB(r:List V->Hp->VK->Prop)(t:TA):TE:=λY H Q=>t Y H λvs g=>r vs g Q
theorem zu0(O:CallR X (.builtin id) r)(J:Gl X x)(G:X.mg x=none)(z:bH x=some (.builtin id))(S:PA X (e :: es) t)(B:x ≠ "__name__":=by decide)(m:(x == ("__debug__":Str))=false:=by decide)
  (L:aW (e :: es) X.env=(false,bD e X.env) :: aW es X.env:=by rfl) (g:(b7 pos (aW es X.env)).any (·.1)=false:=by rfl):PE X (.Call (.Name x p) (e :: es) [] pos) (tCB r t):=by
 walk_at"1";refine dS (zui I J G z ?_ B m);exact lB (thn (S pos pins s Y H _ I h) λus s1 ⟨vs,W,U,q,y⟩=>O pins s1 Y W vs us Q U q y) L g
theorem zb9(O:CallR X (.type T) r)(J:Gl X x)(G:X.mg x=none)(z:bH x=some (.type T))(S:PA X (e :: es) t)(B:x ≠ "__name__":=by decide)(m:(x == ("__debug__":Str))=false:=by decide)
  (L:aW (e :: es) X.env=(false,bD e X.env) :: aW es X.env:=by rfl) (g:(b7 pos (aW es X.env)).any (·.1)=false:=by rfl):PE X (.Call (.Name x p) (e :: es) [] pos) (tCB r t):=by
 walk_at"1";refine dS (zui I J G z ?_ B m);exact b6 (thn (S pos pins s Y H _ I h) λus s1 ⟨vs,W,U,q,y⟩=>O pins s1 Y W vs us Q U q y) L g
end
end _2
namespace HT
open PySem PyProof.Rows
variable {hi lo:Option Int}{sl:aE}{vl vu:aC}
section
variable {prog:aQ}{w:aR}{A:bB}{E:aC->aH->Prop}{s:aH}
theorem cat_tup{t b:aE}{vs ws:List aC}{Q:aC->aH->Prop}(z:lT s.heap t vs.toArray)(B:lT s.heap b ws.toArray)(q:vs≠[])
  (G:ws=[]->Q (.ref t) s) (C:ws≠[]->Q (.ref s.heap.objs.size) { s with heap:=s.heap.push { cls:=.type "tuple",data:=.seq (vs++ws).toArray } })
  (hsz:vs.length+ws.length<=sizeLine):aL (aM prog w) A (bU .Add (.ref t) (.ref b)) Q E s:=by
 obtain⟨⟨cls,x,data,sl⟩,p,u,n,hd⟩:=id z;obtain⟨⟨y,o,data2,f⟩,a,m,n2,g⟩:=id B;simp only at u hd m g;subst u hd m g;have e:vs.toArray++ws.toArray=(vs++ws).toArray:=by simp
 by_cases hw:ws=[]
 ·exact g9 ⟨_,p,rfl⟩ ⟨_,a,rfl⟩ iO seq_tuple_add ğk ğj (ği _ _)
   (tuple_addW1 t b vs.toArray ws.toArray n n2 x o sl f (by simpa using q) (by simp[hw])) ⟨p,a,G hw⟩
 ·refine g9 ⟨_,p,rfl⟩ ⟨_,a,rfl⟩ iO seq_tuple_add ğk ğj (ği _ _)
   (tuple_addW2 t b vs.toArray ws.toArray n n2 x o sl f (by simpa using q) (by simpa using hw) (by rw[vZ,vZ];exact hsz)) ⟨p,a,?_⟩
  rw[e];exact C hw
def sIx(n d:Nat):Option Int->Nat
|none=>d
|some v=>if v < 0 then(v+(n:Int)).toNat else min v.toNat n
theorem sIx_none(n d:Nat):sIx n d none=d:=rfl
theorem sIx_nat(n d k:Nat):sIx n d (some (k:Int))=min k n:=by
 show(if(k:Int) < 0 then((k:Int)+(n:Int)).toNat else min (k:Int).toNat n)=min k n;rw[aA (by lia),v6]
theorem zpb1(n d:Nat)(hd:d<=n)(o:Option Int):sIx n d o<=n:=by
 cases o with
|none=>exact hd
|some v =>
  show(if v < 0 then(v+(n:Int)).toNat else min v.toNat n)<=n;by_cases a:v < 0
  ·rw[aF a];lia
  ·rw[aA a];exact Nat.min_le_right _ _
theorem zdv(v:Int)(n d:Nat):(if v < 0 then max (v+(n:Int)) 0 else min v (n:Int))=((sIx n d (some v):Nat):Int):=by
 show(if v < 0 then max (v+(n:Int)) 0 else min v (n:Int))=(((if v < 0 then(v+(n:Int)).toNat else min v.toNat n):Nat):Int)
 by_cases a:v < 0
 ·simp only[aF a];lia
 ·simp only[aA a];lia
theorem znp(lo hi:Option Int)(n:Nat):dQ lo hi 1 (n:Int)=(((sIx n 0 lo:Nat):Int),((sIx n n hi:Nat):Int)):=by
 have a:¬((1:Int) < 0):=by lia
 unfold dQ;simp only[a,if_false];refine Prod.ext ?_ ?_
 ·cases lo with
 |none=>rfl
 |some v=>exact zdv v n 0
 ·cases hi with
 |none=>rfl
 |some v=>exact zdv v n n
theorem zvn(i j:Nat):cX (i:Int) (j:Int) 1=j - i:=by
 unfold cX;have a:(1:Int) > 0:=by lia
 simp only[a,if_true,Int.ediv_one];split <;> lia
theorem zyf{v:aC}{o:Option Int}{Q:Option Int->aH->Prop}(p:fU v o)(h:Q o s):aL (aM prog w) A (lN v) Q E s:=by
 cases p with
|none=>exact lJ h
|int i t=>exact slicePart_int h
theorem zza{n:Nat}{Q:Int×Int×Nat->aH->Prop}(g:s.heap.IsSliceOf sl vl vu .none)(pl:fU vl lo)(f:fU vu hi)
  (h:Q (((sIx n 0 lo:Nat):Int),1,sIx n n hi - sIx n 0 lo) s):aL (aM prog w) A (fL (.ref sl) (pure (n:Int))) Q E s:=by
 obtain⟨os,a,i,b⟩:=id g;unfold fL lU;refine aG (aG (bS a b (x:=vl) rfl (aG (bS a b (x:=vu) rfl (aG (bS a b (x:=.none) rfl (aP ?_)))))));refine aG (lJ ?_);show aL _ _ (if((1:Int) == 0)=true then _ else _) _ _ s;rw[aA (by decide)];refine aG (zyf pl (aG (zyf f (aG (aP ?_)))));show aL _ _ (match dQ lo hi 1 (n:Int)with|(lo,hi)=>pure (lo,(1:Int),cX lo hi 1)) _ _ s;rw[znp lo hi n];show aL _ _ (pure (((sIx n 0 lo:Nat):Int),(1:Int),cX ((sIx n 0 lo:Nat):Int) ((sIx n n hi:Nat):Int) 1)) _ _ s;rw[zvn];exact aP h
theorem ztw(xs:Array aC)(i k:Nat):((u3 k).filterMap λ(m:Nat)=>xs[((i:Int)+(m:Int) * 1).toNat]?).toArray=((xs.toList.drop i).take k).toArray:=by
 have e:(λ(m:Nat)=>xs[((i:Int)+(m:Int) * 1).toNat]?)=λm=>xs[i+m]?:=by
  funext m;have:((i:Int)+(m:Int) * 1).toNat=i+m:=by lia
  rw[this]
 rw[e];have:=pick_run xs i k;rw[ua3]at this;have a:((λx=>xs[x]?) ∘ λx=>i+x)=λm=>xs[i+m]?:=rfl;rw[a]at this;rw[this]
theorem getItem_tuple_cut{t:aE}{items:Array aC}{Q:aC->aH->Prop}(b:lT s.heap t items)(o:s.heap.IsSliceOf sl vl vu .none)(pl:fU vl lo)(p:fU vu hi)
  (hw:¬(sIx items.size 0 lo=0/\sIx items.size items.size hi=items.size))
  (h:Q (.ref s.heap.objs.size) { s with heap:=s.heap.push { cls:=.type "tuple",data:=.seq ((items.toList.drop (sIx items.size 0 lo)).take (sIx items.size items.size hi - sIx items.size 0 lo)).toArray } })
  (hsz:items.size<=sizeLine):aL (aM prog w) A (eZ (.ref t) (.ref sl)) Q E s:=by
 have a:sizeOk (.seq ((items.toList.drop (sIx items.size 0 lo)).take (sIx items.size items.size hi - sIx items.size 0 lo)).toArray):=by
  show((items.toList.drop (sIx items.size 0 lo)).take (sIx items.size items.size hi - sIx items.size 0 lo)).toArray.size<=sizeLine;rw[vZ,wM,yJ,xT];lia
 have z:sIx items.size items.size hi<=items.size:=zpb1 _ _ (u7 _) hi;obtain⟨os,f,i,u⟩:=id o;have n:s.TypeIs (.ref sl) "slice":=⟨os,f,i⟩
 unfold eZ
 try with_reducible refine cO ?_
 first|refine aG (aP ?_)|skip
 refine aG (wpAny_sequenceKey b.typeIs (by decide) ?_);refine aG (cH (name:=x9 "__getitem__") b.typeIs eJ
  (dB eJ b.typeIs entry_tuple_getitem ?_ (args_tuple_getitem _ _)))
 show aL _ _ (lR (.ref t) >>= _) _ _ s;refine aG (tupleItemsOf_ b ?_);refine aG (g7 n ?_);rw[aF (by decide)];refine aG (zza o pl p ?_);have g:¬((((sIx items.size 0 lo:Nat):Int) == 0 && (1:Int) == 1 && (sIx items.size items.size hi - sIx items.size 0 lo) == items.size)=true):=by
  intro q;rw[yY,yY]at q;have y:((sIx items.size 0 lo:Nat):Int)=0:=eq_of_beq q.1.1;have x:sIx items.size items.size hi - sIx items.size 0 lo=items.size:=eq_of_beq q.2;exact hw ⟨by lia,by lia⟩
 show aL _ _ (if(((sIx items.size 0 lo:Nat):Int) == 0 && (1:Int) == 1 && (sIx items.size items.size hi - sIx items.size 0 lo) == items.size)=true then _ else _) _ _ s;rw[aA g,ztw]
 first
 |exact aG (m:=dD _) (cG (aP ⟨_,rfl,aP h⟩) a)
 |exact aG (m:=dD _) (cG (aG (aP (aP ⟨_,rfl,aP h⟩))) a)
 |exact aG (aG (m:=dD _) (cG (aP (aP ⟨_,rfl,aP h⟩)) a))
 |exact aG (aG (m:=dD _) (cG (aP ⟨_,rfl,aP h⟩) a))
end
end HT
namespace _2
open PySem PySem.Spec PyProof.Rows
variable {Y:St}{i:Int}{its us:List aC}{n:Nat}{pins:List (aE×Obj)}{s:aH}{u:aC}{x y:V}
abbrev TO:=St->Hp->(Option Int->Hp->Prop)->Prop
def PO(X:Cx)(e:Option aZ)(t:TO):Prop :=
 ∀(pins:List (aE×Obj))(s:aH)(Y:St)(H:Hp)(Q:Option Int->Hp->Prop),Inv X pins Y H s->t Y H Q ->
  aL (aM X.prog X.w) X.A (evalPart e X.env) (λu s'=>∃o H',Inv X pins Y H' s'/\fU u o/\Q o H') X.xe s
def zsv:TO:=λ_ H Q=>Q none H
def zgg1(t:TE):TO:=λY H Q=>t Y H λx a=>∃i,x=.int i/\Q (some i) a
theorem znb{ns:List Int}:∀{us:List aC},Vals (ns.map V.int) us->cI us ns:=by
 induction ns with
|nil=>intro us r;rw[yR]at r;cases r;exact .nil
|cons n ns f =>
  intro us r;rw[v4]at r;cases r with
 |cons b a =>
   obtain⟨t,e⟩:=b;subst e;exact .cons n t (f a)
section
variable {X:Cx}{e:aZ}{te:TE}{lo hi:Option aZ}{tl th:TO}{pos p2:Pos}
theorem zyi:PO X none zsv:=by
 walk_at"1";rw[evalPart_none];exact aP ⟨none,H,I,.none,h⟩
theorem zt21(h:PE X e te):PO X (some e) (zgg1 te):=by
 intro pins s Y H Q I hw;rw[evalPart_some];refine thn (h pins s Y H _ I hw) λu s1 hz=>?_;obtain⟨x,g,f,a,b⟩:=hz;obtain⟨i,rfl,q⟩:=b;obtain⟨t,rfl⟩:=a;exact⟨some i,g,f,.int i t,q⟩
def SlR(X:Cx)(r:V->Option Int->Option Int->Hp->VK->Prop):Prop :=
 ∀(pins:List (aE×Obj))(s:aH)(Y:St)(H:Hp)(x:V)(v b a:aC)(lo hi:Option Int)(sl:aE)(Q:VK),Inv X pins Y H s->RelV x v->s.heap.IsSliceOf sl b a .none->fU b lo->fU a hi->r x lo hi H Q ->
  ∃T id,typeLookup (.type T) "__getitem__"=pure (some (.builtin id))/\s.TypeIs v T/\aL (aM X.prog X.w) X.A (eZ v (.ref sl)) (EP X pins Y Q) X.xe s
theorem SlR.or{r g:V->Option Int->Option Int->Hp->VK->Prop}(h:SlR X r)(h':SlR X g):SlR X (λx lo hi H Q=>r x lo hi H Q \/ g x lo hi H Q):=by
 intro pins s Y H x v b a lo hi sl Q I f o pl m q;rcases q with q|q
 ·exact h pins s Y H x v b a lo hi sl Q I f o pl m q
 ·exact h' pins s Y H x v b a lo hi sl Q I f o pl m q
def tSl(r:V->Option Int->Option Int->Hp->VK->Prop)(te:TE)(tl th:TO):TE:=λY H Q=>te Y H λx b=>tl Y b λl H2=>th Y H2 λu a=>r x l u a Q
theorem zgi{r:V->Option Int->Option Int->Hp->VK->Prop}(hr:SlR X r)(J:PE X e te)(hl:PO X lo tl)(C:PO X hi th):PE X (.Subscript e (.Slice lo hi none p2) pos) (tSl r te tl th):=by
 walk_at"1";refine iY (thn (J pins s Y H _ I h) λv s1 hz=>?_);obtain⟨x,S,O,m,z⟩:=hz;refine wpAny_Slice (thn (hl pins s1 Y S _ O z) λf s2 ⟨l,H2,N,pl,p⟩=>thn (C pins s2 Y H2 _ N p) λa s3 hz=>?_);obtain⟨u,g,M,B,o⟩:=hz;rw[evalPart_none];refine aP ?_;have L:Inv X pins Y g { s3 with heap:=s3.heap.push { cls:=.type "slice",data:=.fields #[f,a,.none] } }:=M.kept (t':=s3.toks) λb ob q=>vS _ q;obtain⟨T,id,K,E,G⟩:=hr pins { s3 with heap:=s3.heap.push { cls:=.type "slice",data:=.fields #[f,a,.none] } } Y g x v f a l u s3.heap.objs.size Q L m (Heap.IsSliceOf.new ..) pl B o;show aL (aM X.prog X.w) X.A (subscriptTail e (.Slice lo hi none p2) v (.ref s3.heap.objs.size)) (EP X pins Y Q) X.xe { s3 with heap:=s3.heap.push { cls:=.type "slice",data:=.fields #[f,a,.none] } };exact gP (ops:=[.ref s3.heap.objs.size,v]) E K G (by with_unfolding_all rfl)
def cutV(xs:List V)(lo hi:Option Int):List V:=(xs.drop (HT.sIx xs.length 0 lo)).take (HT.sIx xs.length xs.length hi - HT.sIx xs.length 0 lo)
theorem zxc(xs:List V)(lo hi:Option Int):(cutV xs lo hi).length<=xs.length:=by
 unfold cutV;rw[wM,yJ];lia
def rSlT(K:Fg):V->Option Int->Option Int->Hp->VK->Prop:=λx lo hi H Q=>∃a xs,x=.ref a/\SqT K H a xs /\
 ¬(HT.sIx xs.length 0 lo=0/\HT.sIx xs.length xs.length hi=xs.length)/\∀p,H p=none->Q (.ref p) (upd H p (.tup (cutV xs lo hi)))
theorem zba1:SlR X (rSlT X.K):=by
 walk_at"16";obtain⟨a,xs,rfl,w,hw,q⟩:=h;cases m;obtain⟨its,r,g,hz⟩:=I.tuple w;have f:its.toArray.size=xs.length:=by rw[vZ];exact r.length.symm
 refine⟨"tuple",_,PyProof.Rows.slot_tuple_getitem.lookup,g.typeIs,?_⟩;refine HT.getItem_tuple_cut g z pl p (by rw[f];exact hw) ?_ (by rw[f];exact hz);rw[f];refine⟨.ref s.heap.objs.size,_,I.laid (t':=s.toks) (o:=.tup (cutV xs lo hi)) (λb ob q=>vS _ q) (u7 _) ?_,rfl,q _ (I.hok.fresh (u7 _))⟩;exact⟨wL (zxc xs lo hi) hz,_,(r.drop (HT.sIx xs.length 0 lo)).take (HT.sIx xs.length xs.length hi - HT.sIx xs.length 0 lo),IsTup.new _ _⟩
def zbe1(K:Fg):R2:=λx y H Q=>∃a b xs ys,x=.ref a/\y=.ref b/\SqT K H a xs/\SqT K H b ys/\xs≠[]/\xs.length+ys.length<=sizeLine /\
 (ys=[]->Q (.ref a) H)/\(ys≠[]->∀p,H p=none->Q (.ref p) (upd H p (.tup (xs++ys))))
theorem Vals.nil_iff{xs:List V}(r:Vals xs us):us=[] ↔ xs=[]:=by
 cases r with
|nil=>simp
|cons _ _=>simp
theorem zu71:OpR X (bU .Add) (zbe1 X.K):=by
 intro pins s Y H x y v u Q I A p h;obtain⟨a,b,xs,ys,rfl,rfl,J,G,E,hz,C,B⟩:=h;cases A;cases p;obtain⟨its,g,p1,_⟩:=I.tuple J;obtain⟨m,f,p2,_⟩:=I.tuple G;refine HT.cat_tup p1 p2 (λz=>E (g.nil_iff.mp z)) (λz=>⟨.ref a,H,I,rfl,C (f.nil_iff.mp z)⟩) (λz=>?_) (by rw[<- g.length,<- f.length];exact hz);refine⟨.ref s.heap.objs.size,_,I.laid (t':=s.toks) (o:=.tup (xs++ys)) (λb ob q=>vS _ q) (u7 _) ?_,rfl,B (λw=>z (f.nil_iff.mpr w)) _ (I.hok.fresh (u7 _))⟩;exact⟨by rw[vT];exact hz,_,g.append f,IsTup.new _ _⟩
end
def ixN(n:Nat)(i:Int):Option Nat:=if 0<=i then(if i < n then some i.toNat else none)else if -(n:Int)<=i then some (i+n).toNat else none
def atI{α:Type}(xs:List α)(i:Int):Option α:=(ixN xs.length i).bind λj=>xs[j]?
theorem zuu{j:Nat}(h:ixN n i=some j):seqIndex? i n=some j/\j < n/\-(n:Int)<=i/\i < n:=by
 unfold ixN at h;by_cases b:0<=i
 ·rw[aF b]at h;by_cases a:i < n
  ·rw[aF a]at h;have e:i.toNat=j:=wY.inj h;exact⟨by rw[iI b a,e],by lia,by lia,a⟩
  ·rw[aA a]at h;cases h
 ·rw[aA b]at h;by_cases a:-(n:Int)<=i
  ·rw[aF a]at h;have e:(i+n).toNat=j:=wY.inj h;exact⟨by rw[g8 (by lia) a,e],by lia,a,by lia⟩
  ·rw[aA a]at h;cases h
theorem zao{α:Type}{xs:List α}{v:α}(h:atI xs i=some v):∃j,seqIndex? i xs.length=some j/\xs[j]?=some v/\j < xs.length/\-(xs.length:Int)<=i/\i < xs.length:=by
 unfold atI at h;cases e:ixN xs.length i with
|none=>rw[e]at h;cases h
|some j =>
  rw[e]at h;obtain⟨g,f,b,a⟩:=zuu e;exact⟨j,g,h,f,b,a⟩
theorem zpv{α:Type}{xs:List α}{j:Nat}{v:α}(h:xs[j]?=some v):atI xs (j:Int)=some v:=by
 have a:j < xs.length:=(wG.mp h).1;have e:ixN xs.length (j:Int)=some j:=by
  unfold ixN;rw[aF (by lia),aF (by lia)];simp
 unfold atI;rw[e];exact h
def zru(b:aZ):Prop:=∀o i,subscripted b false o i=operate [o,i] (eZ o i)
def IxR(X:Cx)(r:R2):Prop :=
 ∀(value slice:aZ)(pins:List (aE×Obj))(s:aH)(Y:St)(H:Hp)(x y:V)(v u:aC)(Q:VK),Inv X pins Y H s->RelV x v->RelV y u->r x y H Q ->
  subscripted slice false v u=operate [v,u] (eZ v u)->aL (aM X.prog X.w) X.A (subscriptTail value slice v u) (EP X pins Y Q) X.xe s
def MtR(X:Cx)(id:String)(r:V->List V->Hp->VK->Prop):Prop :=
 ∀(pins:List (aE×Obj))(s:aH)(Y:St)(H:Hp)(x:V)(xs:List V)(v:aC)(us:List aC)(Q:VK),Inv X pins Y H s->RelV x v->Vals xs us->r x xs H Q ->
  aL (aM X.prog X.w) X.A (call (.builtin id) (v :: us)) (EP X pins Y Q) X.xe s
section
variable {X:Cx}{a b:aZ}{ta tb:TE}{pos:Pos}
theorem IxR.or{r m:R2}(h:IxR X r)(h':IxR X m):IxR X (λx y H Q=>r x y H Q \/ m x y H Q):=by
 intro value slice pins s Y H x y v u Q I g f q o;rcases q with q|q
 ·exact h value slice pins s Y H x y v u Q I g f q o
 ·exact h' value slice pins s Y H x y v u Q I g f q o
theorem zkg1{r:R2}(hr:IxR X r)(p:PE X a ta)(o:PE X b tb)(m:zru b):PE X (.Subscript a b pos) (tOp r ta tb):=by
 walk_at"1";exact iY (binT p o I h λv u s2 x y H2 w g f q=>hr a b pins s2 Y H2 x y v u Q w g f q (m _ _))
def rIxL(K:Fg):R2:=λx y H Q=>∃p xs i v,x=.ref p/\y=.int i/\SqL K H p xs/\atI xs i=some v/\Q v H
def rIxT(K:Fg):R2:=λx y H Q=>∃p xs i v,x=.ref p/\y=.int i/\SqT K H p xs/\atI xs i=some v/\Q v H
def rIxS:R2:=λx y H Q=>∃z i c,x=.str z/\y=.int i/\z.length<=sizeLine/\atI z.cps.toList i=some c/\Q (.str ⟨#[c]⟩) H
theorem ze51:IxR X (rIxL X.K):=by
 intro value slice pins s Y H x y v u Q I G E h A;obtain⟨p,xs,i,z,rfl,rfl,J,L,q⟩:=h;cases G;obtain⟨t,rfl⟩:=E;obtain⟨its,r,pl,hz⟩:=I.list J;obtain⟨j,g,O,U,N,M⟩:=zao L;obtain⟨w,C,o⟩:=r.get O;have hl:=r.length;have S:=zig;have f:EP X pins Y Q w s:=⟨z,H,I,o,q⟩
 by_cases B:0<=i
 ·have m:i.toNat=j:=by
   rw[iI B M]at g;exact wY.inj g
  exact item_listR pl.isList B (by lia) (by rw[m];simpa using C) f A
 ·have m:(i+(its.toArray.size:Int)).toNat=j:=by
   rw[g8 (by lia) N]at g;rw[vZ,<- hl];exact wY.inj g
  exact gF (x:=w) pl.isList.typeIs slot_list_getitem.lookup
   (wpAny_getItem_list_neg (Q:=λr s'=>r=w/\EP X pins Y Q r s') pl.isList (by lia) (by rw[vZ] <;> lia) (by lia) (by rw[m];simpa using C) ⟨rfl,f⟩) A
theorem zda1:IxR X (rIxT X.K):=by
 intro value slice pins s Y H x y v u Q I o m h A;obtain⟨p,xs,i,z,rfl,rfl,B,C,q⟩:=h;cases o;obtain⟨t,rfl⟩:=m;obtain⟨its,r,pl,hz⟩:=I.tuple B;obtain⟨j,G,E,O,N,M⟩:=zao C;obtain⟨w,J,f⟩:=r.get E;have hl:=r.length;have L:=zig;have g:EP X pins Y Q w s:=⟨z,H,I,f,q⟩
 exact gF (x:=w) pl.typeIs slot_tuple_getitem.lookup
  (getItem_tuple (j:=j) (Q:=λr s'=>r=w/\EP X pins Y Q r s') pl (by lia) (by lia) (by rw[vZ,<- hl];exact G) (by simpa using J) ⟨rfl,g⟩) A
theorem zad1:IxR X rIxS:=by
 intro value slice pins s Y H x y v u Q I m g h o;obtain⟨z,i,c,rfl,rfl,hz,p,q⟩:=h;obtain⟨t,rfl⟩:=m;obtain⟨t',rfl⟩:=g;obtain⟨j,f,B,J,A,w⟩:=zao p;have hl:z.cps.toList.length=z.length:=by simp[Str.length]
 rw[hl]at f A w;have G:=zig;exact gP (iU s z t) slot_str_getitem.lookup (getItem_str (c:=c) (by
  have E:decide (i < -(2 ^ 63:Int))=false:=a7 (by lia);have C:decide (i ≥ 2 ^ 63)=false:=a7 (by lia);rw[E,C,Bool.or_false]) (by rw[f];simpa using B) ⟨.str ⟨#[c]⟩,H,I.tok _,⟨_,rfl⟩,q⟩) o
def rIx(K:Fg):R2:=λx y H Q=>rIxL K x y H Q \/ rIxT K x y H Q \/ rIxS x y H Q
theorem zac1:IxR X (rIx X.K):=ze51.or (zda1.or zad1)
theorem zmq(its:List aC)(n j:Nat)(u:aC):cU (·.setIfInBounds j u) { cls:=.type "list",data:=.seq its.toArray n }={ cls:=.type "list",data:=.seq (its.set j u).toArray n }:=by
 simp[cU]
theorem Inv.lst{pins:List (aE×Obj)}{Y:St}{H:Hp}{s:aH}{p:aE}{xs:List V}(I:Inv X pins Y H s)(h:H p=some (.lst xs)) :
  ∃(its:List aC)(n:Nat),Vals xs its/\s.heap.get? p=some { cls:=.type "list",data:=.seq its.toArray n }/\xs.length<=sizeLine:=by
 obtain⟨z,its,n,r,e⟩:=I.hok p _ h;exact⟨its,n,r,e,z⟩
theorem Inv.lstUpd{H:Hp}{p:aE}{xs ys:List V}{its its':List aC}{n g:Nat}{f:Obj->Obj}(I:Inv X pins Y H s)(h:H p=some (.lst xs))
  (o:s.heap.get? p=some { cls:=.type "list",data:=.seq its.toArray n }) (m:f { cls:=.type "list",data:=.seq its.toArray n }={ cls:=.type "list",data:=.seq its'.toArray g }) (r:Vals ys its') (hz:ys.length<=sizeLine) (t:Nat) :
  Inv X pins Y (upd H p (.lst ys)) { s with heap:=s.heap.update p f,toks:=t }:=by
 have e:(s.heap.update p f).get? p=some { cls:=.type "list",data:=.seq its'.toArray g }:=by
  rw[ua4 f o (by rw[m] <;> rfl),m]
 refine I.write (x:=p) (e:=p) (by rw[h];trivial) (.inl rfl) (λb u w q=>(ua5 _ _ (Ne.symm w)).trans q) ⟨_,e⟩ ?_;exact⟨hz,its',g,r,e⟩
def zvd1:V->V->V->Hp->(Hp->Prop)->Prop:=λo i v H Q=>∃p xs k j,o=.ref p/\i=.int k/\H p=some (.lst xs)/\ixN xs.length k=some j/\Q (upd H p (.lst (xs.set j v)))
theorem zh01:PSet X zvd1:=by
 intro pins s Y H o i v K L u Q I E G rv h;obtain⟨p,xs,k,j,rfl,rfl,w,J,q⟩:=h;cases E;obtain⟨t,rfl⟩:=G;obtain⟨its,n,r,g,hz⟩:=I.lst w;obtain⟨f,N,A,z⟩:=zuu J;have hl:=r.length;have M:=zig;have C:Inv X pins Y (upd H p (.lst (xs.set j v))) { s with heap:=s.heap.update p (cU (·.setIfInBounds j u)) } :=
  I.lstUpd w g (zmq its n j u) (r.set rv j) (by rw[wN];exact hz) s.toks
 by_cases B:0<=k
 ·have m:k.toNat=j:=by
   rw[iI B z]at f;exact wY.inj f
  exact PySem.W.ki_setAt g B (by lia) (by rw[vZ,<- hl];exact z) (by rw[m];exact⟨_,C,q⟩)
 ·have m:(k+(its.toArray.size:Int)).toNat=j:=by
   rw[g8 (by lia) A]at f;rw[vZ,<- hl];exact wY.inj f
  exact PySem.W.ki_setBack g (by lia) (by rw[vZ,<- hl];exact A) (by lia) (by rw[m];exact⟨_,C,q⟩)
theorem zfh(lo hi:Option Int)(n:Nat):(bT lo hi none n).1=((HT.sIx n 0 lo:Nat):Int)/\(bT lo hi none n).2.1=((HT.sIx n n hi:Nat):Int)/\(bT lo hi none n).2.2=1:=by
 refine⟨?_,?_,rfl⟩
 ·cases lo with
 |none=>simp[bT,HT.sIx]
 |some i =>
   simp only[bT,HT.sIx,Option.getD_none,show(1:Int) > 0 by decide,if_true];by_cases h:i < 0
   ·simp only[h,if_true] <;> lia
   ·simp only[h,if_false] <;> lia
 ·cases hi with
 |none=>simp[bT,HT.sIx]
 |some i =>
   simp only[bT,HT.sIx,Option.getD_none,show(1:Int) > 0 by decide,if_true];by_cases h:i < 0
   ·simp only[h,if_true] <;> lia
   ·simp only[h,if_false] <;> lia
theorem zze(its:List aC)(lo hi:Option Int):gA its.toArray lo hi none=((its.drop (HT.sIx its.length 0 lo)).take (HT.sIx its.length its.length hi - HT.sIx its.length 0 lo)).toArray:=by
 obtain⟨m,g,f⟩:=zfh lo hi its.toArray.size;unfold gA;rw[m,g,f];simp only[sliceRange_one,pick_run,vZ] <;> rfl
def rSlL(K:Fg):V->Option Int->Option Int->Hp->VK->Prop:=λx lo hi H Q=>∃a xs,x=.ref a/\SqL K H a xs/\∀p,H p=none->Q (.ref p) (upd H p (.lst (cutV xs lo hi)))
theorem zn41:SlR X (rSlL X.K):=by
 walk_at"16";obtain⟨a,xs,rfl,w,q⟩:=h;cases m;obtain⟨its,r,g,hz⟩:=I.list w;have f:=r.length;refine⟨"list",_,slot_list_getitem.lookup,g.isList.typeIs,?_⟩;refine fX g.isList z pl p .none (by simp) ?_ (by rw[vZ] <;> lia);rw[zze,<- f];refine⟨.ref s.heap.objs.size,_,I.laid (t':=s.toks) (o:=.lst (cutV xs lo hi)) (λb ob q=>vS _ q) (u7 _) ?_,rfl,q _ (I.hok.fresh (u7 _))⟩;exact⟨wL (zxc xs lo hi) hz,_,0,(r.drop (HT.sIx xs.length 0 lo)).take (HT.sIx xs.length xs.length hi - HT.sIx xs.length 0 lo),wB _ rfl⟩
def zfs:V->Bool
|.non=>true
|.bl _=>true
|.int _=>true
|.str _=>true
|_=>false
def eqV:V->V->Bool
|.non,.non=>true
|.bl a,.bl b=>a == b
|.bl a,.int b=>(if a then 1 else 0) == b
|.int a,.bl b=>a == (if b then 1 else 0)
|.int a,.int b=>a == b
|.str a,.str b=>a == b
|_,_=>false
theorem zqc1{A:bB}{v:aC}(g:RelV y u)(f:RelV x v)(m:zfs y=true)(fx:zfs x=true):l5 A s u v (eqV y x):=by
 cases y with
|non =>
  cases g;cases x with
 |non=>cases f;exact SeqAt.EqAt.same _
 |bl b=>cases f;exact SeqAt.EqAt.none_bool b
 |int b=>obtain⟨t,rfl⟩:=f;exact SeqAt.EqAt.none_int b t
 |str b=>obtain⟨t,rfl⟩:=f;exact SeqAt.EqAt.none_str b t
 |_=>exact aN (show false=true from fx) v3
|bl a =>
  cases g;cases x with
 |non=>cases f;exact SeqAt.EqAt.bool_none a
 |bl b=>cases f;exact SeqAt.EqAt.bool_bool a b
 |int b=>obtain⟨t,rfl⟩:=f;exact SeqAt.EqAt.bool_int a b t
 |str b=>obtain⟨t,rfl⟩:=f;exact SeqAt.EqAt.bool_str a b t
 |_=>exact aN (show false=true from fx) v3
|int a =>
  obtain⟨t',rfl⟩:=g;cases x with
 |non=>cases f;exact SeqAt.EqAt.int_none a t'
 |bl b=>cases f;exact SeqAt.EqAt.int_bool a t' b
 |int b=>obtain⟨t,rfl⟩:=f;exact SeqAt.EqAt.int_int a t' b t
 |str b=>obtain⟨t,rfl⟩:=f;exact SeqAt.EqAt.int_str a t' b t
 |_=>exact aN (show false=true from fx) v3
|str a =>
  obtain⟨t',rfl⟩:=g;cases x with
 |non=>cases f;exact SeqAt.EqAt.str_none a t'
 |bl b=>cases f;exact SeqAt.EqAt.str_bool a t' b
 |int b=>obtain⟨t,rfl⟩:=f;exact SeqAt.EqAt.str_int a t' b t
 |str b=>obtain⟨t,rfl⟩:=f;exact SeqAt.EqAt.str_str a t' b t
 |_=>exact aN (show false=true from fx) v3
|_=>exact aN (show false=true from m) v3
def eqU(x:V)(u:aC):Bool:=match u with
|.none=>eqV .non x
|.bool b=>eqV (.bl b) x
|.int i _=>eqV (.int i) x
|.str z _=>eqV (.str z) x
|_=>false
theorem zu31(r:RelV y u)(f:zfs y=true):eqU x u=eqV y x:=by
 cases y with
|non=>cases r;rfl
|bl b=>cases r;rfl
|int i=>obtain⟨t,rfl⟩:=r;rfl
|str z=>obtain⟨t,rfl⟩:=r;rfl
|_=>exact aN (show false=true from f) v3
theorem zxf{x:V}:∀{xs:List V}{us:List aC},Vals xs us->xs.all zfs=true->us.any (eqU x)=xs.any λy=>eqV y x
|_,_,.nil,_=>rfl
|y :: xs,u :: us,.cons r t,f=>by
  rw[zH,yY]at f;rw[xV,xV,zu31 r f.1,zxf t f.2]
theorem zua{A:bB}{s:aH}{x:V}{v:aC}(m:RelV x v)(fx:zfs x=true):∀{xs:List V}{us:List aC},Vals xs us->xs.all zfs=true->∀u∈us,l5 A s u v (eqU x u)
|_,_,.nil,_=>λu g=>by cases g
|y :: xs,u :: us,.cons r t,f=>λo g=>by
  rw[zH,yY]at f;rcases vR.mp g with rfl|g
  ·rw[zu31 r f.1];exact zqc1 r m f.1 fx
  ·exact zua m fx t f.2 o g
def inV(x:V)(xs:List V):Bool:=xs.any λy=>eqV y x
def rIn(K:Fg)(neg:Bool):R2:=λx y H Q=>∃p xs,y=.ref p/\(SqL K H p xs \/ SqT K H p xs)/\zfs x=true/\xs.all zfs=true/\Q (.bl (if neg then !inV x xs else inV x xs)) H
theorem zlt:OpR X (bC .In) (rIn X.K false):=by
 walk_at"11";obtain⟨p,xs,rfl,f,fx,fs,q⟩:=h;cases m;rcases f with f|f
 ·obtain⟨its,r,pl,hz⟩:=I.list f;refine SeqAt.in_listAt (eqU x) pl.isList (λw hw=>zua g fx r fs w (by simpa using hw)) ⟨.bl _,H,I,rfl,?_⟩;rw[show its.toArray.any (eqU x)=its.any (eqU x) by simp,zxf r fs];exact q
 ·obtain⟨its,r,pl,hz⟩:=I.tuple f;refine SeqAt.in_tupleAt (eqU x) pl (λw hw=>zua g fx r fs w (by simpa using hw)) ⟨.bl _,H,I,rfl,?_⟩;rw[show its.toArray.any (eqU x)=its.any (eqU x) by simp,zxf r fs];exact q
theorem zqg:OpR X (bC .NotIn) (rIn X.K true):=by
 walk_at"11";obtain⟨p,xs,rfl,f,fx,fs,q⟩:=h;cases m;rcases f with f|f
 ·obtain⟨its,r,pl,hz⟩:=I.list f;refine SeqAt.notIn_listAt (eqU x) pl.isList (λw hw=>zua g fx r fs w (by simpa using hw)) ⟨.bl _,H,I,rfl,?_⟩;rw[show its.toArray.any (eqU x)=its.any (eqU x) by simp,zxf r fs];exact q
 ·obtain⟨its,r,pl,hz⟩:=I.tuple f;refine SeqAt.notIn_tupleAt (eqU x) pl (λw hw=>zua g fx r fs w (by simpa using hw)) ⟨.bl _,H,I,rfl,?_⟩;rw[show its.toArray.any (eqU x)=its.any (eqU x) by simp,zxf r fs];exact q
theorem zoi:OpR X (bC .NotIn) (λx y H Q=>∃i j,x=.str i/\y=.str j/\Q (.bl (!(!(Builtin.Str.occurrences j i 0 j.length 1).isEmpty))) H):=by
 walk_at"12";obtain⟨i,j,rfl,rfl,q⟩:=h;obtain⟨t,rfl⟩:=g;obtain⟨t',rfl⟩:=f;exact notIn_str ⟨.bl _,H,I,rfl,q⟩
theorem CallR.or{f:aC}{r g:List V->Hp->VK->Prop}(h:CallR X f r)(h':CallR X f g):CallR X f (λxs H Q=>r xs H Q \/ g xs H Q):=by
 intro pins s Y H xs us Q I rs q;rcases q with q|q
 ·exact h pins s Y H xs us Q I rs q
 ·exact h' pins s Y H xs us Q I rs q
theorem zyh:CallR X (.type "list") (λxs H Q=>∃p ys,xs=[.ref p]/\(SqL X.K H p ys \/ SqT X.K H p ys)/\∀l,H l=none->Q (.ref l) (upd H l (.lst ys))):=by
 walk_at"4";obtain⟨p,ys,rfl,z,q⟩:=h;obtain⟨u,rfl,J⟩:=zry r;cases J;have A:∀(its:List aC),Vals ys its->ys.length<=sizeLine->∀(h':aX)(g:Nat),(∀b G,s.heap.get? b=some G->h'.get? b=some G) ->
   h'.get? s.heap.objs.size=some { cls:=.type "list",dict:=none,data:=.seq its.toArray g,slots:=#[] }->EP X pins Y Q (.ref s.heap.objs.size) { s with heap:=h' }:=λits f hz h' g m e =>
  ⟨.ref s.heap.objs.size,_,I.laid (t':=s.toks) m (u7 _) (show ObjOk X.prog X.w _ h' _ (.lst ys)from⟨hz,its,g,f,e⟩),rfl,q _ (I.hok.fresh (u7 _))⟩
 rcases z with z|z
 ·obtain⟨its,f,pl,hz⟩:=I.list z;have B:=f.length;obtain⟨o,C,E,n,hd⟩:=pl.isList;exact call_list_seq p (.inl rfl) C E hd (λh' g m e=>A its f hz h' g m e) (by simp only[vZ] <;> lia)
 ·obtain⟨its,f,pl,hz⟩:=I.tuple z;have B:=f.length;obtain⟨o,C,E,n,hd⟩:=pl;exact call_list_seq p (.inr rfl) C E hd (λh' g m e=>A its f hz h' g m e) (by simp only[vZ] <;> lia)
def tyV(K:Fg)(T:String)(x:V)(H:Hp):Prop:=match x with
|.str _=>T = "str"
|.int _=>T = "int"
|.ref p=>(T = "list"/\∃xs,SqL K H p xs) \/ (T = "tuple"/\∃o,K.lookup p=some o/\o.cls=.type "tuple"/\o.dict=none) \/
   (T = "dict"/\((∃kvs,H p=some (.dK kvs)) \/ ∃kvs,H p=some (.dT kvs))) \/ (T = "set"/\∃S n,H p=some (.set S n))
|_=>False
theorem zz41{H:Hp}{T:String}{v:aC}(I:Inv X pins Y H s)(r:RelV x v)(ty:tyV X.K T x H) :
  s.TypeIs v T/\∀a,v=.ref a->∃ob,s.heap.get? a=some ob/\ob.dict=none:=by
 cases x with
|str z =>
  obtain⟨t,rfl⟩:=r;cases (show T = "str" from ty);exact⟨iU s z t,λ_ e=>nomatch e⟩
|int i =>
  obtain⟨t,rfl⟩:=r;cases (show T = "int" from ty);exact⟨iV s i t,λ_ e=>nomatch e⟩
|ref p =>
  cases r;rcases ty with⟨rfl,xs,m⟩|⟨rfl,o,f,q,hd⟩|⟨rfl,f⟩|⟨rfl,S,n,f⟩
  ·obtain⟨its,_,pl,_⟩:=I.list m;refine⟨pl.isList.typeIs,λa e=>?_⟩;cases e;obtain⟨o,n,e,c,hd,_⟩:=pl;exact⟨o,e,hd⟩
  ·refine⟨⟨o,I.kIn p o f,q⟩,λa e=>?_⟩;cases e;exact⟨o,I.kIn _ o f,hd⟩
  ·have z:∃o,s.heap.get? p=some o/\o.ExactDict:=by
    rcases f with⟨kvs,f⟩|⟨kvs,f⟩
    ·obtain⟨_,_,_,_,o,_,_,e,ex,_⟩:=I.hok p _ f;exact⟨o,e,ex⟩
    ·obtain⟨_,_,_,_,o,_,_,e,ex,_⟩:=I.hok p _ f;exact⟨o,e,ex⟩
   obtain⟨o,e,ex⟩:=z;refine⟨⟨o,e,ex.1⟩,λa g=>?_⟩;cases g;exact⟨o,e,ex.2.1⟩
  ·obtain⟨o,_,_,_,e,ex,_⟩:=I.hok p _ f;refine⟨⟨o,e,ex.1⟩,λa g=>?_⟩;cases g;exact⟨o,e,ex.2.1⟩
|_=>exact False.elim ty
def tBM0(K:Fg)(T:String)(r:V->List V->Hp->VK->Prop)(g:TE):TE:=λY H Q=>g Y H λx f=>tyV K T x f/\r x [] f Q
def tBM(K:Fg)(T:String)(r:V->List V->Hp->VK->Prop)(g:TE)(t:TA):TE:=λY H Q=>g Y H λx f=>tyV K T x f/\t Y f λxs H2=>r x xs H2 Q
variable {o e:aZ}{es:List aZ}{to:TE}{t:TA}{name:Str}{apos cpos:Pos}{T id:String}{r:V->List V->Hp->VK->Prop}
theorem zya1(z:gR T)(slot:Slot T name id)(m:lV (.builtin id)=pure (.type "method_descriptor"))(B:MtR X id r)(A:PE X o to)
  (g:dG o name X.env (bD o X.env)=bD o X.env:=by rfl) (f:(apos.endLine == cpos.line)=true:=by rfl):PE X (.Call (.Attribute o name apos) [] [] cpos) (tBM0 X.K T r to):=by
 walk_at"1";refine wpAny_Call_method0_late g f (thn (A pins s Y H _ I h) λv s1 hz=>?_);obtain⟨x,G,q,p,ty,w⟩:=hz;obtain⟨E,C⟩:=zz41 q p ty;exact⟨T,id,z,slot,m,E,C,Calls.callWith_builtin rfl (PySem.evalArgs_none (B pins s1 Y G x [] v [] Q q p .nil w))⟩
theorem zug1(G:gR T)(slot:Slot T name id)(q:lV (.builtin id)=pure (.type "method_descriptor"))(M:MtR X id r)(L:PE X o to)(N:PA X (e :: es) t)
  (m:dG o name X.env (bD o X.env)=bD o X.env:=by rfl)
  (p:((b7 cpos (aW (e :: es) X.env)).all (λx=>!x.1) && (e8 cpos (dP [] X.env)).all (λx=>x.1.isSome)
   && decide ((e :: es).length+([]:List lD).length+(if([]:List lD).isEmpty then 0 else 1) < 30))=true:=by rfl)
  (g:(apos.endLine == cpos.line)=true:=by rfl) (J:aW (e :: es) X.env=(false,bD e X.env) :: aW es X.env:=by rfl) (f:(b7 cpos (aW es X.env)).any (·.1)=false:=by rfl) :
  PE X (.Call (.Attribute o name apos) (e :: es) [] cpos) (tBM X.K T r to t):=by
 walk_at"1";refine wpAny_Call_method_late m p g rfl (thn (L pins s Y H _ I h) λv s1 hz=>?_);obtain⟨x,W,A,w,ty,E⟩:=hz;obtain⟨S,O⟩:=zz41 A w ty;refine⟨T,id,G,slot,q,S,O,?_⟩;have z:=N cpos pins s1 Y W _ A E;rw[J]at z ⊢;refine Calls.callWith_builtin (by show(false || (b7 cpos (aW es X.env)).any (·.1))=false;rw[f] <;> rfl) (Calls.evalArgs_plain ?_);exact thn z λus s2 ⟨vs,H2,U,B,C⟩=>M pins s2 Y H2 x vs v us Q U w B C
end
def MtM(X:Cx)(id:String)(r:V->List V->Hp->VK->Prop):Prop :=
 ∀(pins:List (aE×Obj))(s:aH)(Y:St)(H:Hp)(x:V)(xs:List V)(v:aC)(us:List aC)(Q:VK),Inv X pins Y H s->RelV x v->Vals xs us->r x xs H Q ->
  aL (aM X.prog X.w) X.A (call (.builtin id) (v :: us)) (EP X pins Y Q) X.xe s
theorem Vals.one(h:Vals [x] us):∃u,us=[u]/\RelV x u:=by cases h with|cons r t=>cases t;exact⟨_,rfl,r⟩
theorem Vals.two(h:Vals [x,y] us):∃u v,us=[u,v]/\RelV x u/\RelV y v:=by cases h with|cons r t=>cases t with|cons q t=>cases t;exact⟨_,_,rfl,r,q⟩
theorem Vals.zero:∀{us:List aC},Vals [] us->us=[]
|_,.nil=>rfl
theorem Vals.dropLast{xs:List V}{us:List aC}(h:Vals xs us):Vals xs.dropLast us.dropLast:=by
 induction h with
|nil=>exact .nil
|cons r t a =>
  cases t with
 |nil=>exact .nil
 |cons q t'=>exact .cons r a
theorem Vals.rep{xs:List V}{us:List aC}(h:Vals xs us):∀k:Nat,Vals (vU k xs).flatten (vU k us).flatten
|0=>.nil
|k+1=>by
  rw[yS,yS,yZ,yZ];exact Vals.append h (Vals.rep h k)
theorem zuq{α:Type}(l:List α):l.eraseIdx (l.length - 1)=l.dropLast:=by
 induction l with
|nil=>rfl
|cons a r f =>
  cases r with
 |nil=>rfl
 |cons b r =>
   have e:(a :: b :: r).length - 1=((b :: r).length - 1)+1:=by
    have m:(a :: b :: r).length=r.length+2:=rfl;have g:(b :: r).length=r.length+1:=rfl;lia
   rw[e,List.eraseIdx_cons_succ,f]
   all_goals rfl
theorem zjj(its:List aC):∀(k:Nat)(acc:List aC),
  List.foldl (λx1 x2=>x1++x2) acc.toArray (vU k its.toArray)=(acc++(vU k its).flatten).toArray
|0,acc=>by simp
|k+1,acc=>by
  have e:acc.toArray++its.toArray=(acc++its).toArray:=by simp
  have a:(acc++its)++(vU k its).flatten=acc++(vU (k+1) its).flatten:=by
   rw[yS,yZ,vW]
  rw[<- a,<- zjj its k (acc++its),<- e,yS,zI]
section
variable {X:Cx}{pins:List (aE×Obj)}{Y:St}{H:Hp}{s:aH}{l b:aE}{xs ys zs:List V}
theorem Inv.lset{its its':List aC}{n:Nat}{f:Array aC->Array aC}{t':Nat}(I:Inv X pins Y H s)(p:H l=some (.lst xs))
  (e:s.heap.get? l=some { cls:=.type "list",data:=.seq its.toArray n }) (m:f its.toArray=its'.toArray) (a:Vals ys its') (hz:ys.length<=sizeLine) :
  Inv X pins Y (upd H l (.lst ys)) { s with heap:=s.heap.update l (cU f),toks:=t' }:=by
 have q:=PySem.IsL.update e f;rw[m]at q;refine I.write (x:=l) (e:=l) (by rw[p];exact trivial) (.inl rfl) (λw u o g=>(ua5 s.heap (cU f) (Ne.symm o)).trans g) ⟨_,q⟩ ?_;exact⟨hz,its',_,a,q⟩
theorem Inv.lnew{t':Nat}(I:Inv X pins Y H s)(a:Vals ys its)(hz:ys.length<=sizeLine) :
  Inv X pins Y (upd H s.heap.objs.size (.lst ys)) { s with heap:=s.heap.push { cls:=.type "list",data:=.seq its.toArray },toks:=t' } :=
 I.laid (λ_ _ q=>vS _ q) (u7 _) ⟨hz,its,0,a,wB _ rfl⟩
theorem Inv.fresh(I:Inv X pins Y H s):H s.heap.objs.size=none:=I.hok.fresh (u7 _)
theorem Inv.lstM(I:Inv X pins Y H s)(a:H l=some (.lst xs)):xs.length<=sizeLine/\∃(its:List aC)(n:Nat),Vals xs its/\xs.length=its.length/\s.heap.get? l=some { cls:=.type "list",data:=.seq its.toArray n }:=by
 obtain⟨z,its,n,r,e⟩:=I.hok l _ a;exact⟨z,its,n,r,r.length,e⟩
theorem zei(h:n<=sizeLine):cD n=false:=by
 unfold cD;exact a7 (by lia)
end
section
variable {X:Cx}
def ztu:V->List V->Hp->VK->Prop:=λx vs H Q=>∃l xs y,x=.ref l/\vs=[y]/\H l=some (.lst xs)/\xs.length < sizeLine/\Q .non (upd H l (.lst (xs++[y])))
theorem zd4:MtM X "list.append" ztu:=by
 intro pins s Y H x vs v us Q I b rv h;obtain⟨l,xs,y,rfl,rfl,a,hz,q⟩:=h;cases b;obtain⟨u,rfl,f⟩:=rv.one;obtain⟨z,its,n,r,hl,e⟩:=I.lstM a;refine eM F.slot_list_append ⟨_,e,rfl⟩ F.entry_list_append (F.args_list_append_2 _ _) (PySem.list_append l its.toArray n u (by rw[vZ];lia)) ⟨e,?_⟩;refine⟨.non,_,I.lset (its':=its++[u]) a e (by simp) (r.append (.cons f .nil)) ?_,rfl,q⟩;rw[vT,zJ];lia
def rPop:V->List V->Hp->VK->Prop:=λx vs H Q=>∃l xs y,x=.ref l/\vs=[]/\H l=some (.lst xs)/\xs[xs.length - 1]?=some y/\Q y (upd H l (.lst xs.dropLast))
theorem zey:MtM X "list.pop" rPop:=by
 intro pins s Y H x vs v us Q I g rv h;obtain⟨l,xs,y,rfl,rfl,f,o,q⟩:=h;cases g;have b:=rv.zero;subst b;obtain⟨z,its,n,r,hl,e⟩:=I.lstM f;obtain⟨u,p,m⟩:=r.get o;have a:its.toArray[its.toArray.size - 1]?=some u:=by
  show its.toArray[its.length - 1]?=some u;rw[<- y3,<- hl];exact p
 refine eM F.slot_list_pop ⟨_,e,rfl⟩ F.entry_list_pop (F.args_list_pop_1 _) (MeetsSeq.list_pop_last l its.toArray n u a (by rw[vZ];lia)) ⟨e,?_⟩;refine⟨y,_,I.lset (its':=its.dropLast) f e ?_ r.dropLast ?_,m,q⟩
 ·show its.toArray.eraseIdxIfInBounds (its.toArray.size - 1)=its.dropLast.toArray;rw[vZ,List.eraseIdxIfInBounds_toArray,zuq]
 ·rw[List.length_dropLast];lia
def rCat:R2:=λx y H Q=>∃l b xs a,x=.ref l/\y=.ref b/\H l=some (.lst xs)/\H b=some (.lst a)/\xs.length+a.length<=sizeLine/\∀p,H p=none->Q (.ref p) (upd H p (.lst (xs++a)))
theorem zjb1:OpR X (bU .Add) rCat:=by
 walk_at"12";obtain⟨l,b,xs,B,rfl,rfl,o,hB,hz,q⟩:=h;cases g;cases f;obtain⟨z,its,n,r,hl,e⟩:=I.lstM o;obtain⟨C,a,n2,m,A,w⟩:=I.lstM hB;refine PySem.P.add_list e w ?_ (by rw[vZ,vZ];lia);have p:its.toArray++a.toArray=(its++a).toArray:=by simp
 rw[p];exact⟨.ref _,_,I.lnew (t':=s.toks) (r.append m) (by rw[vT];lia),rfl,q _ I.fresh⟩
def rRep:R2:=λx y H Q=>∃l k xs,x=.ref l/\y=.int k/\H l=some (.lst xs)/\-(2 ^ 63)<=k/\k < 2 ^ 63/\xs.length * k.toNat<=sizeLine /\
 ∀p,H p=none->Q (.ref p) (upd H p (.lst (vU k.toNat xs).flatten))
theorem za31{α:Type}(xs:List α)(k:Nat):(vU k xs).flatten.length=k * xs.length:=by
 induction k with
|zero=>simp
|succ k a=>rw[yS,yZ,vT,a,Nat.succ_mul,uaC]
theorem zl51:OpR X (bU .Mult) rRep:=by
 intro pins s Y H x y v u Q I A w h;obtain⟨l,k,xs,rfl,rfl,B,E,C,hz,q⟩:=h;cases A;obtain⟨t,rfl⟩:=w;obtain⟨z,its,n,r,hl,e⟩:=I.lstM B;have g:its.toArray.size * k.toNat<=sizeLine:=by rw[vZ,<- hl];exact hz
 have p:¬its.toArray.size * k.toNat > (2 ^ 63 - 1) / 8:=by
  have:(sizeLine:Nat)<=(2 ^ 63 - 1) / 8:=by decide
  lia
 have o:¬(!Builtin.List.listFitsIndex k)=true:=by
  rw[fitsIndex_both E C];exact v3
 have b:¬cD (its.toArray.size * k.toNat)=true:=by
  rw[zei g];exact v3
 have f:List.foldl (λx1 x2=>x1++x2) #[] (vU (if its.toArray.isEmpty=true then 0 else k.toNat) its.toArray)=(vU k.toNat its).flatten.toArray:=by
  have G:∀m:Nat,List.foldl (λx1 x2=>x1++x2) #[] (vU m its.toArray)=(vU m its).flatten.toArray:=λm=>by
   have:=zjj its m [];rw[uaD]at this;exact this
  rw[G];cases its with
 |nil=>simp
 |cons a J=>rw[aA (by simp)]
 refine wpAny_binaryOp_repeat_ref (T := "list") (U := "int") (by decide) ⟨_,e,rfl⟩ (λs'=>iV s' k t) noFill_list_mul F.fills_int_mul lA repeat_list F.slot_int_index.lookup
  (eM lA (iV s k t) F.entry_int_rmul (F.args_int_rmul_2 _ _) (int___rmul___int_list k t l its.toArray n)
   ⟨e,rfl,⟨_,e,rfl⟩,eM F.slot_list_mul ⟨_,e,rfl⟩ F.entry_list_mul (F.args_list_mul_2 _ _) (AutoListH.list___mul___list_int_3 l its.toArray n k t o p b) ⟨e,?_⟩⟩)
 rw[f];exact⟨.ref _,_,I.lnew (t':=s.toks) (r.rep k.toNat) (by rw[za31,zU];exact hz),rfl,q _ I.fresh⟩
end
end _2
namespace Att
open PySem PySem.W PySem.Calls PyProof.Rows
variable {n:Nat}
theorem zcc{P:lW}{h:aX}:∀(ns:List Int)(vs:List aC),WellAll P h vs (ns.map WData.int)->cI vs ns:=by
 intro ns
 induction ns with
|nil =>
  intro vs w;rw[yR]at w;cases w;exact .nil
|cons n ns f =>
  intro vs w;rw[v4]at w;cases w with
 |cons a b =>
   cases a;exact .cons _ _ (f _ b)
theorem zbt{l:OpenLaw}(z:l.most=some n){P:lW}{h:aX}{args:List WData}{b:List aC}
  (f:l.row.toRowW.claim.pre args=true) (p:WellAll P h b args) :
  ∃a vs ns,b=[vX a]/\args=[WData.list (ns.map WData.int)]/\h.get? a=some { cls:=.type "list",data:=.seq vs.toArray }/\cI vs ns/\ns.length<=n:=by
 have s:WShape.hasAll [] args [.list .int]=true:=(pre_splitW f).1;have u:l.pre.holds [] { args:=args }=true:=(pre_splitW f).2;obtain⟨d,r,rfl,C,B⟩:=hasAllW_cons s;obtain rfl:=hasAllW_nil B;obtain⟨xs,rfl,A⟩:=hasW_list C;obtain⟨ns,rfl⟩:=items_int A;have g:ns.length<=n:=by
  unfold OpenLaw.pre at u;have o:(WTm.not (.lt (.lit (.int (n:Int))) (.len (.arg 0)))).holds [] { args:=[.list (ns.map .int)] }=true:=by
   have o:=(holds_andW u).1;rw[z]at o;exact o
  have m:=condW_of o (w_not (w_lt w_lit (w_len_list (w_arg rfl))));rw[u4]at m;refine zV λq=>?_;have x:(n:Int) < ((ns.length:Nat):Int):=by lia
  first
  |(rw[bK x]at m;exact aN m (by decide))
  |(simp at m;lia)
 cases p with
|cons w1 w =>
  cases w;cases w1 with
 |list y i=>exact⟨_,_,ns,rfl,rfl,y,zcc ns _ i,g⟩
theorem zut(l:OpenLaw)(args:List WData):l.row.toRowW.claim.post args (.bool true) args=true :=
 postW_of (r:=l.row.toRowW) (X:=(true == true))
  (show WShape.has [] (.bool true) .bool=true by first|rfl|decide|simp[WShape.has,WShape.arms,WShape.armsAll])
  (show(WTm.eq .res (.lit (.bool true))).value [] { args:=args,res:=some (.bool true),after:=args }=some (.bool (true == true))from w_eq_bool (w_res rfl) w_lit) rfl
theorem attach_call{l:OpenLaw}{q:aQ}{b:List Str}{L:(Str->Option aC)->aX->Prop}{K:aR->aX->Prop}{d:DefRec}
  (U:l.most=some n) (E:d.params.defaults=[])
  (call:∀(w:aR)(s₀ s₁:aH)(mg A:Str->Option aC)(m:aE)(o:Obj)(z y g:aC)(a:aE)(vs:List aC)(ns:List Int),
   Ground q b [] L w s₀ mg A s₁.heap->K w s₁.heap ->
   s₁.heap.get? m=some o->o.data=.func (docDef d.name d.params d.body d.scope z y g)->s₁.heap.CodeRec y d.name->mg d.name=some (.ref m) ->
   s₁.heap.get? a=some { cls:=.type "list",data:=.seq vs.toArray }->cI vs ns->ns.length<=n->s₁.gens=#[] ->
   dZ (aM l.prog w) e6 (.call (.ref m) ⟨[.ref a],[]⟩) (λr s'=>r=.ok (.ret (.bool true))/\OldK s₁.heap s'.heap/\s'.os=s₁.os/\eD s'.gens) s₁) :
  WalkO q b L K l.row.toRowW d [] (λf vs=>iZ f vs):=by
 intro w s₀ s₁ mg A G Yv m o z y g dV kV S hd I J C X args M as p N hrd B hlo;obtain rfl:dV=.none:=Dflts.none J E;obtain rfl:kV=.none:=Dflts.noKw J;obtain⟨a,vs,ns,rfl,rfl,u,i,x⟩:=zbt U p B;refine enter_call (fV (call w s₀ s₁ mg A m o z y g a vs ns G Yv S (fd_plain hd) I C u i x X) λr s' O=>?_);obtain⟨rfl,h2,Z,Y⟩:=O;exact⟨.inl ⟨.bool true,.bool true,[],rfl,λ_=>rfl,.bool true,zut l _,λ_=>⟨List.Pairwise.nil,λ_ W=>(nomatch W)⟩⟩,h2,Z,Y⟩
end Att
namespace _2
open PySem PySem.Spec PyProof.Rows
variable {K:Fg}{a f:aE}{fd:cZ}{ps:List Str}{qual x:Str}{sp:Sp}{st:dI}
theorem zpa:∀{vs:List aC}{ns:List Int},cI vs ns->Vals (ns.map V.int) vs
|_,_,.nil=>.nil
|_,_,.cons n t h=>.cons ⟨t,rfl⟩ (zpa h)
def Only(H:Hp):Prop:=∀b,H b=none \/ ∃o xs,H b=some (.frz o (.lst xs))
theorem zw11{P:aQ}{w:aR}{mg O:Str->Option aC}{CX:CXT}{k:Nat}{U:aE}{fd:cZ}{sp:Sp}{s₁:aH}{vs:List aC}{ns:List Int}
  (KX:K.In s₁.heap) (G:s₁.heap.Ns aT mg) (i:s₁.heap.Ns iX O) (Z:∀x:Str,x ≠ "__name__"->O x=bH x) (M:s₁.heap.NoLimit) (hg:s₁.gens=#[])
  (N:s₁.heap.get? a=some { cls:=.type "list",data:=.seq vs.toArray }) (hi:cI vs ns) (hl:ns.length<=sizeLine) (hr:Room k e6)
  (F:∀base:aX,K.In base->base.Ns aT mg->FnOk P w K mg base CX k U fd [x] sp) (A:∀(s:aH)(u:aC),e7 s fd ⟨[u],[]⟩ [(x,u)])
  (Y:∀H:Hp,Only H->SqL K H a (ns.map V.int)->sp [.ref a] H (λv _=>v=.bl true) λ_ _ _=>False)
  (hCX:∀H e s',CX [] H s₁ (λ_ _ _=>False) e s'->False) :
  dZ (aM P w) e6 (.call (.ref U) ⟨[.ref a],[]⟩) (λr s'=>r=.ok (.ret (.bool true))/\OldK s₁.heap s'.heap/\s'.os=s₁.os/\eD s'.gens) s₁:=by
 have rv:=zpa hi;have J:=hi.length
 -- from an abstract heap in which nothing but the script may be tracked
 have y:∀H:Hp,Only H->SqL K H a (ns.map V.int)->HOk P w H s₁.heap->(∀b,H b≠none->b=a)->(H a≠none->K.lookup a=none) ->
   dZ (aM P w) e6 (.call (.ref U) ⟨[.ref a],[]⟩) (λr s'=>r=.ok (.ret (.bool true))/\OldK s₁.heap s'.heap/\s'.os=s₁.os/\eD s'.gens) s₁:=by
  intro H hO hS E hA hK;have g:∀{b:aE}{o:Obj},s₁.heap.get? b=some o->H b=none->(hidT s₁.heap H).get? b=some o:=λe n=>zr01 e n;have X:∀{b:aE}{o:Obj}{C:Array DictEntry}{ep:Nat},s₁.heap.get? b=some o->o.data=.dict C ep->H b=none:=λ{b o C ep} e d=>by
   cases q:H b with
  |none=>rfl
  |some u =>
    have W:b=a:=hA b (by rw[q];simp);subst W;rw[N]at e;cases e;have d':Data.seq vs.toArray _=Data.dict C ep:=d;cases d'
  have p:∀{b:aE}{m:Str->Option aC},s₁.heap.Ns b m->(hidT s₁.heap H).Ns b m:=λ{b m} ⟨o,C,ep,e,d,r⟩=>⟨o,C,ep,g e (X e d),d,r⟩
  have I:K.In (hidT s₁.heap H):=λb o e=>g (KX b o e) (by
   cases q:H b with
  |none=>rfl
  |some u =>
    have W:b=a:=hA b (by rw[q];simp);subst W;rw[hK (by rw[q];simp)]at e;cases e)
  have hM:Mod K mg (hidT s₁.heap H):=⟨I,p G,⟨O,p i,Z⟩,let ⟨mc,h1,h2⟩:=M;⟨mc,p h1,h2⟩⟩
  have e0:Env0 P w K mg (hidT s₁.heap H) e6 [] s₁ H:=⟨rfl,hM,λb o e=>zt31 e,uaA (zau _ _),trivial,λb i=>aN (show b∈([]:List aE)from i) (by simp),E,.of_eq hg⟩
  refine fV ((F _ I (p G)).run e6 [] s₁ H ⟨[.ref a],[]⟩ [.ref a] [.ref a] _ _ hr e0 (A s₁ (.ref a)) (.cons rfl .nil) (Y H hO hS)) λr s' h=>?_;cases r with
 |error e=>exact(hCX H e s' h).elim
 |ok fl =>
   cases fl with
  |next=>exact False.elim h
  |brk=>exact False.elim h
  |cont=>exact False.elim h
  |ret u =>
    obtain⟨v,H',os,bare,un,L,r',q⟩:=h;have q':v=.bl true:=q;subst q';obtain rfl:u=zQ true:=r';refine⟨rfl,OldK.of_keep λb o e=>?_,os,bare⟩;cases q:H b with
   |none=>exact un.keep b o e q (by intro z;exact aN (show b∈([]:List aE)from z) (by simp)) (by simp)
   |some u =>
     rcases hO b with z|⟨ob,xs,z⟩
     ·rw[q]at z;cases z
     ·have z2:=un.frzs b ob _ z;obtain⟨e1,_⟩:=E b _ z;obtain⟨e2,_⟩:=L b _ z2;rw[e]at e1;cases e1;exact e2
 cases S:K.lookup a with
|some o =>
  -- the script is one of the module's own objects
  have e:=KX a o S;rw[N]at e;cases e;refine y (λ_=>none) (λ_=>.inl rfl) (.inr ⟨_,vs.toArray,_,S,rfl,rfl,rfl,by rw[vZ,J];exact hl,by simpa using rv⟩) (λb u z=>by have B:(none:Option HO)=some u:=z;cases B) (λb z=>aN rfl z) λz=>aN rfl z
|none =>
  refine y (λb=>if b=a then some (.frz { cls:=.type "list",data:=.seq vs.toArray } (.lst (ns.map V.int)))else none) (λb=>?_) (.inl (.inr ⟨{ cls:=.type "list",data:=.seq vs.toArray },aF rfl⟩)) (λb u z=>?_) (λb z=>?_) λ_=>S
  ·by_cases i:b=a
   ·exact .inr ⟨_,_,aF i⟩
   ·exact .inl (aA i)
  ·by_cases i:b=a
   ·have B:=(aF i).symm.trans z;cases B;subst i;exact⟨N,by rw[u4];exact hl,vs,_,rv,N⟩
   ·have B:=(aA i).symm.trans z;cases B
  ·by_cases i:b=a
   ·exact i
   ·exact aN (aA i) z
theorem walk_of{l:gD}{n k:Nat}{q:aQ}{m:List Str}{Z:(Str->Option aC)->aX->Prop}{J:aR->aX->Prop}{d:DefRec}{K:lW->Fg}{CX:aR->CXT}{sp:aR->Sp} 
  (M:l.most=some n) (B:n<=sizeLine) (E:d.params.defaults=[]) (hr:Room k e6)
  (S:∀(w:aR)(h:aX),J w h->(K w.params).In h)
  (F:∀(w:aR)(mg:Str->Option aC)(z:aE)(h:aX),(K w.params).In h->h.Ns aT mg->mg d.name=some (.ref z) ->
   ∃fd:cZ,(∀(s:aH)(u:aC),e7 s fd ⟨[u],[]⟩ [(x,u)]) /\
    ∀base:aX,(K w.params).In base->base.Ns aT mg->FnOk l.prog w (K w.params) mg base (CX w) k z fd [x] (sp w))
  (A:∀(w:aR)(H:Hp)(a:aE)(ns:List Int),ns.length<=n->Only H->SqL (K w.params) H a (ns.map V.int)->sp w [.ref a] H (λv _=>v=.bl true) λ_ _ _=>False)
  (I:∀(w:aR)(H:Hp)(s:aH)(e:aC)(s':aH),CX w [] H s (λ_ _ _=>False) e s'->False) :
  lQ q m Z J l.row.toRowW d [] (λf vs=>iZ f vs):=by
 refine Att.attach_call M E λw s₀ s₁ mg mb z o pm cd doc a vs ns G Y ho hd hcd C y p i N=>?_;have L:=S w _ Y;obtain⟨fd,O,X⟩:=F w mg z _ L G.T.g C;exact zw11 L G.T.g G.T.b G.T.builtins G.T.nolimit N y p (wL i B) hr X O (λH W U=>A w H a ns i W U) λH e s'=>I w H s₁ e s'
def zx3(s:dI)(j:Nat):Stmt:=match s with
|.ClassDef _ _ _ body _ _ _ _ _ _ _=>body.getD j (.Pass ⟨0,0,0,0⟩)
|_=>.Pass ⟨0,0,0,0⟩
def zt7(s:dI):Arguments:=match s with
|.FunctionDef _ a _ _ _ _ _ _ _ _=>a
|_=>{ posonlyargs:=[],args:=[],vararg:=none,kwonlyargs:=[],kw_defaults:=[],kwarg:=none,defaults:=[] }
def zw2(s:dI):List Stmt:=match s with
|.FunctionDef _ _ b _ _ _ _ _ _ _=>b
|_=>[]
def zh0(s:dI):Scope:=match s with
|.FunctionDef _ _ _ _ _ _ sc _ _ _=>sc
|_=>{ kind:=.function,names:=[],isGenerator:=false,isCoroutine:=false }
abbrev CX0:CXT:=λ_ _ _ _ _ _=>False
abbrev E0:XK:=λ_ _ _=>False
theorem zp21{X:Cx}:zci CX0 X E0:=λ_ _ _ _ _ _ _ h=>h.elim
structure Fun(K:Fg)(x qual:Str)(st:dI)(f:aE)(fd:cZ):Prop where
 ex:∃(oc:aC)(od:Option aE)(kV doc pm:aC)(an:Option aE)(cdv ct:aC)(osl:Array (Option aC)),
  fd=bX x qual (zt7 st) (zw2 st) (zh0 st) .none kV doc pm an cdv ct/\K.lookup f=some ⟨oc,od,.func fd,osl⟩/\cY K cdv qual=true
 kp:bP K (.ref f)=true
section
variable {P:aQ}{w:aR}{K:Fg}{mg:Str->Option aC}{base:aX}
theorem Fun.ok{N:List Str}{k:Nat}(F:Fun K x qual st f fd)(S:FnScope N ps (zh0 st))(len:∀vs H Q E,sp vs H Q E->vs.length=ps.length)
  (b:∀(cdv:aC)(A:bB)(outer:List Env)(s:aH)(H:Hp)(vs:List V)(Q:VK)(E:XK),Room k (A.deeper (dJ qual (zh0 st) s.heap.objs.size f cdv))->sp vs H Q E ->
   ∃t,PSs (cxOf CX0 P w K mg base N qual (zh0 st) f cdv A outer s H E).nox (zw2 st) t/\t { nx:=λ_ H'=>Q .non H',rt:=Q } (start N vs) H):FnOk P w K mg base CX0 (k+1) f fd ps sp:=by
 obtain⟨u,p,kV,n,o,y,cdv,ct,m,rfl,lk,i⟩:=F.ex;refine zye1 lk i S len λA outer s H vs Q E hr g=>?_;obtain⟨t,h,q⟩:=b cdv A outer s H vs Q E hr g;exact⟨t,h.nox,q⟩
theorem Fun.binds(F:Fun K x qual st f fd)
  (h:∀(kV b g:aC)(i:Option aE)(cdv ct:aC)(us:List aC),us.length=ps.length->iJ (bX x qual (zt7 st) (zw2 st) (zh0 st) .none kV b g i cdv ct) ⟨us,[]⟩=pure (ps.zip us)):Binds K fd ps []:=by
 obtain⟨p,o,kV,b,g,i,cdv,ct,m,rfl,lk,n⟩:=F.ex;exact .all (h kV b g i cdv ct)
theorem za81{o:aC}{n m:Option aE}{g:Array (Option aC)}{kV b i cdv ct:aC}(l:K.lookup f=some ⟨o,n,.func (bX x qual (zt7 st) (zw2 st) (zh0 st) .none kV b i m cdv ct),g⟩)
  (c:cY K cdv qual=true) (k:bP K (.ref f)=true):Fun K x qual st f (bX x qual (zt7 st) (zw2 st) (zh0 st) .none kV b i m cdv ct):=⟨⟨o,n,kV,b,i,m,cdv,ct,g,rfl,l,c⟩,k⟩
end
section
variable {X:Cx}
theorem pv(i:Nat){pos:Pos}(m:X.N[i]?=some x:=by rfl)(g:Vis X.env.scope x:=by first|exact xW rfl|exact xP (xW rfl)|exact xP (xP rfl))(hd:(x == ("__debug__":Str))=false:=by decide)
  (b:(x == ("__classdict__":Str))=false:=by decide):PE X (.Name x pos) (tVar i):=zi91 m g hd b
end
def Same(H H':Hp):Prop:=∀b o,H b=some o->H' b=some o
theorem Same.trans{H g H2:Hp}(a:Same H g)(b:Same g H2):Same H H2:=λc o h=>b c o (a c o h)
theorem Same.seq{H H':Hp}{xs:List V}(e:Same H H')(h:SqL K H a xs):SqL K H' a xs:=by
 rcases h with(h|⟨o,h⟩)|h
 ·exact .inl (.inl (e _ _ h))
 ·exact .inl (.inr ⟨o,e _ _ h⟩)
 ·exact .inr h
inductive E2{α0 α1:Type}(p:α0->α1->Prop):Prop
|mk (x0:α0) (x1:α1) (h:p x0 x1)
inductive E3{α0 α1 α2:Type}(p:α0->α1->α2->Prop):Prop
|mk (x0:α0) (x1:α1) (x2:α2) (h:p x0 x1 x2)
inductive E4{α0 α1 α2 α3:Type}(p:α0->α1->α2->α3->Prop):Prop
|mk (x0:α0) (x1:α1) (x2:α2) (x3:α3) (h:p x0 x1 x2 x3)
inductive E5{α0 α1 α2 α3 α4:Type}(p:α0->α1->α2->α3->α4->Prop):Prop
|mk (x0:α0) (x1:α1) (x2:α2) (x3:α3) (x4:α4) (h:p x0 x1 x2 x3 x4)
inductive E6{α0 α1 α2 α3 α4 α5:Type}(p:α0->α1->α2->α3->α4->α5->Prop):Prop
|mk (x0:α0) (x1:α1) (x2:α2) (x3:α3) (x4:α4) (x5:α5) (h:p x0 x1 x2 x3 x4 x5)
inductive E7{α0 α1 α2 α3 α4 α5 α6:Type}(p:α0->α1->α2->α3->α4->α5->α6->Prop):Prop
|mk (x0:α0) (x1:α1) (x2:α2) (x3:α3) (x4:α4) (x5:α5) (x6:α6) (h:p x0 x1 x2 x3 x4 x5 x6)
inductive E9{α0 α1 α2 α3 α4 α5 α6 α7 α8:Type}(p:α0->α1->α2->α3->α4->α5->α6->α7->α8->Prop):Prop
|mk (x0:α0) (x1:α1) (x2:α2) (x3:α3) (x4:α4) (x5:α5) (x6:α6) (x7:α7) (x8:α8) (h:p x0 x1 x2 x3 x4 x5 x6 x7 x8)
inductive A3(p0 p1 p2:Prop):Prop
|mk (h0:p0) (h1:p1) (h2:p2)
inductive A4(p0 p1 p2 p3:Prop):Prop
|mk (h0:p0) (h1:p1) (h2:p2) (h3:p3)
inductive A5(p0 p1 p2 p3 p4:Prop):Prop
|mk (h0:p0) (h1:p1) (h2:p2) (h3:p3) (h4:p4)
inductive A6(p0 p1 p2 p3 p4 p5:Prop):Prop
|mk (h0:p0) (h1:p1) (h2:p2) (h3:p3) (h4:p4) (h5:p5)
inductive A7(p0 p1 p2 p3 p4 p5 p6:Prop):Prop
|mk (h0:p0) (h1:p1) (h2:p2) (h3:p3) (h4:p4) (h5:p5) (h6:p6)
inductive A8(p0 p1 p2 p3 p4 p5 p6 p7:Prop):Prop
|mk (h0:p0) (h1:p1) (h2:p2) (h3:p3) (h4:p4) (h5:p5) (h6:p6) (h7:p7)
inductive A10(p0 p1 p2 p3 p4 p5 p6 p7 p8 p9:Prop):Prop
|mk (h0:p0) (h1:p1) (h2:p2) (h3:p3) (h4:p4) (h5:p5) (h6:p6) (h7:p7) (h8:p8) (h9:p9)
inductive A11(p0 p1 p2 p3 p4 p5 p6 p7 p8 p9 p10:Prop):Prop
|mk (h0:p0) (h1:p1) (h2:p2) (h3:p3) (h4:p4) (h5:p5) (h6:p6) (h7:p7) (h8:p8) (h9:p9) (h10:p10)
end _2
namespace _3
open PySem PySem.Spec PyProof.Rows _2
variable {C f:aE}{K:Fg}{N ps:List Str}{X:Cx}{a:aZ}{an od:Option aE}{cdv ct doc oc pm:aC}{env:Env}{es:List aZ}{fp:List aE}{m qual x:Str}{mg:Str->Option aC}{osl:Array (Option aC)}{pos:Pos}{scope:d7}{sp:Sp}{st:dI}{ta:TE}
abbrev St:=_2.St
def zc5(env:Env):List (Str×bV)->List (Str×aE)->List (Str×aE)
|[],cs=>cs
|(n,k) :: r,cs=>zc5 env r (if k == .free then(match env.cells.lookup n with|some c=>(n,c) :: cs|none=>cs)else cs)
theorem zfb{env:Env}:∀(names:List (Str×bV))(cs:List (Str×aE)),(∀y∈names,y.2=.free->∃c,env.cells.lookup y.1=some c) ->
  (forIn names cs (λ(x:Str×bV)(r:List (Str×aE))=>(match x with|(name,kind)=>if kind == .free then do let c <- cellOf env name;pure (ForInStep.yield ((name,c) :: r))else pure (ForInStep.yield r):Sem (ForInStep (List (Str×aE))))):Sem (List (Str×aE)))=pure (zc5 env names cs)
|[],cs,_=>rfl
|(n,k) :: r,cs,h=>by
  rw[uaE];by_cases i:k=.free
  ·subst i;obtain⟨c,p⟩:=h (n,.free) wJ rfl;have b:env.cells.lookup n=some c:=p;have q:cellOf env n=pure c:=by unfold cellOf;rw[b]
   simp only[beq_self_eq_true,if_true,q];have:=zfb r ((n,c) :: cs) λy g=>h y (wA _ g);unfold zc5;simp only[beq_self_eq_true,if_true,b];exact this
  ·have o:(k == bQ)=false:=by simpa using i
   simp only[o,yA,if_false];have:=zfb r cs λy g=>h y (wA _ g);unfold zc5;simp only[o,yA,if_false];exact this
theorem zpe(h:∀y∈scope.names,y.2=.free->∃c,env.cells.lookup y.1=some c):closureFor scope env=pure (zc5 env scope.names []):=by
 unfold closureFor;show(forIn scope.names [] _ >>= λcs=>pure cs)=_;rw[zfb scope.names [] h];rfl
theorem zke{env:Env}{x:Str}{c:aE}:∀(names:List (Str×bV))(cs:List (Str×aE)),(∀x c,cs.lookup x=some c->env.cells.lookup x=some c)->(zc5 env names cs).lookup x=some c->env.cells.lookup x=some c
|[],cs,h,e=>h x c e
|(n,k) :: r,cs,h,e=>by
  unfold zc5 at e;refine zke r _ (λy d q=>?_) e;split at q
  ·split at q
   ·rename_i i b
    rw[wC]at q;split at q
    ·rename_i g
     cases q;rw[beq_iff_eq.mp g];exact b
    ·exact h y d q
   ·exact h y d q
  ·exact h y d q
theorem zwc{env:Env}{x:Str}:∀(names:List (Str×bV))(cs:List (Str×aE)),(∃c,cs.lookup x=some c)->∃c,(zc5 env names cs).lookup x=some c
|[],cs,h=>h
|(n,k) :: r,cs,⟨c,h⟩=>by
  unfold zc5;refine zwc r _ ?_;split
  ·split
   ·rename_i g b
    rw[wC];split
    ·exact⟨_,rfl⟩
    ·exact⟨c,h⟩
   ·exact⟨c,h⟩
  ·exact⟨c,h⟩
theorem zya{env:Env}{x:Str}:∀(names:List (Str×bV))(cs:List (Str×aE)),(x,bQ)∈names->(∃c,env.cells.lookup x=some c)->∃c,(zc5 env names cs).lookup x=some c
|[],cs,h,_=>nomatch h
|(n,k) :: r,cs,h,⟨c,b⟩=>by
  rcases vR.mp h with e|h
  ·cases e;unfold zc5;simp only[beq_self_eq_true,if_true,b];exact zwc r _ ⟨c,by simp[wC]⟩
  ·unfold zc5;exact zya r _ h ⟨c,b⟩
theorem zkc{env:Env}{x:Str}{c:aE}:∀(names:List (Str×bV))(cs:List (Str×aE)),(zc5 env names cs).lookup x=some c->(x,bQ)∈names \/ cs.lookup x=some c
|[],cs,e=>.inr e
|(n,k) :: r,cs,e=>by
  unfold zc5 at e;rcases zkc r _ e with q|q
  ·exact .inl (wA _ q)
  ·split at q
   ·rename_i g
    split at q
    ·rw[wC]at q;split at q
     ·rename_i b
      rw[beq_iff_eq.mp b,<- beq_iff_eq.mp g];exact .inl wJ
     ·exact .inr q
    ·exact .inr q
   ·exact .inr q
theorem zm31{x:Str}{c:aE}:∀(names:List (Str×bV))(n:Nat)(acc:List (Str×aE)),(b8 n names acc).lookup x=some c->acc.lookup x=some c \/ ((x,cP)∈names/\n<=c)
|[],_,_,e=>.inl e
|(y,k) :: r,n,acc,e=>by
  unfold b8 at e;split at e
  ·rename_i g
   rcases zm31 r (n+1) _ e with q|q
   ·rw[wC]at q;split at q
    ·rename_i b
     cases q;rw[beq_iff_eq.mp b,<- beq_iff_eq.mp g];exact .inr ⟨wJ,u7 _⟩
    ·exact .inl q
   ·exact .inr ⟨wA _ q.1,zK q.2⟩
  ·rcases zm31 r n _ e with q|q
   ·exact .inl q
   ·exact .inr ⟨wA _ q.1,q.2⟩
theorem zz01{x:Str}:∀(names:List (Str×bV))(n:Nat)(acc:List (Str×aE)),(x,cP) ∉ names->(b8 n names acc).lookup x=acc.lookup x
|[],_,_,_=>rfl
|(y,k) :: r,n,acc,h=>by
  unfold b8;split
  ·rename_i b
   rw[zz01 r _ _ λz=>h (wA _ z),wC];have:(x == y)=false:=by
    refine beq_eq_false_iff_ne.mpr λe=>h ?_;rw[e,<- beq_iff_eq.mp b];exact wJ
   rw[this]
  ·exact zz01 r _ _ λz=>h (wA _ z)
theorem zpz:∀(names:List (Str×bV))(n:Nat)(acc:List (Str×aE)),(∀x c,acc.lookup x=some c->c < n)->(∀x y c,acc.lookup x=some c->acc.lookup y=some c->x=y) ->
  ∀x y c,(b8 n names acc).lookup x=some c->(b8 n names acc).lookup y=some c->x=y
|[],_,_,_,h=>h
|(z,k) :: r,n,acc,o,h=>by
  unfold b8;split
  ·refine zpz r (n+1) _ (λx c e=>?_) λx y c i g=>?_
   ·rw[wC]at e;split at e
    ·cases e;exact zR _
    ·exact zW (o x c e)
   ·rw[wC]at i g;by_cases a:(x == z)=true <;> by_cases b:(y == z)=true
    ·rw[beq_iff_eq.mp a,beq_iff_eq.mp b]
    ·rw[a]at i;rw[uaF]at b;rw[b]at g;cases i;exact aN (o _ _ g) (xE _)
    ·rw[b]at g;rw[uaF]at a;rw[a]at i;cases g;exact aN (o _ _ i) (xE _)
    ·rw[uaF]at a b;rw[a]at i;rw[b]at g;exact h x y c i g
  ·exact zpz r n acc o h
theorem zrm:∀(names:List (Str×bV))(h:aX)(acc:List (Str×aE)),(∀x c,acc.lookup x=some c->∃v,h.IsCell c v) ->
  ∀x c,(b8 h.objs.size names acc).lookup x=some c->∃v,(gB h names).IsCell c v
|[],_,_,p=>p
|(y,k) :: r,h,acc,p=>by
  unfold b8 gB;split
  ·have q:=zrm r (h.push { cls:=.type "cell",data:=.cell none }) ((y,h.objs.size) :: acc) (by
    intro x c e;rw[wC]at e;split at e
    ·cases e;exact⟨none,_,wB _ rfl,rfl⟩
    ·obtain⟨v,z⟩:=p x c e;exact⟨v,z.keeps λb o e=>vS _ e⟩)
   rwa [xU]at q
  ·exact zrm r h acc p
theorem zzg{x:Str}{k g:bV}:∀{names:List (Str×bV)},(names.map (·.1)).Nodup->(x,k)∈names->(x,g)∈names->k=g
|(y,j) :: r,h,a,b=>by
  obtain⟨i,q⟩:=v9.mp h;rcases vR.mp a with e|p <;> rcases vR.mp b with n|o
  ·cases e;cases n;rfl
  ·cases e;exact(i (vQ.mpr ⟨_,o,rfl⟩)).elim
  ·cases n;exact(i (vQ.mpr ⟨_,p,rfl⟩)).elim
  ·exact zzg q p o
theorem zag{M:Model}{A:bB}{E:aC->aH->Prop}{s:aH}{globals:aE}{cl:List (Str×aE)}{qual:Str}{env:Env}{Q:Env->aH->Prop}
  (h:Q { scope,locals:=s.heap.objs.size,globals,cells:=b8 (s.heap.objs.size+1) scope.names cl,qual,func:=none,code:=env.code,frame:=env.frame,builtins:=env.builtins } { s with heap:=gB (s.heap.push { cls:=.type "dict",data:=.dict #[] }) scope.names }) :
  aL M A (gI scope globals cl [] qual none .none (some env)) Q E s:=by
 simp only[gI,ua6,if_true];refine aG (wpAny_alloc ?_);refine aG (wpAny_layCells _ (λname kind cells=>by cases hkc:kind == cP <;> simp[hkc]) _ _ _ _ ?_);rw[show({ s with heap:=s.heap.push { cls:=.type "dict",data:=.dict #[] } }:aH).heap.objs.size=s.heap.objs.size+1 from xU ..];rw[uaG];exact aG (aP (aP h))
section
variable {prog:aQ}{w:aR}{A:bB}{R:iS->aH->Prop}{s:aH}
theorem zch{i b iter:aZ}{g:List aZ}{it acc:aC}(I:Nat->aH->Prop)
  (o:∀n s,I n s->aL (aM prog w) A (gG it) (λr s₁=>match r with
  |none=>R (.ok .next) s₁
  |some v=>aL (aM prog w) A (eQ b it v) (λ_ s₁'=>aL (aM prog w) A (fG b env v) (λ_ s₂ =>
     aL (aM prog w) A (forIn g true λc r=>if r=true then do let ok <- gZ c env (bD c env);pure (ForInStep.yield ok)else pure (ForInStep.yield r)) (λok s₃ =>
      if ok=true then aL (aM prog w) A (bD i env) (λx s₄ =>
       aL (aM prog w) A (call (.builtin "list.append") [acc,x]) (λ_ s₅=>∃m,m < n/\I m s₅) (gH (aM prog w) A env λe s'=>R (.error e) s') s₄) (gH (aM prog w) A env λe s'=>R (.error e) s') s₃
      else ∃m,m < n/\I m s₃) (gH (aM prog w) A env λe s'=>R (.error e) s') s₂) (gH (aM prog w) A env λe s'=>R (.error e) s') s₁') (gH (aM prog w) A env λe s'=>R (.error e) s') s₁) (gH (aM prog w) A env λe s'=>R (.error e) s') s)
  (n:Nat) (h:I n s) :
  dZ (aM prog w) A (.compLoop (.ListComp i [⟨b,iter,g,0⟩] scope pos) 0 it acc env) R s:=by
 refine codeAny_loop rfl I (λn s p=>?_) n h;show aL _ A ((compTurn (.ListComp i [⟨b,iter,g,0⟩] scope pos) 0 it acc env).onRaise (λx=>do noteFrame x env;theTreesLotGoes x)) _ _ s;refine wpAny_noted ?_;rw[compTurn_list];refine aG (gU (aG (cA (o n s p) (λr s₁ h₁=>?_) λ_ _ h'=>h')));cases r with
|none=>exact aP h₁
|some v =>
  refine aG (cA h₁ (λ_ s₁' h₁'=>?_) λ_ _ h'=>h');refine aG (cA h₁' (λ_ s₂ h₂=>aG (cA h₂ (λok s₃ h₃=>?_) λ_ _ h'=>h')) λ_ _ h'=>h');cases ok with
 |false=>exact aP ⟨rfl,h₃⟩
 |true =>
   exact aG (aG (cA h₃ (λx s₄ h₄=>aG (cA h₄ (λ_ s₅ h₅=>aP (aP ⟨rfl,h₅⟩)) λ_ _ h'=>h')) λ_ _ h'=>h'))
end
abbrev ztt(X:Cx)(scope:d7)(C:aE):List (Str×aE):=b8 (C+1) scope.names (zc5 X.env scope.names [])
def zl6(X:Cx)(scope:d7)(N:List Str)(s₀:aH)(H₀:Hp)(C:aE)(fp:List aE):Cx where
 prog:=X.prog
 w:=X.w
 K:=X.K
 mg:=X.mg
 base:=X.base
 A:=X.A
 N:=N
 s₀:=s₀
 H₀:=H₀
 env:=compEnvC scope (ztt X scope C) C X.env
 outer:=X.stack
 stack:=X.stack
 ex:=fp
 fn:=λx=>decide (scope.names.lookup x=some .cell)
 calm:=X.calm
 pn:=[]
 xe:=λ_ _=>False
def zme(N:List Str)(own:List Str)(ix:List Nat):List Str:=own++ix.map λi=>N.getD i ""
def compY(n:Nat)(ix:List Nat)(Y:St):St:=vU n none++ix.map λi=>Y.getD i none
structure CompSc(sc:d7)(N own:List Str)(ix:List Nat)(scope:d7):Prop where
 kind:scope.kind=.function
 cell:(scope.names.map (·.1)).Nodup
 names:∀y∈scope.names,y.2=.local->scope.names.lookup y.1=some .local
 free:∀y∈scope.names,y.2=.free->sc.names.lookup y.1=some .cell \/ sc.names.lookup y.1=some .free
 caps:∀i∈ix,i < N.length/\scope.names.lookup (N.getD i "")≠some .local/\scope.names.lookup (N.getD i "")≠some .cell
theorem zwb{env : Env}{x : Str} : ∀(names : List (Str × bV)),
    ((names.map fun (n, k) => if(k == bQ && env.scope.kind == .function && env.kindOf n == some .cell)then(n, cP)else(n, k)).lookup x = some .cell ∨
     (names.map fun (n, k) => if(k == bQ && env.scope.kind == .function && env.kindOf n == some .cell)then(n, cP)else(n, k)).lookup x = some .free) → names.lookup x = some .free ∨ names.lookup x = some .cell
  | [], h => by rcases h with h | h <;> cases h
  | (n, k) :: r, h => by
    have o := zwb (env := env) (x := x) r;rw[v4]at h;by_cases i : (x == n) = true
    · rw[wC, i];dsimp only at h ⊢;by_cases b : (k == bQ && env.scope.kind == .function && env.kindOf n == some .cell) = true
      · have : k = .free := by
          have := (ua7.mp (ua7.mp b).1).1;exact beq_iff_eq.mp this
        rw[this]; exact .inl rfl
      · rw[aA b, wC, i]at h;exact h.symm
    · have g : (x == n) = false := by simpa using i
      rw[wC, g];refine o ?_;by_cases b : (k == bQ && env.scope.kind == .function && env.kindOf n == some .cell) = true
      · simp only[b, if_true]at h;rw[wC, g]at h;exact h
      · simp only[b, yA, if_false]at h;rw[wC, g]at h;exact h
section
variable {X:Cx}{pins:List (aE×Obj)}{Y:St}{H H':Hp}{s:aH}
theorem zaz{own:List Str}{ix:List Nat}{h₁:aX}{m:Str->Option aC}{t':Nat}(I:Inv X pins Y H s)(S:CompSc X.env.scope X.N own ix scope)
  (hns:h₁.Ns s.heap.objs.size m) (kc:∀x c,(ztt X scope s.heap.objs.size).lookup x=some c->∃v,h₁.IsCell c v) (k:∀b o,s.heap.get? b=some o->h₁.get? b=some o) (hf:∀b∈fp,FpOk X pins H b) (hfo:∀b∈fp,b < s.heap.objs.size) :
  Inv (zl6 X scope (zme X.N own ix) s H s.heap.objs.size fp) [] (compY own.length ix Y) H { s with heap:=h₁,toks:=t' }:=by
 have J:∀x c,(zc5 X.env scope.names []).lookup x=some c->X.env.cells.lookup x=some c:=λx c e=>zke scope.names [] (λ_ _ q=>by cases q) e;have W:∀x c,(ztt X scope s.heap.objs.size).lookup x=some c->X.env.cells.lookup x=some c \/ s.heap.objs.size+1<=c:=λx c e=>(zm31 _ _ _ e).imp (J x c) And.right;have L:∀x,((eX scope X.env).names.lookup x=some .cell \/ (eX scope X.env).names.lookup x=some .free)->scope.names.lookup x=some .free \/ scope.names.lookup x=some .cell:=λx hx=>zwb scope.names hx;have hX:∀x,scope.names.lookup x=some .free->X.env.kindOf x=some .cell \/ X.env.kindOf x=some .free:=λx hx=>S.free (x,.free) (bO hx) rfl;refine⟨⟨I.ok.mod,S.kind,I.ok.glob,I.ok.blt,u7 _,zpz _ _ _ (λx c e=>?_) (λx y c e1 e2=>I.ok.inj x y c (J x c e1) (J y c e2)),λx hx=>?_,λx c z e=>?_,I.ok.hd,I.ok.frames,.inl rfl,λb U=>?_,I.bs,wL I.ok.bsz I.sz,λb o e U=>?_,λb U M=>?_,I.stack,I.stkFree⟩,
  rfl,I.bare,Un.kept k,⟨m,hns,λi x v e1 e2 e3=>?_⟩,kc,I.hok.fresh (u7 _),λx c e=>(W x c e).elim (I.freeC x c) (λz=>I.hok.fresh (zK z)),λp hp=>aN (show p∈([]:List (aE×Obj))from hp) (by simp),I.hok.kept k,?_⟩
 ·obtain⟨v,z⟩:=I.cell x c (J x c e);exact zW z.lt
 ·refine xO.mp (d6 _ _ _ ?_);rcases L x hx with O|O
  ·exact .inr (xO.mpr (zya scope.names [] (bO O) (I.ok.has x (hX x O))))
  ·exact .inl O
 ·rcases zm31 _ _ _ e with q|q
  ·rcases zkc _ _ q with q|q
   ·have:=zzg S.cell (bO (cS z)) q;cases this
   ·cases q
  ·exact zK q.2
 ·exact⟨wP (hfo b U),λx c e=>(W x c e).elim ((hf b U).2.2.2.2.1 x c) λz e2=>aN (wZ (hfo b U) (zK (e2 ▸ z))) (xE _)⟩
 ·rcases(hf b U).2.2.2.1 with z|z
  ·exact I.ok.noex b o e z
  ·exact aN (wZ (vY e) (wL I.ok.bsz z)) (xE _)
 ·rcases vR.mp (I.stkSub b M)with z|z
  ·exact(hf b U).2.1 z
  ·exact(hf b U).2.2.1 z
 ·-- a captured name
  have w:(vU own.length (none:Option V)++ix.map λi=>Y.getD i none)[i]?=some (some v):=e2;have e1':(own++ix.map λi=>X.N.getD i "")[i]?=some x:=e1;by_cases hi:i < own.length
  ·rw[wU (by simpa using hi),xH]at w;split at w <;> cases w
  ·have hi':own.length<=i:=zV hi;rw[wR (by simpa using hi'),yQ,u9]at w;rw[wR hi',u9]at e1';cases hq:ix[i - own.length]? with
  |none=>rw[hq]at w;cases w
  |some q =>
    rw[hq]at e1' w;have ex:X.N.getD q ""=x:=wY.inj e1';have ev:Y.getD q none=some v:=wY.inj w;obtain⟨hql,G⟩:=S.caps q (wK hq);rw[ex]at G;have hnc:=G.2
    replace G:=G.1
    have e3':(eX scope X.env).names.lookup x=some .local \/ (eX scope X.env).names.lookup x=some .cell \/ (eX scope X.env).names.lookup x=some .free:=e3;have hcf:(eX scope X.env).names.lookup x=some .cell \/ (eX scope X.env).names.lookup x=some .free:=by
     rcases e3' with z|z
     ·exfalso;cases M:scope.names.lookup x with
     |none =>
       have:∀(names:List (Str×bV)),names.lookup x=none->(names.map λ(n,k)=>if(k == bQ && X.env.scope.kind == .function && X.env.kindOf n == some .cell)then(n,cP)else(n,k)).lookup x=none:=by
        intro names
        induction names with
       |nil=>intro _;rfl
       |cons y r ih =>
         obtain⟨n,kk⟩:=y;intro E;rw[wC]at E;by_cases A:(x == n)=true
         ·rw[A]at E;cases E
         ·have B:(x == n)=false:=by simpa using A
          rw[B]at E;rw[v4];by_cases g:(kk == bQ && X.env.scope.kind == .function && X.env.kindOf n == some .cell)=true
          ·simp only[g,if_true];rw[wC,B];exact ih E
          ·simp only[g,yA,if_false];rw[wC,B];exact ih E
       have q0:=this scope.names M;have z':(scope.names.map λ(n,k)=>if(k == bQ && X.env.scope.kind == .function && X.env.kindOf n == some .cell)then(n,cP)else(n,k)).lookup x=some .local:=z;rw[q0]at z';cases z'
     |some kk =>
       have:∀(names:List (Str×bV)),names.lookup x=some kk->(names.map λ(n,k)=>if(k == bQ && X.env.scope.kind == .function && X.env.kindOf n == some .cell)then(n,cP)else(n,k)).lookup x=some .local->kk=.local:=by
        intro names
        induction names with
       |nil=>intro h;cases h
       |cons y r ih =>
         obtain⟨n,k2⟩:=y;intro E hz;rw[wC]at E;rw[v4]at hz;by_cases A:(x == n)=true
         ·rw[A]at E;have hk2:k2=kk:=wY.inj E;by_cases g:(k2 == bQ && X.env.scope.kind == .function && X.env.kindOf n == some .cell)=true
          ·simp only[g,if_true]at hz;rw[wC,A]at hz;cases hz
          ·simp only[g,yA,if_false]at hz;rw[wC,A]at hz;rw[<- hk2];exact wY.inj hz
         ·have B:(x == n)=false:=by simpa using A
          rw[B]at E;by_cases g:(k2 == bQ && X.env.scope.kind == .function && X.env.kindOf n == some .cell)=true
          ·simp only[g,if_true]at hz;rw[wC,B]at hz;exact ih E hz
          ·simp only[g,yA,if_false]at hz;rw[wC,B]at hz;exact ih E hz
       have:=this scope.names M z;rw[this]at M;exact G M
     ·exact z
    have Z:=(L x hcf).resolve_right hnc;have hkX:=hX x Z;obtain⟨mX,hnX,hlX⟩:=I.loc;have eN:X.N[q]?=some x:=by
     rw[<- ex,wD];rw[u5 hql];rfl
    have eY:Y[q]?=some (some v):=by
     rw[wD]at ev;cases M:Y[q]? with
    |none=>rw[M]at ev;cases ev
    |some o=>rw[M]at ev;exact congrArg some ev
    obtain⟨u,r,l⟩:=hlX q x v eN eY (.inr hkX);refine⟨u,r,.inr ⟨hcf,?_⟩⟩;rcases l with⟨hk,_⟩|⟨_,c,ec,hcell⟩
    ·exfalso;rcases hkX with z|z
     ·rw[hk]at z;cases z
     ·rw[hk]at z;cases z
    ·obtain⟨c',ec'⟩:=zya scope.names [] (bO Z) ⟨c,ec⟩;have:=J x c' ec';rw[ec]at this;cases this;exact⟨c,(zz01 _ _ _ λz=>by cases zzg S.cell z (bO Z)).trans ec',hcell.keeps k⟩
 ·show(compY own.length ix Y).length=(zme X.N own ix).length;unfold compY zme;simp
theorem zlp{p:List (aE×Obj)}{M:St}{s':aH}{i:aX}(I:Inv X pins Y H s)(A:∀b∈fp,FpOk X pins H b)
  (y:Inv (zl6 X scope N s H s.heap.objs.size fp) p M H' s') (G:bM s.heap.objs.size s'.heap i):Inv X pins Y H' { s' with heap:=i }:=by
 have ext:∀b o,b≠s.heap.objs.size->s'.heap.get? b=some o->i.get? b=some o:=λb o nb e=>by rw[G.2 b nb];exact e
 have old:∀b o,s.heap.get? b=some o->b≠s.heap.objs.size:=λb o e=>wP (vY e);have u:=y.base;refine I.call' (ch:=fp) y.os ⟨λb o e n g w=>ext b o (old b o e) (u.keep b o e n g w),λb o e n g w=>?_,u.free,λb o e w=>?_,u.tups,u.frzs,u.tbls⟩ (λb ob e=>?_) y.bare λb g=>⟨(A b g).2.2.2.1,(A b g).2.1,(A b g).2.2.2.2.1,(A b g).2.2.2.2.2⟩
 ·obtain⟨sl,q⟩:=u.slot b o e n g w;exact⟨sl,ext b _ (old b o e) q⟩
 ·obtain⟨J,q⟩:=u.there b o e w;exact⟨J,ext b _ (old b o e) q⟩
 ·have B:∀c v,H' c=some v->c≠s.heap.objs.size:=λc v q z=>by
   have:=y.free;rw[z]at q;have E:H' s.heap.objs.size=none:=this;rw[E]at q;cases q
  refine(y.hok b ob e).stay (λc v L q=>ext c v ?_ q) (λ_ q=>q) λ_ _ q=>q;rcases L with z|z
  ·rw[z];exact B b ob e
  ·exact B c _ z
end
def zre1(n:Nat)(ix:List Nat)(g:TG)(A:TT)(B:TE)(Y:St)(J:It)(z:Hp)(Q:VK):Prop:=∀D,z D=none->∃W:Nat->Nat->List V->St->Hp->Prop,(∃m,W 0 m [] (compY n ix Y) (upd z D (.lst []))) /\
 ∀i m acc s H',W i m acc s H'->(J.stop i H'/\Q (.ref D) H') \/ (J.go i H'/\∃N:List V->St->Hp->Prop,(∀o p H2,N o p H2->∃q,q < m/\W (i+1) q o p H2) /\
  ∀x H2,J.yld i H' x H2->g x s H2 λp E=>A p E λb w=>if b=true then B p w λy u=>u D=some (.lst acc)/\acc.length < sizeLine/\N (acc++[y]) p (upd u D (.lst (acc++[y])))else N acc p w)
def zy81(b:TI)(n:Nat)(ix:List Nat)(g:TG)(i:TT)(o:TE):TE:=λY H Q=>b Y H λJ p=>zre1 n ix g i o Y J p Q
def zlb1:TT:=λ_ H Q=>Q true H
def PIf(X:Cx)(g:List aZ)(t:TT):Prop :=
 ∀(b:List (aE×Obj))(s:aH)(Y:St)(H:Hp)(Q:Bool->Hp->Prop),Inv X b Y H s->t Y H Q ->
  aL (aM X.prog X.w) X.A (forIn g true λc r=>if r=true then do let ok <- gZ c X.env (bD c X.env);pure (ForInStep.yield ok)else pure (ForInStep.yield r)) (TP X b Y Q) X.xe s
theorem zy4:PIf X [] zlb1:=λb s Y H Q I h=>wpAny_tests_nil ⟨H,I,h⟩
theorem zwe{c:aZ}{t:TT}(h:PT X c t):PIf X [c] t:=λb s Y H Q I q=>wpAny_tests_one (h b s Y H Q I q)
section
variable {X:Cx}{tg iter elt:aZ}{ifs:List aZ}{scope:d7}{pos:Pos}{own:List Str}{ix:List Nat}{wi:TI}{g:TG}{tt:TT}{te:TE}{sc:d7}{N:List Str}
theorem zlf{G:List (aE×Obj)}{Y:St}{s2:aH}{itv:aC}{Q:VK}{RR:aC->aE->iS->aH->Prop}{E:aC->aH->Prop}(hc:X.calm=true)(S:CompSc X.env.scope X.N own ix scope)
  (hb:∀s₀ H₀ C fp,PG (zl6 X scope (zme X.N own ix) s₀ H₀ C fp) tg g/\PIf (zl6 X scope (zme X.N own ix) s₀ H₀ C fp) ifs tt/\PE (zl6 X scope (zme X.N own ix) s₀ H₀ C fp) elt te)
  (h2:PIE X G Y tg (λJ L=>zre1 own.length ix g tt te Y J L Q) itv s2)
  (hR:∀(D C:aE)(m:Str->Option aC)(s':aH)(H':Hp),s'.heap.Ns C m->C≠X.env.locals->(∀x c,X.env.cells.lookup x=some c->c≠C)->H' C=none->(X.s₀.heap.objs.size<=C)->(∀p∈X.pn++G,p.1≠C) ->
   (∀h'',bM C s'.heap h''->Inv X G Y H' { s' with heap:=h'' })->Q (.ref D) H'->RR (.ref D) C (.ok .next) s') :
  aL (aM X.prog X.w) X.A (newList []) (λacc s₃=>aL (aM X.prog X.w) X.A (gI scope X.env.globals (zc5 X.env scope.names []) [] X.env.qual none .none (some X.env)) (λZ s₄ =>
   dZ (aM X.prog X.w) X.A (.compStart (.ListComp elt [⟨tg,iter,ifs,0⟩] scope pos) 0 itv acc { Z with scope:=eX scope X.env }) (RR acc Z.locals) s₄) E s₃) E s2:=by
 obtain⟨it,fp,tn,J,L,e,I2,T,st2,f2,h⟩:=h2;subst e;have hD:L s2.heap.objs.size=none:=I2.hok.fresh (u7 _);obtain⟨W,⟨m0,w0⟩,turn⟩:=h _ hD;have hlt:∀b∈fp,b < s2.heap.objs.size:=λb B=>by obtain⟨o,e,_⟩:=T.obj 0 _ st2 b B;exact vY e
 refine cG ?_
 -- the new list is tracked
 have O:Inv X G Y (upd L s2.heap.objs.size (.lst [])) { s2 with heap:=s2.heap.push { cls:=.type "list",dict:=none,data:=.seq ([]:List aC).toArray } }:=I2.lnew (ys:=[]) (its:=[]) .nil (wH _);generalize hs3:({ s2 with heap:=s2.heap.push { cls:=.type "list",dict:=none,data:=.seq ([]:List aC).toArray } }:aH)=s3 at O ⊢;have hsz:s3.heap.objs.size=s2.heap.objs.size+1:=by rw[<- hs3];exact xU ..
 have k3:∀b o,s2.heap.get? b=some o->s3.heap.get? b=some o:=λb o e=>by rw[<- hs3];exact vS _ e
 have neD:∀b∈fp,b≠s2.heap.objs.size:=λb B=>wP (hlt b B);have f3:∀b∈fp,FpOk X G (upd L s2.heap.objs.size (.lst [])) b:=λb B=>⟨by rw[zb1 (neD b B)];exact(f2 b B).1,(f2 b B).2⟩
 have M:∀b∈fp,b < s3.heap.objs.size:=λb B=>by rw[hsz];exact zW (hlt b B)
 refine zag ?_;have hns₁:=(Heap.Ns.new s3.heap (.type "dict")).keeps (i7 scope.names _);have k4:∀b o,s3.heap.get? b=some o->(gB (s3.heap.push { cls:=.type "dict",data:=.dict #[] }) scope.names).get? b=some o:=λb o e=>i7 _ _ b o (vS _ e);have hcl:∀x c,(zc5 X.env scope.names []).lookup x=some c->X.env.cells.lookup x=some c:=λx c e=>zke scope.names [] (λ_ _ q=>by cases q) e;have kc:=zrm scope.names (s3.heap.push { cls:=.type "dict",data:=.dict #[] }) (zc5 X.env scope.names []) (λx c e=>by
  obtain⟨v,z⟩:=O.cell x c (hcl x c e);exact⟨v,z.keeps λb o e=>vS _ e⟩)
 rw[xU]at kc;generalize gB (s3.heap.push { cls:=.type "dict",data:=.dict #[] }) scope.names=h₁ at hns₁ k4 kc ⊢;have I4:=zaz (t':=s3.toks) O S hns₁ kc k4 f3 M;obtain⟨hG,hT,hE⟩:=hb s3 (upd L s2.heap.objs.size (.lst [])) s3.heap.objs.size fp;have fp':∀{H':Hp},(∀b∈fp,H' b=none)->∀b∈fp,FpOk (zl6 X scope (zme X.N own ix) s3 (upd L s2.heap.objs.size (.lst [])) s3.heap.objs.size fp) [] H' b:=λ{H'} hn b B=>by
  refine⟨hn b B,wP (M b B),?_,.inl B,λx c e=>(zm31 _ _ _ e).elim (λq=>(f2 b B).2.2.2.2.1 x c (hcl x c q)) (λq e2=>aN (wZ (M b B) (zK (e2 ▸ q.2))) (xE _)),λp hp=>aN (show p∈([]:List (aE×Obj))from hp) (by simp)⟩;intro z;rcases vR.mp (O.stkSub b z)with z|z
  ·exact(f2 b B).2.1 z
  ·exact(f2 b B).2.2.1 z
 have st4:tn 0 h₁:=T.keep _ _ _ st2 λb _ o e=>k4 b o (k3 b o e);have cne:∀x c,X.env.cells.lookup x=some c->c≠s3.heap.objs.size:=λx c e z=>by
  obtain⟨v,q⟩:=O.cell x c e;exact aN q.lt (by rw[z];exact xE _)
 have loop:dZ (aM X.prog X.w) X.A (.compLoop (.ListComp elt [⟨tg,iter,ifs,0⟩] scope pos) 0 (.ref it) (.ref s2.heap.objs.size) (compEnvC scope (ztt X scope s3.heap.objs.size) s3.heap.objs.size X.env)) (RR (.ref s2.heap.objs.size) s3.heap.objs.size) { s3 with heap:=h₁ }:=by
  refine zch (λn s'=>∃i acc Y' H',Inv (zl6 X scope (zme X.N own ix) s3 (upd L s2.heap.objs.size (.lst [])) s3.heap.objs.size fp) [] Y' H' s'/\tn i s'.heap/\(∀b∈fp,H' b=none)/\W i n acc Y' H') ?_ m0 ⟨0,[],_,_,I4,st4,λb B=>(f3 b B).1,w0⟩;rintro n s5 ⟨i,acc,Y5,H5,I5,st5,fr5,w5⟩;rcases turn i n acc Y5 H5 w5 with⟨stop,qn⟩|⟨go,NN,hN,step⟩
  ·refine thn (T.done (zl6 X scope (zme X.N own ix) s3 (upd L s2.heap.objs.size (.lst [])) s3.heap.objs.size fp) rfl rfl rfl hc i [] s5 Y5 H5 _ I5 (fp' fr5) st5 stop) λr s6 hz=>?_;obtain⟨hr,I6⟩:=hz;subst hr;obtain⟨m6,hn6,_⟩:=I6.loc;exact hR _ _ m6 s6 H5 hn6 (zF O.lt) cne I6.free (O.sz) (λp hp z=>aN (vY (O.pin p hp).1) (by rw[z];exact xE _)) (λh'' sb=>zlp O f3 I6 sb) qn
  ·refine thn (T.item (zl6 X scope (zme X.N own ix) s3 (upd L s2.heap.objs.size (.lst [])) s3.heap.objs.size fp) rfl rfl rfl hc i [] s5 Y5 H5 _ I5 (fp' fr5) st5 go) λr s6 hz=>?_;obtain⟨u,hr,h6⟩:=hz;subst hr;refine thn h6 λ_ s7 hz=>?_;obtain⟨x,H7,I7,r7,y7,st7,fr7⟩:=hz;have I7':=I7.pinned (fp' fr7) (T.obj _ _ st7);have U:∀{α:Type}{t:Sem α}{Q1:α->aH->Prop}{E1:aC->aH->Prop}{sx:aH},aL (aM X.prog X.w) X.A t Q1 (λ_ _=>False) sx->aL (aM X.prog X.w) X.A t Q1 E1 sx:=λq=>wpAny_noRaise q;refine U (thn (hG _ s7 Y5 H7 x u _ I7' r7 (step x H7 y7)) λ_ s8 hz=>?_);obtain⟨Y8,H8,I8,q8⟩:=hz;refine U (thn (hT _ s8 Y8 H8 _ I8 q8) λb s9 hz=>?_);obtain⟨H9,I9,q9⟩:=hz;have again:∀{Yz:St}{Hz:Hp}{sz:aH}{I:List V},Inv (zl6 X scope (zme X.N own ix) s3 (upd L s2.heap.objs.size (.lst [])) s3.heap.objs.size fp) ([]++zpr fp s7.heap) Yz Hz sz->NN I Yz Hz->∃m,m < n/\∃i acc Y' H',Inv (zl6 X scope (zme X.N own ix) s3 (upd L s2.heap.objs.size (.lst [])) s3.heap.objs.size fp) [] Y' H' sz/\tn i sz.heap/\(∀b∈fp,H' b=none)/\W i m acc Y' H':=λ{Yz Hz sz I} Iz nz=>by
    obtain⟨m',hm,wz⟩:=hN I Yz Hz nz;refine⟨m',hm,i+1,I,Yz,Hz,Iz.unpinned,T.keep _ _ _ st7 λb B o e=>(Iz.pin (b,o) (w9 _ (w9 _ (zs8 B e)))).1,λb B=>?_,wz⟩;obtain⟨o,e,d⟩:=T.obj _ _ st7 b B;exact(Iz.pin (b,o) (w9 _ (w9 _ (zs8 B e)))).2.1
   cases b with
  |false =>
    have q9':NN acc Y8 H9:=by simpa using q9
    simp only[yA,if_false];exact again I9 q9'
  |true =>
    have q9':te Y8 H9 λy H5=>H5 s2.heap.objs.size=some (.lst acc)/\acc.length < sizeLine/\NN (acc++[y]) Y8 (upd H5 s2.heap.objs.size (.lst (acc++[y]))):=by simpa using q9
    simp only[if_true];refine U (thn (hE _ s9 Y8 H9 _ I9 q9') λy s10 hz=>?_);obtain⟨yv,H10,I10,r10,hl,hz,q10⟩:=hz;refine U (thn (zd4 _ s10 Y8 H10 (.ref s2.heap.objs.size) [yv] (.ref s2.heap.objs.size) [y] (λ_ H'=>NN (acc++[yv]) Y8 H') I10 rfl (.cons r10 .nil) ⟨_,acc,yv,rfl,rfl,hl,hz,q10⟩) λ_ s11 hz=>?_);obtain⟨_,H11,I11,_,q11⟩:=hz;exact again I11 q11
 exact codeAny_compStart_list loop (T.self X.A 0 _ _ _ st4 loop)
theorem zz4(E:X.calm=true)(i:X.env.scope=sc)(J:X.N=N)(S:CompSc sc N own ix scope)(hi:PI X tg iter wi)
  (G:∀s₀ H₀ C fp,PG (zl6 X scope (zme N own ix) s₀ H₀ C fp) tg g/\PIf (zl6 X scope (zme N own ix) s₀ H₀ C fp) ifs tt/\PE (zl6 X scope (zme N own ix) s₀ H₀ C fp) elt te)
  (z:∀x,fN iter X.env x=pure x:=by intro _;rfl):PE X (.ListComp elt [⟨tg,iter,ifs,0⟩] scope pos) (zy81 wi own.length ix g tt te):=by
 subst i J;intro b s Y H Q I h;rw[eval_ListComp];refine fY (use:=none) (g:=⟨tg,iter,ifs,0⟩) (gs:=[]) rfl z (zpe λy u B=>I.ok.has y.1 (S.free y u B)) S.kind S.names ?_;show aL _ _ (bD iter X.env) _ _ _;refine thn (hi b s Y H _ I h) λv s1 O=>thn O λU s2 M=>?_;refine zlf (Q:=Q) (RR:=λacc C=>compPost (aM X.prog X.w) X.A X.xe none (EP X b Y Q) acc C) E S G M ?_;intro D C m s' H' n _ _ _ _ _ L q;exact⟨m,n,λo p=>⟨.ref D,H',L o p,rfl,q⟩⟩
theorem zg7{i:Nat}{n u:Pos}(hc:X.calm=true)(M:X.env.scope=sc)(hN:X.N=N)(S:CompSc sc N own ix scope)(U:X.N.Nodup)(G:X.N[i]?=some x)(hx:X.env.scope.names.lookup x=some .local)(hi:PI X tg iter wi)
  (hb:∀s₀ H₀ C fp,PG (zl6 X scope (zme N own ix) s₀ H₀ C fp) tg g/\PIf (zl6 X scope (zme N own ix) s₀ H₀ C fp) ifs tt/\PE (zl6 X scope (zme N own ix) s₀ H₀ C fp) elt te)
  (J:f9 (.ListComp elt [⟨tg,iter,ifs,0⟩] scope pos) (some (.Name x n)) u.line X.env=pure true:=by rfl)
  (hs:∀x,fN iter X.env x=pure x:=by intro _;rfl):PS X (.Assign [.Name x n] (.ListComp elt [⟨tg,iter,ifs,0⟩] scope pos) u) (tAsg (zy81 wi own.length ix g tt te) (zos i)):=by
 subst M hN;intro p s Y H D I h;rw[exec_Assign_Name_used _ _ _ _ J];refine aG (gU (aG ?_));show aL _ X.A (do let _ <- comprehension (.ListComp elt [⟨tg,iter,ifs,0⟩] scope pos) scope X.env _ (newList []) false (bD iter X.env) (some (fG (.Name x n) X.env))) _ _ s;refine aG (cA (fY (use:=some (fG (.Name x n) X.env)) (g:=⟨tg,iter,ifs,0⟩) (gs:=[]) (Q:=λ_ s'=>SP X p D .next s') rfl hs (zpe λy hy hf=>I.ok.has y.1 (S.free y hy hf)) S.kind S.names
  (thn (hi p s Y H _ I h) λv s1 h1=>thn h1 λitv s2 h2=>?_)) (λ_ s' hq=>aP (aP hq)) λ_ _ e=>e)
 refine zlf (Q:=λv H1=>zos i v Y H1 D.nx) (RR:=λacc C=>compPost (aM X.prog X.w) X.A X.xe (some (fG (.Name x n) X.env)) (λ_ s'=>SP X p D .next s') acc C) hc S hb h2 ?_;intro L C m s' H' O nL nC hC hC0 Z hI q;show aL _ _ (fG (.Name x n) X.env (.ref L)) _ _ s';have I':Inv X p Y H' s':=hI s'.heap ⟨rfl,λ_ _=>rfl⟩;refine iE (zjk I' U G (.inl hx) (v:=.ref L) rfl (λs2 I2 W=>?_) (.inr hx));obtain⟨a,B,ha⟩:=W;have E:C≠a:=by
  rcases ha with z|z
  ·rw[z];exact nL
  ·exact λe=>nC x a z e.symm
 refine⟨m,O.sameBut B E,λh'' sb=>?_⟩;refine⟨_,H',I2.turned (t':=s2.toks) (it:=C) (λb o nb e=>?_) hC nL (.inr hC0) nC Z,q⟩;rw[sb.2 b nb];exact e
end
def zbd1(K:Fg):R2:=λx y H Q=>rI0 (λi j=>.int (i+j)) x y H Q \/ (∃i j,x=.str i/\y=.str j/\i.length+j.length<=sizeLine/\Q (.str (i++j)) H) \/ rCat x y H Q \/ zbe1 K x y H Q
def zqe1:R2:=λx y H Q=>rI CMul (λi j=>.int (i * j)) x y H Q \/ rRep x y H Q
def rSlU(K:Fg):V->Option Int->Option Int->Hp->VK->Prop:=λx lo hi H Q=>rSlL K x lo hi H Q \/ rSlT K x lo hi H Q
def zpg1(K:Fg)(x:V)(H:Hp)(R:It->Hp->Prop):Prop:=(∃a,x=.ref a/\(∃xs,SqL K H a xs)/\R (Itl K a) H) \/ (∃a,x=.ref a/\(∃xs,SqT K H a xs)/\R (Itt K a) H)
def rLen(K:Fg):List V->Hp->VK->Prop:=λxs H Q=>∃x n,xs=[x]/\LenV K x H n/\Q (.int (n:Nat)) H
def zqg1(xs:List V)(H:Hp)(Q:VK):Prop:=xs.length<=sizeLine/\∀p,H p=none->Q (.ref p) (upd H p (.tup xs))
def zbg1(xs:List V)(H:Hp)(Q:VK):Prop:=xs.length<=sizeLine/\∀p,H p=none->Q (.ref p) (upd H p (.lst xs))
def zq91(t:TA):TE:=λY H Q=>t Y H λxs b=>zqg1 xs b Q
def zab1(t:TA):TE:=λY H Q=>t Y H λxs b=>zbg1 xs b Q
def zlg1(x:V)(H:Hp)(Q:Option Int->Hp->Prop):Prop:=∃i,x=.int i/\Q (some i) H
def zp41(t:TE):TO:=λY H Q=>t Y H λx b=>zlg1 x b Q
def kFld(K:Fg)(f:Str)(x:V)(H:Hp)(Q:VK):Prop:=∃a C b fs v,x=.ref a/\H a=some (.ins C b fs)/\Cls K C/\NoAttr K C f/\fs.lookup f=some v/\Q v H
def zcf1(K:Fg)(ta:TE)(f:Str):TE:=λY H Q=>ta Y H λx b=>kFld K f x b Q
def kBl(x:V)(H:Hp)(Q:Bool->Hp->Prop):Prop:=∃k,x=.bl k/\Q k H
def zs71(t:TE):TT:=λY H Q=>t Y H λx H'=>kBl x H' Q
def kTru(K:Fg)(x:V)(H:Hp)(Q:Bool->Hp->Prop):Prop:=∃k,TruV K x H k/\Q k H
def zmd1(K:Fg)(t:TE):TT:=λY H Q=>t Y H λx H'=>kTru K x H' Q
section
variable {X:Cx}{tg:aZ}
theorem zy41(h:X.K=K):OpR X (bU .Add) (zbd1 K):=h ▸ zmb1.or (zqm.or (zjb1.or zu71))
theorem zb41:OpR X (bU .Mult) zqe1:=zcb1.or zl51
theorem ix_U(h:X.K=K):IxR X (rIx K):=h ▸ zac1
theorem sl_U(h:X.K=K):SlR X (rSlU K):=h ▸ zn41.or zba1
theorem zk1(h:X.K=K):CallR X (.builtin "len") (rLen K):=h ▸ zay
theorem ze1{t:TA}{x1}(h:PA X es t):PE X (.Tuple es x1 pos) (zq91 t):=zbb1 h
theorem zb2{t:TA}(h:PA X es t):PE X (.List es pos) (zab1 t):=zfb1 h
theorem zsa{e:aZ}{b:TE}(h:PE X e b):PO X (some e) (zp41 b):=zt21 h
theorem zu1(h:X.K=K){e:aZ}{f:Str}(b:PE X e ta)(g:dG e f X.env (bD e X.env)=bD e X.env):PE X (.Attribute e f pos) (zcf1 K ta f):=h ▸ zgb1 b g
theorem zr0{b:aZ}{i:TE}{g:CmpOp}{r:R2}(n:OpR X (bC g) r)(q:PE X a ta)(p:PE X b i)(o:d8 g b=false):PT X (.Compare a [g] [b] pos) (zs71 (tOp r ta i)):=zn61 n q p o
theorem zc4(h:X.K=K)(i:PE X a ta)(g:∀b,gZ a X.env b=(do let v <- b;eW a.pos;dN [v] (truthy v))):PT X a (zmd1 K ta):=h ▸ zo01 i g
def clsV:V->Option aC
|.ty n=>some (.type n)
|.ref a=>some (.ref a)
|_=>none
theorem zbs{b:V}{c v:aC}(h:clsV b=some c)(r:RelV b v):v=c:=by
 cases b with
|ty n=>cases h;exact r
|ref a=>cases h;exact r
|_=>cases h
def rIsI(K:Fg):List V->Hp->VK->Prop:=λxs H Q=>∃x g c t b,xs=[x,g]/\clsV g=some c/\TyOf K H x t/\d0 K t c=some b/\Q (.bl b) H
theorem zxk(h:X.K=K):CallR X (.builtin "isinstance") (rIsI K):=by
 subst h;intro g s Y H xs us Q I r h;obtain⟨x,o,c,t,b,rfl,n,ty,e,q⟩:=h;obtain⟨u,v,rfl,i,rv⟩:=r.two;obtain rfl:=zbs n rv;exact zts I i ty e λtk=>⟨.bl b,H,I.tok tk,rfl,q⟩
end
def Def(P:aQ)(w:aR)(K:Fg)(mg:Str->Option aC)(base:aX)(x:Str)(k:Nat)(ps:List Str)(sp:Sp):Prop :=
 ∃f b,FnOk P w K mg base CX0 k f b ps sp/\Binds K b ps []/\bP K (.ref f)=true/\mg x=some (.ref f)
def zhs(P:aQ)(w:aR)(K:Fg)(mg:Str->Option aC)(base:aX)(x:Str)(C:aE)(k:Nat)(ps:List Str)(sp:Sp):Prop :=
 ∃f b,Mk K C f/\FnOk P w K mg base CX0 k f b ps sp/\Binds K b ps []/\mg x=some (.ref C)
def MethD(P:aQ)(w:aR)(K:Fg)(mg:Str->Option aC)(base:aX)(C:aE)(m:Str)(k:Nat)(ps:List Str)(sp:Sp):Prop :=
 ∃f b,Cls K C/\Meth K C m f/\FnOk P w K mg base CX0 k f b ps sp/\Binds K b ps []
section
variable {X:Cx}{k:Nat}{C:aE}{ps:List Str}{sp:Sp}{x m:Str}{p pos apos:Pos}{e o:aZ}{es:List aZ}{ta:TE}{t:TA}
theorem zo0(d:Def X.prog X.w X.K X.mg X.base x k ps sp)(hr:Room k X.A)(q:Gl X x)(u:PA X (e :: es) t)(i:(x == ("__debug__":Str))=false:=by decide)
  (s:aW (e :: es) X.env=(false,bD e X.env) :: aW es X.env:=by rfl) (g:(b7 pos (aW es X.env)).any (·.1)=false:=by rfl):PE X (.Call (.Name x p) (e :: es) [] pos) (zk21 sp [] E0 t):=by
 obtain⟨f,y,F,b,n,m⟩:=d;exact zpu F hr q m n b .nil zp21 u i s g
theorem zfe(d:zhs X.prog X.w X.K X.mg X.base x C k ps sp)(hr:Room (k+1) X.A)(n:Gl X x)(s:PA X (e :: es) t)(i:(x == ("__debug__":Str))=false:=by decide)
  (q:aW (e :: es) X.env=(false,bD e X.env) :: aW es X.env:=by rfl) (g:(b7 pos (aW es X.env)).any (·.1)=false:=by rfl):PE X (.Call (.Name x p) (e :: es) [] pos) (zr91 C sp [] E0 t):=by
 obtain⟨f,u,M,F,b,m⟩:=d;exact zp61 M F hr n m b .nil zp21 s i q g
theorem zp6{pl:Sem Bool}(d:MethD X.prog X.w X.K X.mg X.base C m k ps sp)(hr:Room k X.A)(s:PE X o ta)(u:PA X (e :: es) t)
  (g:aW (e :: es) X.env=(false,bD e X.env) :: aW es X.env:=by rfl) (i:(b7 pos (aW es X.env)).any (·.1)=false:=by rfl)
  (q:bD (.Call (.Attribute o m apos) (e :: es) [] pos) X.env=(do
   let n <- bD o X.env
   eW apos.atName
   let (f,first) <- dN [n] (eE n m pl)
   gQ pos f first (b7 pos (aW (e :: es) X.env)) (e8 pos (dP [] X.env))):=by rfl) :
  PE X (.Call (.Attribute o m apos) (e :: es) [] pos) (zl21 C m sp [] E0 ta t):=by
 obtain⟨f,y,c,M,F,b⟩:=d;exact zl61 s c M F hr b .nil zp21 u g i q
end
theorem zs1{H:Hp}{p:aE}(h:H p=none)(o:HO):Same H (upd H p o):=λb u q=>by rw[zb1 (zw4 q h)];exact q
theorem znl{H H':Hp}{a:aE}{xs:List V}(e:Same H H')(h:SqT K H a xs):SqT K H' a xs:=by
 rcases h with(h|⟨o,h⟩)|h
 ·exact .inl (.inl (e _ _ h))
 ·exact .inl (.inr ⟨o,e _ _ h⟩)
 ·exact .inr h
section
variable {K:Fg}{Y:St}{H:Hp}{Q:VK}{D:Ends}{a b p:aE}{i j k:Int}{x y v:V}{xs ys:List V}{ta tb te:TE}{t u:TS}{tA:TA}{tt tt':TT}{A B:Prop}
theorem zrg1(h:SqT K H a xs)(e:atI xs i=some v)(q:Q v H):rIx K (.ref a) (.int i) H Q:=.inr (.inl ⟨a,xs,i,v,rfl,rfl,h,e,q⟩)
end
theorem zb6:bH "len"=some (.builtin "len"):=by decide +kernel
theorem zd41:bH "min"=some (.builtin "min"):=by decide +kernel
theorem zr1:bH "isinstance"=some (.builtin "isinstance"):=by decide +kernel
theorem zwa1:bH "int"=some (.type "int"):=by decide +kernel
theorem zx41:bH "bool"=some (.type "bool"):=by decide +kernel
theorem zrb:bH "list"=some (.type "list"):=by decide +kernel
theorem zop:bH "tuple"=some (.type "tuple"):=by decide +kernel
structure Md(K:Fg)(mg:Str->Option aC):Prop where
 ex:∃h:aX,K.In h/\h.Ns aT mg
theorem Md.got(M:Md K mg){v:aC}(e:bA K aT x=some (some v)):mg x=some v:=let ⟨_,X,G⟩:=M.ex;PySem.W.mg_of X G e
theorem Md.not(M:Md K mg)(e:bA K aT x=some none):mg x=none:=let ⟨_,X,G⟩:=M.ex;PySem.W.mg_none_of X G e
structure TopDef(K:Fg)(x:Str)(st:dI):Prop where
 ex:∃f fd,bA K aT x=some (some (.ref f))/\Fun K x x st f fd
theorem zxt{kV:aC}(a:bA K aT x=some (some (.ref f)))
  (l:K.lookup f=some ⟨oc,od,.func (bX x x (zt7 st) (zw2 st) (zh0 st) .none kV doc pm an cdv ct),osl⟩) (c:cY K cdv x=true) (k:bP K (.ref f)=true):TopDef K x st:=⟨⟨_,_,a,za81 l c k⟩⟩
structure TopMeth(K:Fg)(C:aE)(m qual:Str)(st:dI):Prop where
 ex:∃f fd,a9 K (.ref C) m=some (some (.ref f))/\eO K (.ref f)=true/\Fun K m qual st f fd
theorem zvl{kV:aC}(a:a9 K (.ref C) x=some (some (.ref f)))(i:eO K (.ref f)=true)
  (l:K.lookup f=some ⟨oc,od,.func (bX x qual (zt7 st) (zw2 st) (zh0 st) .none kV doc pm an cdv ct),osl⟩) (c:cY K cdv qual=true) (k:bP K (.ref f)=true):TopMeth K C x qual st:=⟨⟨_,_,a,i,za81 l c k⟩⟩
structure TopCls(K:Fg)(x:Str)(C:aE):Prop where
 at_:bA K aT x=some (some (.ref C))
 cls:Cls K C
 mkk:eR K C=true
 kp:bP K (.ref C)=true
theorem zit(a:bA K aT x=some (some (.ref C)))(pg:dM K C Str.empty=true)(hd:d5 K C=true)(po:fO K C=true)
  (sa:a9 K (.ref C) "__setattr__"=some (some (.builtin "object.__setattr__"))) (mk:eR K C=true) (kc:bP K (.ref C)=true):TopCls K x C:=⟨a,⟨pg,hd,po,sa⟩,mk,kc⟩
section
variable {P:aQ}{w:aR}{K:Fg}{mg:Str->Option aC}{base:aX}
abbrev zta(x qual:Str)(st:dI)(ps:List Str):Prop :=
 ∀(kV doc pm:aC)(an:Option aE)(cdv ct:aC)(us:List aC),us.length=ps.length->iJ (bX x qual (zt7 st) (zw2 st) (zh0 st) .none kV doc pm an cdv ct) ⟨us,[]⟩=pure (ps.zip us)
abbrev zd8(P:aQ)(w:aR)(K:Fg)(mg:Str->Option aC)(base:aX)(qual:Str)(st:dI)(N:List Str)(k:Nat)(sp:Sp):Prop :=
 ∀(f:aE)(cdv:aC)(A:bB)(outer:List Env)(s:aH)(H:Hp)(vs:List V)(Q:VK)(E:XK),Room k (A.deeper (dJ qual (zh0 st) s.heap.objs.size f cdv))->sp vs H Q E ->
   ∃t,PSs (cxOf CX0 P w K mg base N qual (zh0 st) f cdv A outer s H E).nox (zw2 st) t/\t { nx:=λ_ H'=>Q .non H',rt:=Q } (start N vs) H
theorem zn2{k:Nat}(M:Md K mg)(T:TopDef K x st)(S:FnScope N ps (zh0 st))(b:zta x x st ps)(len:∀vs H Q E,sp vs H Q E->vs.length=ps.length)
  (body:zd8 P w K mg base x st N k sp):Def P w K mg base x (k+1) ps sp:=by
 obtain⟨f,g,a,F⟩:=T.ex;exact⟨f,g,F.ok S len (λcdv A outer s H vs Q E hr h=>body f cdv A outer s H vs Q E hr h),F.binds b,F.kp,M.got a⟩
theorem zz7{k:Nat}(c:Cls K C)(T:TopMeth K C m qual st)(S:FnScope N ps (zh0 st))(b:zta m qual st ps)(len:∀vs H Q E,sp vs H Q E->vs.length=ps.length)
  (body:zd8 P w K mg base qual st N k sp):MethD P w K mg base C m (k+1) ps sp:=by
 obtain⟨f,g,a,i,F⟩:=T.ex;exact⟨f,g,c,⟨a,i,F.kp⟩,F.ok S len (λcdv A outer s H vs Q E hr h=>body f cdv A outer s H vs Q E hr h),F.binds b⟩
theorem zuj{k:Nat}(M:Md K mg)(c:TopCls K x C)(T:TopMeth K C "__init__" qual st)(S:FnScope N ps (zh0 st))(b:zta "__init__" qual st ps)
  (len:∀vs H Q E,sp vs H Q E->vs.length=ps.length) (body:zd8 P w K mg base qual st N k sp):zhs P w K mg base x C (k+1) ps sp:=by
 obtain⟨f,g,a,i,F⟩:=T.ex;exact⟨f,g,⟨c.mkk,a,i,c.kp⟩,F.ok S len (λcdv A outer s H vs Q E hr h=>body f cdv A outer s H vs Q E hr h),F.binds b,M.got c.at_⟩
theorem zh91{k:Nat}{g:aE}(M:Md K mg)(T:TopDef K "law" st)(i:mg "law"=some (.ref g))(S:FnScope N ["script"] (zh0 st))(o:zta "law" "law" st ["script"])(len:∀vs H Q E,sp vs H Q E->vs.length=1)
  (body:∀base:aX,K.In base->base.Ns aT mg->zd8 P w K mg base "law" st N k sp) :
  ∃b:cZ,(∀(s:aH)(v:aC),e7 s b ⟨[v],[]⟩ [("script",v)])/\∀base:aX,K.In base->base.Ns aT mg->FnOk P w K mg base CX0 (k+1) g b ["script"] sp:=by
 obtain⟨f,b,a,F⟩:=T.ex;have e:=i.symm.trans (M.got a);cases e;obtain⟨oc,od,kV,doc,pm,an,cdv,ct,osl,p,lk,q⟩:=id F.ex;refine⟨b,λs v=>.of_eq ?_,λbase n nb=>F.ok S len λcdv A outer s H vs Q E hr h=>body base n nb g cdv A outer s H vs Q E hr h⟩;rw[p];exact o kV doc pm an cdv ct [v] rfl
end
def zr71:a6->Bool
|.int _=>true
|.str _=>true
|_=>false
mutual
inductive Is(K:Fg)(H:Hp):V->a6->Prop
|non:Is K H .non .none
|bl (b:Bool):Is K H (.bl b) (.bool b)
|int (i:Int):Is K H (.int i) (.int i)
|str (x:Str):Is K H (.str x) (.str x)
|lst {a:aE} {xs:List V} {ds:List a6}:SqL K H a xs->IsAll K H xs ds->Is K H (.ref a) (.list ds)
|tup {a:aE} {xs:List V} {ds:List a6}:H a=some (.tup xs)->IsAll K H xs ds->Is K H (.ref a) (.tuple ds)
|tuc {a:aE} {xs:List V} {ds:List a6}:SqT K H a xs->IsAll K H xs ds->ds.all zr71=false->Is K H (.ref a) (.tuple ds)
inductive IsAll(K:Fg)(H:Hp):List V->List a6->Prop
|nil:IsAll K H [] []
|cons {x:V} {d:a6} {xs:List V} {ds:List a6}:Is K H x d->IsAll K H xs ds->IsAll K H (x :: xs) (d :: ds)
end
mutual
theorem Is.mono{K:Fg}{H H':Hp}(s:Same H H'):∀{v:V}{d:a6},Is K H v d->Is K H' v d
|_,_,.non=>.non
|_,_,.bl b=>.bl b
|_,_,.int i=>.int i
|_,_,.str x=>.str x
|_,_,.lst h r=>.lst (s.seq h) (IsAll.mono s r)
|_,_,.tup h r=>.tup (s _ _ h) (IsAll.mono s r)
|_,_,.tuc h r n=>.tuc (znl s h) (IsAll.mono s r) n
theorem IsAll.mono{K:Fg}{H H':Hp}(s:Same H H'):∀{v:List V}{d:List a6},IsAll K H v d->IsAll K H' v d
|_,_,.nil=>.nil
|_,_,.cons h r=>.cons (Is.mono s h) (IsAll.mono s r)
end
section
variable {X:Cx}{pins:List (aE×Obj)}{Y:St}{H:Hp}{s:aH}
mutual
theorem zo8(I:Inv X pins Y H s):∀{v:V}{d:a6}{u:aC},Is X.K H v d->RelV v u->∃as,Reads s.heap u d as
|_,_,_,.non,r=>by cases r;exact⟨_,.none⟩
|_,_,_,.bl b,r=>by cases r;exact⟨_,.bool b⟩
|_,_,_,.int i,r=>by obtain⟨t,rfl⟩:=r;exact⟨_,.int i t⟩
|_,_,_,.str x,r=>by obtain⟨t,rfl⟩:=r;exact⟨_,.str x t⟩
|_,_,_,.lst h q,r=>by
  cases r;obtain⟨its,rv,p,_⟩:=I.list h;obtain⟨as,z⟩:=zl7 I q rv;obtain⟨o,a,f,n,hd⟩:=p.isList;exact⟨_,.list a f hd (by simpa using z)⟩
|_,_,_,.tup h q,r=>by
  cases r;obtain⟨its,rv,p,_⟩:=I.tuple (SqT.of h);obtain⟨as,z⟩:=zl7 I q rv;obtain⟨o,a,f,n,hd⟩:=(show s.heap.IsTuple _ its.toArray from p)
  exact⟨_,.tuple a f hd (by simpa using z)⟩
|_,_,_,.tuc h q _,r=>by
  cases r;obtain⟨its,rv,p,_⟩:=I.tuple h;obtain⟨as,z⟩:=zl7 I q rv;obtain⟨o,a,f,n,hd⟩:=(show s.heap.IsTuple _ its.toArray from p)
  exact⟨_,.tuple a f hd (by simpa using z)⟩
theorem zl7(I:Inv X pins Y H s):∀{v:List V}{d:List a6}{u:List aC},IsAll X.K H v d->Vals v u->∃as,ReadsAll s.heap u d as
|_,_,_,.nil,r=>by cases r;exact⟨_,.nil⟩
|_,_,_,.cons h q,r=>by
  cases r with
 |cons b a =>
   obtain⟨as,z⟩:=zo8 I h b;obtain⟨bs,y⟩:=zl7 I q a;exact⟨_,.cons z y⟩
end
end
def rEqU(K:Fg):R2:=λx y H Q=>rEq x y H Q \/ (∃d e,Is K H x d/\Is K H y e/\bI d=true/\bI e=true/\Q (.bl (xD d e)) H)
def rNeU(K:Fg):R2:=λx y H Q=>rNe x y H Q \/ (∃d e,Is K H x d/\Is K H y e/\bI d=true/\bI e=true/\Q (.bl (!PyData.eqv d e)) H)
section
variable {X:Cx}
theorem zo5(h:X.K=K)(o:X.A.units+64 < cJ):OpR X (bC .Eq) (rEqU K):=by
 subst h;refine zdg1.or ?_;walk_at"30";obtain⟨d,e,hd,p,f,b,q⟩:=q;obtain⟨as,n⟩:=zo8 I hd i;obtain⟨bs,m⟩:=zo8 I p g;exact eq_dataH n m f b o ⟨.bl _,H,I,rfl,q⟩
theorem zxe(h:X.K=K)(o:X.A.units+64 < cJ):OpR X (bC .NotEq) (rNeU K):=by
 subst h;refine zfg1.or ?_;walk_at"30";obtain⟨d,e,hd,p,f,b,q⟩:=q;obtain⟨as,n⟩:=zo8 I hd i;obtain⟨bs,m⟩:=zo8 I p g;exact ne_dataH n m f b o ⟨.bl _,H,I,rfl,q⟩
def zv71(P:aQ)(w:aR)(K:Fg)(mg:Str->Option aC)(base:aX)(m:Str)(k:Nat)(f:TE)(t:TA):TE:=λY H Q=>f Y H λx b=>∃a C g fs ps sp,x=.ref a/\b a=some (.ins C g fs)/\fs.lookup m=none /\
 MethD P w K mg base C m k ps sp/\t Y b λvs H2=>sp (x :: vs) H2 Q E0
theorem zx01{P:aQ}{w:aR}{base:aX}{k:Nat}{m:Str}{pos g:Pos}{e o:aZ}{t:TA}{pl:Sem Bool}(U:X.prog=P)(hw:X.w=w)(W:X.K=K)(y:X.mg=mg)(z:X.base=base)(hr:Room k X.A)(O:PE X o ta)(S:PA X (e :: es) t)
  (n:aW (e :: es) X.env=(false,bD e X.env) :: aW es X.env:=by rfl) (p:(b7 pos (aW es X.env)).any (·.1)=false:=by rfl)
  (N:bD (.Call (.Attribute o m g) (e :: es) [] pos) X.env=(do
   let B <- bD o X.env
   eW g.atName
   let (f,first) <- dN [B] (eE B m pl)
   gQ pos f first (b7 pos (aW (e :: es) X.env)) (e8 pos (dP [] X.env))):=by rfl) :
  PE X (.Call (.Attribute o m g) (e :: es) [] pos) (zv71 P w K mg base m k ta t):=by
 subst U hw W y z;intro i s Y H Q I h;refine eI (pl:=pl) (thn (O i s Y H _ I h) λu s1 hz=>?_) N;obtain⟨x,H1,J,L,a,C,dx,fs,ps,sp,ex,Z,l,d,q⟩:=hz;subst ex;obtain rfl:u=vX a:=L;obtain⟨f,fd,c,E,F,b⟩:=d;refine zw8 J Z c E l ?_;refine dU (first:=[.ref a]) (h₀:=X.base) I.ok.mod.kin E.kp (thn (S pos i s1 Y H1 _ J q) λus s2 ⟨vs,H2,G,r,M⟩=>⟨G.kIn,?_⟩) n p;exact zhu (us:=.ref a :: us) (vs:=.ref a :: vs) (dvs:=[]) (ds:=[]) F hr b .nil zp21 G (.cons rfl r) (by rw[wQ];exact M)
end
variable {A:bB}{E:aC->aH->Prop}{K:Fg}{X:Cx}{Y:St}{a i n:Nat}{b it:aE}{es:List aZ}{h':aX}{pins:List (aE×Obj)}{pos:Pos}{s:aH}{w:aR}{xs:List V}
section
variable {X:Cx}
def Its(z:Str):It:=⟨λi _=>i < z.cps.size,λi H x H'=>H'=H/\∃c,z.cps[i]?=some c/\x=.str ⟨#[c]⟩,λi _=>z.cps.size<=i⟩
theorem ziz{P:aQ}{L:aZ}(z:Str)(t:Tok)(it:aE):Turn P w K L (Its z) [it] it (λi h=>h.IsStrIter it "str_ascii_iterator" z t i) where
 mem:=by simp
 obj:=λi h st b f=>by
  have e:b=it:=by simpa using f
  subst e;obtain⟨o,e,c,d⟩:=st;exact⟨o,e,λv z=>by rw[d]at z;cases z⟩
 keep:=λi h h' st k=>by
  obtain⟨o,e,c,d⟩:=st;exact⟨o,k it (by simp) o e,c,d⟩
 item:=by
  walk_at"22";subst x hw y;have g:i < z.cps.size:=u;obtain⟨G,f1,f2,C,B,f5⟩:=q it (by simp);have p:z.cps[i]?=some z.cps[i]:=by simp[g]
  refine wpAny_pyNext_ascii_item st p λh' m M=>?_;have O:Inv X pins Y H { s with heap:=h',toks:=s.toks+1 }:=I.turned (t':=s.toks+1) (λb o f e=>(M.2 b f).trans e) G f1 C B f5;obtain⟨o,e,c,d⟩:=id m;exact⟨_,rfl,zf81 (s:={ s with heap:=h',toks:=s.toks+1 }) e c d (by decide) ⟨.str ⟨#[z.cps[i]]⟩,H,O,⟨_,rfl⟩,⟨rfl,_,p,rfl⟩,m,λb f=>(q b f).1⟩⟩
 done:=by
  walk_at"22";subst x hw y;have g:z.cps.size<=i:=u;obtain⟨G,f1,f2,C,B,f5⟩:=q it (by simp);have p:z.cps[i]?=none:=by simp[g]
  exact wpAny_pyNext_ascii_end (I.ok.hd J) st p λh' N=>⟨rfl,I.turned (t':=s.toks) (λb o f e=>N b o f e) G f1 C B f5⟩
 self:=λA i s Q E st h=>wpAny_pyIter_striter_ascii st h
def rInU(K:Fg):R2:=λx y H Q=>rIn K false x y H Q \/ ∃c z,x=.str ⟨#[c]⟩/\y=.str z/\Q (.bl (decide (c∈z.cps.toList))) H
def zrv(K:Fg):R2:=λx y H Q=>rIn K true x y H Q \/ ∃c z,x=.str ⟨#[c]⟩/\y=.str z/\Q (.bl (!decide (c∈z.cps.toList))) H
theorem zv91(m:X.K=K):OpR X (bC .In) (rInU K):=by
 subst m;refine zlt.or ?_;walk_at"12";obtain⟨c,z,rfl,rfl,q⟩:=h;exact zdt pins s Y H _ _ v u Q I g f ⟨_,_,rfl,rfl,by rw[StrLaws.found_one];exact q⟩
theorem zks(m:X.K=K):OpR X (bC .NotIn) (zrv K):=by
 subst m;refine zqg.or ?_;walk_at"12";obtain⟨c,z,rfl,rfl,q⟩:=h;exact zoi pins s Y H _ _ v u Q I g f ⟨_,_,rfl,rfl,by rw[StrLaws.found_one];exact q⟩
def repS(x:Str)(n:Nat):Str:=⟨(vU n x.cps).foldl (·++·) #[]⟩
theorem zv11(c:List (Array Nat)):∀a:Array Nat,c.foldl (·++·) a=a++(c.map j9).flatten.toArray:=by
 induction c with
|nil=>intro a;simp
|cons y r f=>intro a;rw[zI,f,ua0];congr 1;apply Array.toList_inj.mp;simp
theorem zvx(x:Str)(n:Nat):(repS x n).cps.toList=(vU n x.cps.toList).flatten:=by
 unfold repS;rw[zv11];simp
def zce1:R2:=λx y H Q=>∃z n,x=.str z/\y=.int n/\0<=n/\z.length * n.toNat<=sizeLine/\n<=sizeLine/\Q (.str (repS z n.toNat)) H
theorem zb61:OpR X (bU .Mult) zce1:=by
 intro pins s Y H x y v u Q I p o h;obtain⟨z,n,rfl,rfl,g,C,M,q⟩:=h;obtain⟨t,rfl⟩:=p;obtain⟨t',rfl⟩:=o;have hl:sizeLine=16777216:=aY;have hz:z.length=z.cps.size:=rfl;by_cases B:n=0
 ·subst B;refine P.mul_str (by rw[a7 (by lia),a7 (by lia)];rfl) (λa b f=>?_) (λa b=>?_) ?_
  ·exact aN a (by decide)
  ·exact a7 (by simp)
  ·rw[aF (by decide)];exact⟨by decide,.str (repS z 0),H,I.tok _,⟨_,rfl⟩,q⟩
 have g:0 < n:=by lia
 refine P.mul_str (by rw[a7 (by lia),a7 (by lia)];rfl) (λ_ _ f=>?_) (λ_ _=>?_) ?_
 ·have L:(2 ^ 63 - 1:Int) / n ≥ z.length:=by
   refine(Int.le_ediv_iff_mul_le g).mpr ?_;have J:((z.length * n.toNat:Nat):Int)=(z.length:Int) * n:=by rw[Int.natCast_mul,Int.toNat_of_nonneg (by lia)]
   have G:((z.length * n.toNat:Nat):Int)<=(sizeLine:Nat):=by exact_mod_cast C
   lia
  lia
 ·exact a7 (by lia)
 ·rw[aA (by lia)];by_cases f:(n == 1 || z.length == 0)=true
  ·rw[aF f];refine⟨.str (repS z n.toNat),H,I,⟨t,?_⟩,q⟩;have:repS z n.toNat=z:=by
    have e:(repS z n.toNat).cps.toList=z.cps.toList:=by
     rw[zvx];rcases(Bool.or_eq_true _ _).mp f with f|f
     ·have:n=1:=by simpa using f
      subst this;simp
     ·have:z.cps.toList=[]:=by
       have:z.cps.size=0:=by simpa[hz]using f
       simpa using this
      rw[this];simp
    cases z with|mk c =>
     show repS ⟨c⟩ n.toNat=⟨c⟩
     have m:(repS ⟨c⟩ n.toNat).cps=c:=Array.toList_inj.mp e;cases hq:repS ⟨c⟩ n.toNat with|mk d=>rw[hq]at m;cases m;rfl
   rw[this]
  ·rw[aA f];exact⟨fits_reps (a7 (by lia)),.str (repS z n.toNat),H,I.tok _,⟨_,rfl⟩,q⟩
def rSlS:V->Option Int->Option Int->Hp->VK->Prop:=λx lo hi H Q=>∃z,x=.str z/\z.length<=sizeLine/\Q (.str (Txt.slice z lo hi)) H
theorem zh51:SlR X rSlS:=by
 intro pins s Y H x v m g lo hi sl Q I p y pl f h;obtain⟨z,rfl,hz,q⟩:=h;obtain⟨t,rfl⟩:=p;obtain⟨o,B,C,hd⟩:=y;have go:∀(l u:Option (Int×Tok)),partValue l=m->partValue u=g->l.map (·.1)=lo->u.map (·.1)=hi->aL (aM X.prog X.w) X.A (eZ (.str z t) (.ref sl)) (EP X pins Y Q) X.xe s:=λl u M L J G=>by
  subst J G;refine wpAny_getItem_str_slice (l:=l) (u:=u) (st:=none) ⟨o,B,C,by rw[M,L];exact hd⟩ rfl (post_val_or_str ⟨wL (Txt.slice_le z _ _) hz,λt' k=>?_⟩);exact⟨.str (Txt.slice z (l.map (·.1)) (u.map (·.1))),H,I.tok _,⟨_,rfl⟩,q⟩
 refine⟨"str",_,F.slot_str_getitem.lookup,iU _ _ _,?_⟩;cases pl with
|none=>cases f with
 |none=>exact go none none rfl rfl rfl rfl
 |int j u=>exact go none (some (j,u)) rfl rfl rfl rfl
|int i t=>cases f with
 |none=>exact go (some (i,t)) none rfl rfl rfl rfl
 |int j u=>exact go (some (i,t)) (some (j,u)) rfl rfl rfl rfl
end
section
variable {prog:aQ}{w:aR}{A:bB}{E:aC->aH->Prop}{s:aH}
theorem zja{t:aE}{items}{x:aC}{Q:aC->aH->Prop}(f:s.heap.IsTupleIter it t i)
  (u:s.heap.IsTuple t items) (q:items[i]?=some x) (z:∀h',h'.IsTupleIter it t (i+1)->bM it s.heap h'->Q x { s with heap:=h' }) :
  aL (aM prog w) A (bF (.ref it)) Q E s:=by
 obtain⟨o,g,y,hd⟩:=id f;obtain⟨B,m,_,C,p⟩:=u;unfold bF;refine aG (cH (name:=x9 "__next__") f.typeIs cQ
  (dB cQ f.typeIs fJ ?_ (fE _)))
 show aL _ _ (gK (.ref it) 0 >>= _) _ _ s;refine aG (bS g hd (x:=.ref t) rfl ?_);show aL _ _ (if(vX t == xM)=true then _ else _) _ _ s;rw[aA (show ¬((vX t == xM)=true)from v3)];show aL _ _ (gK (.ref it) 1 >>= _) _ _ s;refine aG (bS g hd (x:=.int i 0) rfl ?_);show aL _ _ (lP (.ref t) >>= _) _ _ s;refine aG (b9 m p ?_);simp only[v6,q];refine aG (lG g hd (by simp) (aP ⟨x,rfl,aP (z _ ?_ (Heap.SameBut.update ..))⟩));exact⟨_,ua4 _ g (Obj.isFreed_of_fields (iC hd _)),(Obj.cls_mapFields ..).trans y,by
  rw[iC hd];simp[iR]⟩
theorem zpb{t:aE}{items}{Q:aC->aH->Prop}(u:A.handled=none)
  (f:s.heap.IsTupleIter it t i) (z:s.heap.IsTuple t items) (y:items[i]?=none)
  (B:∀h' e,fF it s.heap h'->(∃o,h'.get? e=some o/\o.cls=.type "StopIteration")->E (.ref e) { s with heap:=h' }) :
  aL (aM prog w) A (bF (.ref it)) Q E s:=by
 obtain⟨o,g,I,hd⟩:=id f;obtain⟨C,p,_,G,q⟩:=z;unfold bF;refine aG (cH (name:=x9 "__next__") f.typeIs cQ
  (dB cQ f.typeIs fJ ?_ (fE _)))
 show aL _ _ (gK (.ref it) 0 >>= _) _ _ s;refine aG (bS g hd (x:=.ref t) rfl ?_);show aL _ _ (if(vX t == xM)=true then _ else _) _ _ s;rw[aA (show ¬((vX t == xM)=true)from v3)];show aL _ _ (gK (.ref it) 1 >>= _) _ _ s;refine aG (bS g hd (x:=.int i 0) rfl ?_);show aL _ _ (lP (.ref t) >>= _) _ _ s;refine aG (b9 p q ?_);simp only[v6,y];refine aG (cK (aG (lG g hd (by simp) ?_)));show aL _ _ (newExc (.type "StopIteration") [] >>= _) _ _ _;refine aG ?_;simp only[newExc,newTuple];refine aG (cG ?_ (by size_fits));refine aG (m:=lK _ _) (wpAny_of_eq (a:=xM) (by first|rfl|(simp only[lK];rfl)) ?_);refine cG ?_ (by size_fits);simp only[raiseNew];refine aG (wpAny_handled ?_)
 first|rw[show A.in1.handled=none from u]|rw[u]
 refine aG (aP (wpAny_throw ?_));exact B _ _ (((Heap.SameBut.update ..).extBut.push _).push _) ⟨_,wB _ rfl,rfl⟩
end
structure Nx(P:aQ)(w:aR)(K:Fg)(J:It)(it:aE)(st:Nat->aX->Prop):Prop where
 obj:∀i h,st i h->∃o,h.get? it=some o/\∀v,o.data≠.cell v
 keep:∀i h h',st i h->(∀o,h.get? it=some o->h'.get? it=some o)->st i h'
 item:∀(X:Cx),X.prog=P->X.w=w->X.K=K->∀(A:bB)(i:Nat)(pins:List (aE×Obj))(s:aH)(Y:St)(H:Hp)(Q:aC->aH->Prop)(E:aC->aH->Prop),Inv X pins Y H s->st i s.heap->J.go i H ->
  (∀u x h' tk,RelV x u->J.yld i H x H->st (i+1) h'->bM it s.heap h'->Q u { s with heap:=h',toks:=tk })->aL (aM P w) A (bF (.ref it)) Q E s
 done:∀(X:Cx),X.prog=P->X.w=w->X.K=K->∀(A:bB)(i:Nat)(pins:List (aE×Obj))(s:aH)(Y:St)(H:Hp)(Q:aC->aH->Prop)(E:aC->aH->Prop),A.handled=none->Inv X pins Y H s->st i s.heap->J.stop i H ->
  (∀h' e,fF it s.heap h'->(∃o,h'.get? e=some o/\o.cls=.type "StopIteration")->E (.ref e) { s with heap:=h' })->aL (aM P w) A (bF (.ref it)) Q E s
theorem zu41{P:aQ}(a it:aE):Nx P w K (Itl K a) it (λi h=>h.IsListIter it a i) where
 obj:=λi h st=>by
  obtain⟨o,e,c,d⟩:=st;exact⟨o,e,λv z=>by rw[d]at z;cases z⟩
 keep:=λi h h' st k=>st.at k
 item:=by
  walk_at"19";subst q hw y;obtain⟨xs,x,f,g⟩:=m;obtain⟨its,rv,p,hz⟩:=I.list f;obtain⟨u,L,G⟩:=rv.get g;exact wpAny_nextOf_list_item st p.isList (x:=u) (by simpa using L) λh' B C=>N u x h' s.toks G ⟨rfl,λys J=>by rw[I.list_inj J f];exact g⟩ B C
 done:=by
  walk_at"18";subst q hw y;obtain⟨xs,f,g⟩:=m;obtain⟨its,rv,p,hz⟩:=I.list f;have hl:=rv.length;exact wpAny_nextOf_list_end M st p.isList (by simp;lia) O
theorem zxc1{P:aQ}(a it:aE):Nx P w K (Itt K a) it (λi h=>h.IsTupleIter it a i) where
 obj:=λi h st=>by
  obtain⟨o,e,c,d⟩:=st;exact⟨o,e,λv z=>by rw[d]at z;cases z⟩
 keep:=λi h h' st k=>st.at k
 item:=by
  walk_at"19";subst q hw y;obtain⟨xs,x,f,g⟩:=m;obtain⟨its,rv,p,hz⟩:=I.tuple f;obtain⟨u,L,G⟩:=rv.get g;exact zja st (show s.heap.IsTuple a its.toArray from p) (x:=u) (by simpa using L) λh' B C=>N u x h' s.toks G ⟨rfl,λys J=>by rw[I.tuple_inj J f];exact g⟩ B C
 done:=by
  walk_at"18";subst q hw y;obtain⟨xs,f,g⟩:=m;obtain⟨its,rv,p,hz⟩:=I.tuple f;have hl:=rv.length;exact zpb M st (show s.heap.IsTuple a its.toArray from p) (by simp;lia) O
theorem zs3{H:Hp}{tk:Nat}(I:Inv X pins Y H s)(f:FpOk X pins H b)(k:bM b s.heap h'):Inv X pins Y H { s with heap:=h',toks:=tk } :=
 let ⟨q,f1,_,p,m,f5⟩:=f
 I.turned (λc o g e=>(k.2 c g).trans e) q f1 p m f5
theorem zr11{H:Hp}{tk:Nat}(I:Inv X pins Y H s)(f:FpOk X pins H b)(k:fF b s.heap h'):Inv X pins Y H { s with heap:=h',toks:=tk } :=
 let ⟨q,f1,_,p,m,f5⟩:=f
 I.turned (λc o g e=>k c o g e) q f1 p m f5
structure ZAp(z TI TO i1 i2:aE):Prop where
 TIz:TI≠z
 TOz:TO≠z
 i1z:i1≠z
 i2z:i2≠z
 TITO:TI≠TO
 TIi1:TI≠i1
 TIi2:TI≠i2
 TOi1:TO≠i1
 TOi2:TO≠i2
 i12:i1≠i2
structure ZSt(z TI TO i1 i2:aE)(f0:aC)(st1 st2:Nat->aX->Prop)(i:Nat)(h:aX):Prop where
 z:fR h z TI TO f0
 TI:eK h TI (.ref i1) (.ref i2)
 TO:∃a b,eK h TO a b
 s1:st1 i h
 s2:st2 i h
section
variable {X:Cx}{pins:List (aE×Obj)}{Y:St}{H:Hp}{s:aH}{J1 J2:It}{z TI TO i1 i2:aE}{st1 st2:Nat->aX->Prop}{i:Nat}
theorem zpw{Q:aC->aH->Prop}(g:Nx X.prog X.w X.K J1 i1 st1)(N2:Nx X.prog X.w X.K J2 i2 st2)(D:ZAp z TI TO i1 i2)(I:Inv X pins Y H s)
  (fz:FpOk X pins H z) (u:FpOk X pins H TO) (f1:FpOk X pins H i1) (f2:FpOk X pins H i2) (S:ZSt z TI TO i1 i2 .none st1 st2 i s.heap) (g1:J1.go i H) (g2:J2.go i H)
  (Z:∀p x1 x2 s',H p=none->p≠z->p≠TI->p≠TO->p≠i1->p≠i2->J1.yld i H x1 H->J2.yld i H x2 H->Inv X pins Y (upd H p (.tup [x1,x2])) s'->ZSt z TI TO i1 i2 (iR p) st1 st2 (i+1) s'.heap->Q (.ref p) s') :
  aL (aM X.prog X.w) A (Builtin.«zip.__next__» ⟨[.ref z],[]⟩) (λB s'=>∃v,B=.done (.ret v)/\Q v s') E s:=by
 obtain⟨hz,hTI,⟨a,b,hTO⟩,h1,h2⟩:=S;show aL _ _ (gK (.ref z) 2 >>= _) _ _ _;refine aG (bS hz rfl (x:=.bool false) rfl ?_);show aL _ _ (gK (.ref z) 3 >>= _) _ _ _;refine aG (bS hz rfl (x:=.ref TI) rfl ?_);refine aG (b9 hTI rfl ?_);show aL _ _ (bY (.ref z) >>= _) _ _ _;refine aG ?_;unfold bY;refine aG (bS hz rfl (x:=.none) rfl (aP ?_));simp only[if_true];refine aG (cK ?_);refine aG (bS hz rfl (x:=.ref TO) rfl ?_);refine aG (cL hz (by simp) λh₁ hz₁ hs₁=>?_)
 replace hz₁:fR h₁ z TI TO .ellipsis:=hz₁
 have L:Inv X pins Y H { s with heap:=h₁ }:=zs3 (tk:=s.toks) I fz hs₁;refine aG ?_;simp only[uaH,List.zipIdx_nil,uaE,uaG];refine aG (aG (fK ?_));show aL _ _ (bF (.ref i1) >>= _) _ _ _;have a1:st1 i h₁:=g.keep _ _ _ h1 λo e=>hs₁.extBut _ _ D.i1z e;refine aG (g.item X rfl rfl rfl _ i pins _ Y H _ _ L a1 g1 λx x1 h₂ tk₂ U N b1 hs₂=>aP ?_)
 replace hs₂:bM i1 h₁ h₂:=hs₂
 have I2:Inv X pins Y H { s with heap:=h₂,toks:=tk₂ }:=zs3 (s:={ s with heap:=h₁ }) (tk:=tk₂) L f1 hs₂;have hTO₂:eK h₂ TO a b:=hs₂.extBut _ _ D.TOi1 (hs₁.extBut _ _ D.TOz hTO);refine aG (b9 hTO₂ rfl ?_);refine aG (eU (s:={ s with heap:=h₂,toks:=tk₂ }) hTO₂ λh₃ hTO₃ hs₃=>?_)
 replace hTO₃:eK h₃ TO x b:=hTO₃
 replace hs₃:bM TO h₂ h₃:=hs₃
 have J:Inv X pins Y H { s with heap:=h₃,toks:=tk₂ }:=zs3 (s:={ s with heap:=h₂,toks:=tk₂ }) (tk:=tk₂) I2 u hs₃;refine aG (iH (aP ?_));refine aG (aG (fK ?_));show aL _ _ (bF (.ref i2) >>= _) _ _ _;have a2:st2 i h₃:=N2.keep _ _ _ h2 λo e=>hs₃.extBut _ _ D.TOi2.symm (hs₂.extBut _ _ D.i12.symm (hs₁.extBut _ _ D.i2z e));refine aG (N2.item X rfl rfl rfl _ i pins _ Y H _ _ J a2 g2 λy x2 h₄ tk₄ O M b2 hs₄=>aP ?_)
 replace hs₄:bM i2 h₃ h₄:=hs₄
 have I4:Inv X pins Y H { s with heap:=h₄,toks:=tk₄ }:=zs3 (s:={ s with heap:=h₃,toks:=tk₂ }) (tk:=tk₄) J f2 hs₄;have hTO₄:eK h₄ TO x b:=hs₄.extBut _ _ D.TOi2 hTO₃;refine aG (b9 hTO₄ rfl ?_);refine aG (eU (s:={ s with heap:=h₄,toks:=tk₄ }) hTO₄ λh₅ hTO₅ hs₅=>?_)
 replace hTO₅:eK h₅ TO x y:=hTO₅
 replace hs₅:bM TO h₄ h₅:=hs₅
 have G:Inv X pins Y H { s with heap:=h₅,toks:=tk₄ }:=zs3 (s:={ s with heap:=h₄,toks:=tk₄ }) (tk:=tk₄) I4 u hs₅;refine aG (iH (aP (aP ?_)));refine aG (b9 hTO₅ rfl ?_);refine aG (lI ?_);have hz₅:fR h₅ z TI TO .ellipsis:=hs₅.extBut _ _ D.TOz.symm (hs₄.extBut _ _ D.i2z.symm (hs₃.extBut _ _ D.TOz.symm (hs₂.extBut _ _ D.i1z.symm hz₁)));have hTI₅:eK h₅ TI (.ref i1) (.ref i2):=hs₅.extBut _ _ D.TITO (hs₄.extBut _ _ D.TIi2 (hs₃.extBut _ _ D.TITO (hs₂.extBut _ _ D.TIi1 (hs₁.extBut _ _ D.TIz hTI))));have f:st1 (i+1) h₅:=g.keep _ _ _ b1 λo e=>hs₅.extBut _ _ D.TOi1.symm (hs₄.extBut _ _ D.i12 (hs₃.extBut _ _ D.TOi1.symm e));have C:st2 (i+1) h₅:=N2.keep _ _ _ b2 λo e=>hs₅.extBut _ _ D.TOi2.symm e;have W:H h₅.objs.size=none:=G.hok.fresh (u7 _);have I6:Inv X pins Y (upd H h₅.objs.size (.tup [x1,x2])) { s with heap:=h₅.push { cls:=.type "tuple",data:=.seq #[x,y] },toks:=tk₄ }:=by
  refine G.laid (t':=tk₄) (o:=.tup [x1,x2]) (λb ob q=>vS _ q) (u7 _) ?_;exact⟨by show 2<=sizeLine;rw[aY];decide,[x,y],.cons U (.cons O .nil),_,wB _ rfl,rfl,0,rfl⟩
 have lt:∀{c:aE}{o:Obj},h₅.get? c=some o->h₅.objs.size≠c:=λe=>zF (vY e);obtain⟨o1,e1,_⟩:=g.obj _ _ f;obtain⟨o2,e2,_⟩:=N2.obj _ _ C;have m:FpOk X pins (upd H h₅.objs.size (.tup [x1,x2])) z:=⟨by rw[zb1 (lt hz₅).symm];exact fz.1,fz.2⟩
 show aL _ _ (dW (.ref z) (.ref h₅.objs.size) >>= _) _ _ _;refine aG ?_;unfold dW;have hz₆:fR (h₅.push { cls:=.type "tuple",data:=.seq #[x,y] }) z TI TO .ellipsis:=vS _ hz₅;refine aG (cL hz₆ (by simp) λh₇ hz₇ hs₇=>?_)
 replace hz₇:fR h₇ z TI TO (iR h₅.objs.size):=hz₇
 have I7:Inv X pins Y (upd H h₅.objs.size (.tup [x1,x2])) { s with heap:=h₇,toks:=tk₄ }:=zs3 (s:={ s with heap:=h₅.push { cls:=.type "tuple",data:=.seq #[x,y] },toks:=tk₄ }) (tk:=tk₄) I6 m hs₇;refine cL hz₇ (by simp) λh₈ hz₈ hs₈=>?_
 replace hz₈:fR h₈ z TI TO (iR h₅.objs.size):=hz₈
 have I8:Inv X pins Y (upd H h₅.objs.size (.tup [x1,x2])) { s with heap:=h₈,toks:=tk₄ }:=zs3 (s:={ s with heap:=h₇,toks:=tk₄ }) (tk:=tk₄) I7 m hs₈;have up:∀c o,c≠z->h₅.get? c=some o->h₈.get? c=some o:=λc o f e=>hs₈.extBut _ _ f (hs₇.extBut _ _ f (vS _ e));refine aP ⟨_,rfl,?_⟩;exact Z h₅.objs.size x1 x2 _ W (lt hz₅) (lt hTI₅) (lt hTO₅) (lt e1) (lt e2) N M I8 ⟨hz₈,up _ _ D.TIz hTI₅,⟨_,_,up _ _ D.TOz hTO₅⟩,g.keep _ _ _ f λo e=>up _ o D.i1z e,N2.keep _ _ _ C λo e=>up _ o D.i2z e⟩
theorem zo51{E:aC->aH->Prop}{Q:Fin->aH->Prop}(L:A.handled=none)(B:Nx X.prog X.w X.K J1 i1 st1)(N2:Nx X.prog X.w X.K J2 i2 st2)(D:ZAp z TI TO i1 i2)(I:Inv X pins Y H s)
  (fz:FpOk X pins H z) (J:FpOk X pins H TO) (f1:FpOk X pins H i1) (f2:FpOk X pins H i2) (S:ZSt z TI TO i1 i2 .none st1 st2 i s.heap) (g:J1.stop i H \/ (J1.go i H/\J2.stop i H))
  (M:∀h' e tk,Inv X pins Y H { s with heap:=h',toks:=tk }->(∃o,h'.get? e=some o/\o.cls=.type "StopIteration")->E (.ref e) { s with heap:=h',toks:=tk }) :
  aL (aM X.prog X.w) A (Builtin.«zip.__next__» ⟨[.ref z],[]⟩) Q E s:=by
 obtain⟨hz,G,⟨a,b,hTO⟩,W,U⟩:=S;show aL _ _ (gK (.ref z) 2 >>= _) _ _ _;refine aG (bS hz rfl (x:=.bool false) rfl ?_);show aL _ _ (gK (.ref z) 3 >>= _) _ _ _;refine aG (bS hz rfl (x:=.ref TI) rfl ?_);refine aG (b9 G rfl ?_);show aL _ _ (bY (.ref z) >>= _) _ _ _;refine aG ?_;unfold bY;refine aG (bS hz rfl (x:=.none) rfl (aP ?_));simp only[if_true];refine aG (cK ?_);refine aG (bS hz rfl (x:=.ref TO) rfl ?_);refine aG (cL hz (by simp) λh₁ hz₁ hs₁=>?_)
 replace hz₁:fR h₁ z TI TO .ellipsis:=hz₁
 have q:Inv X pins Y H { s with heap:=h₁ }:=zs3 (tk:=s.toks) I fz hs₁;refine aG ?_;simp only[uaH,List.zipIdx_nil,uaE,uaG];refine aG (aG (fK ?_));show aL _ _ (bF (.ref i1) >>= _) _ _ _;have N:st1 i h₁:=B.keep _ _ _ W λo e=>hs₁.extBut _ _ D.i1z e;rcases g with g|⟨g1,Z⟩
 ·refine aG (B.done X rfl rfl rfl _ i pins _ Y H _ _ L q N g λh₂ e hs₂ y=>?_)
  replace hs₂:fF i1 h₁ h₂:=hs₂
  have C:Inv X pins Y H { s with heap:=h₂ }:=zr11 (s:={ s with heap:=h₁ }) (tk:=s.toks) q f1 hs₂;obtain⟨u,f,m⟩:=y;have hz₂:fR h₂ z TI TO .ellipsis:=hs₂ _ _ D.i1z.symm hz₁;have p:e≠z:=λx=>by subst x;rw[hz₂]at f;cases f;simp at m
  exact cL hz₂ (by simp) λh₃ _ hs₃=>M h₃ e s.toks (zs3 (s:={ s with heap:=h₂ }) (tk:=s.toks) C fz hs₃) ⟨u,hs₃.extBut _ _ p f,m⟩
 ·refine aG (B.item X rfl rfl rfl _ i pins _ Y H _ _ q N g1 λx x1 h₂ tk₂ r1 y1 b1 hs₂=>aP ?_)
  replace hs₂:bM i1 h₁ h₂:=hs₂
  have C:Inv X pins Y H { s with heap:=h₂,toks:=tk₂ }:=zs3 (s:={ s with heap:=h₁ }) (tk:=tk₂) q f1 hs₂;have hTO₂:eK h₂ TO a b:=hs₂.extBut _ _ D.TOi1 (hs₁.extBut _ _ D.TOz hTO);refine aG (b9 hTO₂ rfl ?_);refine aG (eU (s:={ s with heap:=h₂,toks:=tk₂ }) hTO₂ λh₃ hTO₃ hs₃=>?_)
  replace hs₃:bM TO h₂ h₃:=hs₃
  have O:Inv X pins Y H { s with heap:=h₃,toks:=tk₂ }:=zs3 (s:={ s with heap:=h₂,toks:=tk₂ }) (tk:=tk₂) C J hs₃;refine aG (iH (aP ?_));refine aG (aG (fK ?_));show aL _ _ (bF (.ref i2) >>= _) _ _ _;have a2:st2 i h₃:=N2.keep _ _ _ U λo e=>hs₃.extBut _ _ D.TOi2.symm (hs₂.extBut _ _ D.i12.symm (hs₁.extBut _ _ D.i2z e));refine aG (N2.done X rfl rfl rfl _ i pins _ Y H _ _ L O a2 Z λh₄ e hs₄ y=>?_)
  replace hs₄:fF i2 h₃ h₄:=hs₄
  have I4:Inv X pins Y H { s with heap:=h₄,toks:=tk₂ }:=zr11 (s:={ s with heap:=h₃,toks:=tk₂ }) (tk:=tk₂) O f2 hs₄;obtain⟨u,f,m⟩:=y;have hz₄:fR h₄ z TI TO .ellipsis:=hs₄ _ _ D.i2z.symm (hs₃.extBut _ _ D.TOz.symm (hs₂.extBut _ _ D.i1z.symm hz₁));have p:e≠z:=λx=>by subst x;rw[hz₄]at f;cases f;simp at m
  exact cL hz₄ (by simp) λh₅ _ hs₅=>M h₅ e tk₂ (zs3 (s:={ s with heap:=h₄,toks:=tk₂ }) (tk:=tk₂) I4 fz hs₅) ⟨u,hs₅.extBut _ _ p f,m⟩
end
def Itz(f g:It):It:=⟨λi H=>f.go i H/\g.go i H,λi H x H'=>∃x1 x2 p,f.yld i H x1 H/\g.yld i H x2 H/\H p=none/\x=.ref p/\H'=upd H p (.tup [x1,x2]),λi H=>f.stop i H \/ (f.go i H/\g.stop i H)⟩
theorem zc01{P:aQ}{O:List aZ}{c:_}{J1 J2:It}{z TI TO B y:aE}{N M:Nat->aX->Prop}(L:Nx P w K J1 B N)(N2:Nx P w K J2 y M)(D:ZAp z TI TO B y) :
  Turn P w K (.Tuple O c pos) (Itz J1 J2) [z,TI,TO,B,y] z (ZSt z TI TO B y .none N M) where
 mem:=by simp
 obj:=λi h S b x=>by
  obtain⟨hz,u,⟨a,Z,m⟩,J,G⟩:=S;simp at x;rcases x with rfl|rfl|rfl|rfl|rfl
  ·exact⟨_,hz,λv q=>by cases q⟩
  ·exact⟨_,u,λv q=>by cases q⟩
  ·exact⟨_,m,λv q=>by cases q⟩
  ·exact L.obj _ _ J
  ·exact N2.obj _ _ G
 keep:=λi h h' S k=>by
  obtain⟨hz,u,⟨a,Z,m⟩,J,G⟩:=S;exact⟨k _ (by simp) _ hz,k _ (by simp) _ u,⟨a,Z,k _ (by simp) _ m⟩,L.keep _ _ _ J λo e=>k _ (by simp) _ e,N2.keep _ _ _ G λo e=>k _ (by simp) _ e⟩
 item:=by
  walk_at"20";subst hP hw hK;have C:s.TypeIs (.ref z) "zip":=⟨_,S.z,rfl⟩
  unfold gG;refine aG (gV (cH (name:=x9 "__next__") C eS
   (dB eS C iQ
    (zpw L N2 D I (f _ (by simp)) (f _ (by simp)) (f _ (by simp)) (f _ (by simp)) S U.1 U.2 λp x1 x2 s' hp n1 n2 n3 n4 n5 y1 y2 I' S'=>aP ?_) (iG _))))
  refine⟨.ref p,rfl,wpAny_letOwnedTupleGo_zip S'.z λh' hz' g=>?_⟩;have nn:∀b∈[z,TI,TO,B,y],b≠p:=λb x=>by
   simp at x;rcases x with rfl|rfl|rfl|rfl|rfl
   ·exact n1.symm
   ·exact n2.symm
   ·exact n3.symm
   ·exact n4.symm
   ·exact n5.symm
  have fz:FpOk X pins (upd H p (.tup [x1,x2])) z:=⟨by rw[zb1 n1.symm];exact(f z (by simp)).1,(f z (by simp)).2⟩
  obtain⟨_,u,⟨a,Z,m⟩,J,G⟩:=S';refine⟨.ref p,_,zs3 (tk:=s'.toks) I' fz g,rfl,⟨x1,x2,p,y1,y2,hp,rfl,rfl⟩,⟨hz',g.extBut _ _ D.TIz u,⟨a,Z,g.extBut _ _ D.TOz m⟩,L.keep _ _ _ J λo e=>g.extBut _ _ D.i1z e,N2.keep _ _ _ G λo e=>g.extBut _ _ D.i2z e⟩,λb x=>?_⟩;rw[zb1 (nn b x)];exact(f b x).1
 done:=by
  walk_at"20";subst hP hw hK;have C:s.TypeIs (.ref z) "zip":=⟨_,S.z,rfl⟩
  unfold gG;refine aG (gV (cH (name:=x9 "__next__") C eS
   (dB eS C iQ (zo51 (I.ok.hd W) L N2 D I (f _ (by simp)) (f _ (by simp)) (f _ (by simp)) (f _ (by simp)) S U λh' e tk I' he=>?_) (iG _))))
  obtain⟨o,ho,W⟩:=he;refine aG (wpAny_isInstance (T := "StopIteration") (b:=true) ⟨o,ho,W⟩ isSubtype_stop ?_);exact aP ⟨rfl,I'⟩
 self:=λ_ _ _ _ _ S h=>iK S.z h
def zd51(h:aX)(v:aC)(ob:Obj):Prop:=∀(prog:aQ)(w:aR)(A:bB)(s:aH)(Q E:aC->aH->Prop),(∀c o,h.get? c=some o->s.heap.get? c=some o)->Q (.ref s.heap.objs.size) { s with heap:=s.heap.push ob }->aL (aM prog w) A (gY v) Q E s
def zipO(h:aX)(f o2:Obj):Heap:=((((h.push f).push o2).push { cls:=.type "tuple",data:=.seq #[.ref h.objs.size,.ref (h.push f).objs.size] }).push { cls:=.type "tuple",data:=.seq #[.none,.none] }).push
 { cls:=.type "zip",data:=.fields #[.none,.bool false,.bool false,.ref ((h.push f).push o2).objs.size,.ref (((h.push f).push o2).push { cls:=.type "tuple",data:=.seq #[.ref h.objs.size,.ref (h.push f).objs.size] }).objs.size] }
theorem zbu(p o:aC)(f o2:Obj) :
  Meets (Builtin.«zip.__new__» ⟨[.type "zip",p,o],[]⟩) (λ_ R s=>zd51 s.heap p f/\zd51 s.heap o o2 /\
   R (.ok (.ret (.ref ((((s.heap.push f).push o2).push { cls:=.type "tuple",data:=.seq #[.ref s.heap.objs.size,.ref (s.heap.push f).objs.size] }).push { cls:=.type "tuple",data:=.seq #[.none,.none] }).objs.size))) { s with heap:=zipO s.heap f o2 }) :=
 .of_wp λprog w A R s h=>by
  obtain⟨m,g,d,tk,os⟩:=s;obtain⟨x,u,h⟩:=h;have q:=sub_zip;have p1:∀{A:bB}{Q E:aC->aH->Prop},Q (.ref m.objs.size) ⟨m.push f,g,d,tk,os⟩->aL (aM prog w) A (gY p) Q E ⟨m,g,d,tk,os⟩:=λ{A Q E} z=>x prog w A ⟨m,g,d,tk,os⟩ Q E (λ_ _ e=>e) z;have p2:∀{A:bB}{Q E:aC->aH->Prop},Q (.ref (m.push f).objs.size) ⟨(m.push f).push o2,g,d,tk,os⟩->aL (aM prog w) A (gY o) Q E ⟨m.push f,g,d,tk,os⟩:=λ{A Q E} z=>u prog w A ⟨m.push f,g,d,tk,os⟩ Q E (λ_ _ e=>vS _ e) z
  wp_walk using p1,p2
  exact⟨_,rfl,h⟩
theorem zrw{prog:aQ}{w:aR}{A:bB}{E:aC->aH->Prop}{u q:aC}{f o2:Obj}{Q:aC->aH->Prop}(J:zd51 s.heap u f)(I:zd51 s.heap q o2)
  (h:∀h',fR h' (s.heap.objs.size+4) (s.heap.objs.size+2) (s.heap.objs.size+3) .none->eK h' (s.heap.objs.size+2) (.ref s.heap.objs.size) (.ref (s.heap.objs.size+1)) ->
   eK h' (s.heap.objs.size+3) .none .none->h'.get? s.heap.objs.size=some f->h'.get? (s.heap.objs.size+1)=some o2->(∀c o,s.heap.get? c=some o->h'.get? c=some o)->Q (.ref (s.heap.objs.size+4)) { s with heap:=h' })
  (f1:f.isFreed=false) (f2:o2.isFreed=false):aL (aM prog w) A (call (.type "zip") [u,q]) Q E s:=by
 refine callType_new F.called_zip (by decide) (F.typeCall_zip_2 _ _) (F.newCall_zip_2 _ _) (λobj=>F.args_object_init_3 obj _ _) F.entry_zip_new (zbu u q f o2) ⟨J,I,?_⟩;have p:(s.heap.push f).objs.size=s.heap.objs.size+1:=xU ..;have m:((s.heap.push f).push o2).objs.size=s.heap.objs.size+2:=by rw[xU,p]
 have g:(((s.heap.push f).push o2).push { cls:=.type "tuple",data:=.seq #[.ref s.heap.objs.size,.ref (s.heap.push f).objs.size] }).objs.size=s.heap.objs.size+3:=by rw[xU,m]
 have z:((((s.heap.push f).push o2).push { cls:=.type "tuple",data:=.seq #[.ref s.heap.objs.size,.ref (s.heap.push f).objs.size] }).push { cls:=.type "tuple",data:=.seq #[.none,.none] }).objs.size=s.heap.objs.size+4:=by rw[xU,g]
 have y:(zipO s.heap f o2).get? ((((s.heap.push f).push o2).push { cls:=.type "tuple",data:=.seq #[.ref s.heap.objs.size,.ref (s.heap.push f).objs.size] }).push { cls:=.type "tuple",data:=.seq #[.none,.none] }).objs.size=some _:=wB _ rfl;have B:(zipO s.heap f o2).get? (((s.heap.push f).push o2).push { cls:=.type "tuple",data:=.seq #[.ref s.heap.objs.size,.ref (s.heap.push f).objs.size] }).objs.size=some _:=vS _ (wB _ rfl);have C:(zipO s.heap f o2).get? ((s.heap.push f).push o2).objs.size=some _:=vS _ (vS _ (wB _ rfl));have G:(zipO s.heap f o2).get? (s.heap.push f).objs.size=some o2:=vS _ (vS _ (vS _ (wB _ f2)));have L:(zipO s.heap f o2).get? s.heap.objs.size=some f:=vS _ (vS _ (vS _ (vS _ (wB _ f1))));show _/\_;rw[m,g,z]at y;rw[p,m]at C;rw[g]at B;rw[p]at G;rw[z];exact⟨⟨_,y,rfl⟩,h _ y C B L G λc o x=>vS _ (vS _ (vS _ (vS _ (vS _ x))))⟩
def kSrc(K:Fg)(x:V)(H:Hp)(R:It->Prop):Prop:=(∃a,x=.ref a/\(∃xs,SqL K H a xs)/\R (Itl K a)) \/ (∃a,x=.ref a/\(∃xs,SqT K H a xs)/\R (Itt K a))
theorem zql{H:Hp}{x:V}{v:aC}{R:It->Prop}(I:Inv X pins Y H s)(r:RelV x v)(h:kSrc X.K x H R) :
  ∃(J:It)(ob:Obj)(st:aE->Nat->aX->Prop),R J/\zd51 s.heap v ob/\ob.isFreed=false/\(∀it,Nx X.prog X.w X.K J it (st it))/\∀it h,h.get? it=some ob->st it 0 h:=by
 rcases h with⟨a,rfl,⟨xs,f⟩,g⟩|⟨a,rfl,⟨xs,f⟩,g⟩
 ·cases r;obtain⟨its,rv,p,hz⟩:=I.list f;refine⟨_,{ cls:=.type "list_iterator",data:=.fields #[.ref a,.int 0 0] },λit i h=>h.IsListIter it a i,g,λprog w A s1 Q E k q=>?_,rfl,λit=>zu41 a it,λit h e=>⟨_,e,rfl,rfl⟩⟩;exact fM (p.isList.at λo e=>k a o e) q
 ·cases r;obtain⟨its,rv,p,hz⟩:=I.tuple f;refine⟨_,{ cls:=.type "tuple_iterator",data:=.fields #[.ref a,.int 0 0] },λit i h=>h.IsTupleIter it a i,g,λprog w A s1 Q E k q=>?_,rfl,λit=>zxc1 a it,λit h e=>⟨_,e,rfl,rfl⟩⟩;obtain⟨o,e,t⟩:=p;exact hV (show s1.heap.IsTuple a its.toArray from⟨o,k a o e,t⟩) q
theorem zap(n:Nat):ZAp (n+4) (n+2) (n+3) n (n+1):=by
 constructor <;> (refine λ(h:(_:Nat)=_)=>?_;lia)
theorem five(n:Nat)(b:Nat)(h:b=n+4 \/ b=n+2 \/ b=n+3 \/ b=n \/ b=n+1):n<=b:=by lia
theorem zib1:bH "zip"=some (.type "zip"):=by decide +kernel
section
variable {X:Cx}{elts:List aZ}
def zxg1(K:Fg)(vs:List V)(H:Hp)(R:It->Hp->Prop):Prop:=∃x1 x2,vs=[x1,x2]/\kSrc K x1 H λg=>kSrc K x2 H λf=>R (Itz g f) H
def iZip(K:Fg)(f:TA):TI:=λY H R=>f Y H λvs g=>zxg1 K vs g R
theorem zc61(hK:X.K=K){c:_}{o:Pos}{a b:aZ}{L:TA}{p pos:Pos}(hg:Gl X "zip")(hm:X.mg "zip"=none)(ha:PA X [a,b] L)(hs:aW [a,b] X.env=[(false,bD a X.env),(false,bD b X.env)]:=by rfl)(g:aW [b] X.env=[(false,bD b X.env)]:=by rfl) :
  PI X (.Tuple elts c o) (.Call (.Name "zip" p) [a,b] [] pos) (iZip K L):=by
 subst hK;walk_at"13";refine Call_ (zui I hg hm zib1 (b6 (thn (ha pos pins s Y H _ I h) λus s1 hz=>?_) (by rw[hs,g]) (by rw[g];rfl)));obtain⟨vs,N,f,u,x⟩:=hz;obtain⟨x1,x2,e,x⟩:=x;subst e;obtain⟨u1,u2,rfl,u,U⟩:=ze81 u;obtain⟨J1,o1,st1,W,z,J,Z,S⟩:=zql f u x;obtain⟨J2,o2,st2,q,y,G,n2,O⟩:=zql f U W;refine zrw z y (λh' hz C B g1 g2 kk=>iK hz ?_) J G;have I2:Inv X pins Y N { s1 with heap:=h' }:=f.kept (t':=s1.toks) kk;refine⟨s1.heap.objs.size+4,[s1.heap.objs.size+4,s1.heap.objs.size+2,s1.heap.objs.size+3,s1.heap.objs.size,s1.heap.objs.size+1],_,_,N,rfl,I2,
  zc01 (Z s1.heap.objs.size) (n2 (s1.heap.objs.size+1)) (zap _),⟨hz,C,⟨_,_,B⟩,S _ _ g1,O _ _ g2⟩,λb M=>?_,q⟩
 have m:s1.heap.objs.size<=b:=by
  simp at M;exact five _ _ M
 exact f.fpOk m (f.hok.fresh m)
end
def entM(w:aR)(e:Str×Tok×aC):DictEntry:=⟨PyData.keyHash w.params e.1,.str e.1 e.2.1,e.2.2⟩
structure KD(w:aR)(K:Fg)(d:aE)(kvs:List (Str×V)):Prop where
 ne:(d == cB)=false
 ex:∃(l:List (Str×Tok×aC))(n:Nat),K.lookup d=some { cls:=.type "dict",data:=.dict (l.map (entM w)).toArray n }/\Paired (λ(p:Str×V)(q:Str×Tok×aC)=>p.1=q.1/\RelV p.2 q.2.2) kvs l
theorem zr61{w:aR}{k:Str}:∀{kvs:List (Str×V)}{l:List (Str×Tok×aC)},Paired (λ(p:Str×V)(q:Str×Tok×aC)=>p.1=q.1/\RelV p.2 q.2.2) kvs l ->
  RelO (kvs.lookup k) (((l.map (entM w)).find? λe=>xZ k e.key).map (·.val))
|_,_,.nil=>trivial
|_,_,.cons (a:=p) (b:=q) h r=>by
  obtain⟨x,v⟩:=p;obtain⟨y,t,u⟩:=q;obtain⟨e,rv⟩:=h;cases e;have o:=zr61 (w:=w) (k:=k) r;show RelO (xB k ((x,v) :: _)) (((entM w (x,t,u) :: _).find? λe=>xZ k e.key).map (·.val));rw[wC,yB];by_cases f:k=x
  ·subst f;have m:(k == k)=true:=beq_self_eq_true k;have g:xZ k (entM w (k,t,u)).key=true:=by simp[entM,xZ]
   rw[m,g];exact rv
  ·have m:(k == x)=false:=beq_eq_false_iff_ne.mpr f;have g:xZ k (entM w (x,t,u)).key=false:=by
    show(x == k)=false;exact beq_eq_false_iff_ne.mpr λe=>f e.symm
   rw[m,g];exact o
section
variable {X:Cx}{pins:List (aE×Obj)}{Y:St}{H:Hp}{s:aH}{d:aE}{kvs:List (Str×V)}
theorem KD.map(D:KD X.w X.K d kvs)(I:Inv X pins Y H s):∃f:Str->Option aC,s.heap.MapOf (gW X.prog X.w) d f/\∀k,RelO (kvs.lookup k) (f k):=by
 obtain⟨l,n,e,r⟩:=D.ex;refine⟨λk=>((l.map (entM X.w)).find? λe=>xZ k e.key).map (·.val),⟨_,(l.map (entM X.w)).toArray,n,I.kIn d _ e,⟨rfl,rfl,rfl⟩,rfl,λe g=>?_,λk=>?_⟩,λk=>zr61 r⟩
 ·obtain⟨q,_,rfl⟩:=vQ.mp (by simpa using g:e∈l.map (entM X.w));exact⟨q.1,by simp[entM,gW,xZ],rfl⟩
 ·show findBy (gW X.prog X.w).is _ k=_;unfold findBy;rw[List.find?_toArray];rfl
def rInM(w:aR)(K:Fg):R2:=λx y H Q=>∃d kvs z,x=.str z/\y=.ref d/\KD w K d kvs/\Q (.bl (kvs.lookup z).isSome) H
def zzv(w:aR)(K:Fg):R2:=λx y H Q=>∃d kvs z,x=.str z/\y=.ref d/\KD w K d kvs/\Q (.bl (!(kvs.lookup z).isSome)) H
def rIxM(w:aR)(K:Fg):R2:=λx y H Q=>∃d kvs z v,x=.ref d/\y=.str z/\KD w K d kvs/\kvs.lookup z=some v/\Q v H
theorem zmc{a:Option V}{b:Option aC}(r:RelO a b):b.isSome=a.isSome:=by
 cases a <;> cases b <;> first|rfl|exact False.elim r
theorem zsa1(hw:X.w=w)(p:X.K=K):OpR X (bC .In) (rInM w K):=by
 subst hw p;walk_at"27";obtain⟨d,kvs,z,rfl,rfl,D,q⟩:=h;obtain⟨t,rfl⟩:=o;cases g;obtain⟨f,m,r⟩:=D.map I;refine wpAny_in_of (k:=z) (fW X.prog X.w z t) D.ne m ?_;rw[zmc (r z)];exact⟨.bl _,H,I.tok _,rfl,q⟩
theorem zlu(hw:X.w=w)(p:X.K=K):OpR X (bC .NotIn) (zzv w K):=by
 subst hw p;walk_at"27";obtain⟨d,kvs,z,rfl,rfl,D,q⟩:=h;obtain⟨t,rfl⟩:=o;cases g;obtain⟨f,m,r⟩:=D.map I;refine lH (k:=z) (fW X.prog X.w z t) D.ne m ?_;rw[zmc (r z)];exact⟨.bl _,H,I.tok _,rfl,q⟩
theorem ix_M(hw:X.w=w)(J:X.K=K):IxR X (rIxM w K):=by
 subst hw J;intro value slice pins s Y H x y v u Q I p o h G;obtain⟨d,kvs,z,C,rfl,rfl,D,e,q⟩:=h;cases p;obtain⟨t,rfl⟩:=o;obtain⟨f,m,r⟩:=D.map I;have g:=r z;rw[e]at g;obtain⟨u,L,B⟩:=g.some_of;exact gP m.typeIs ğh.lookup (iM (k:=z) (fW X.prog X.w z t) m L ⟨C,H,I.tok _,B,q⟩) G
end
def Walks(J:It)(H:Hp)(n:Nat)(f:Nat->V->Hp->Prop):Prop:=∀H',Same H H'->(∀i,i < n->J.go i H')/\J.stop n H'/\∀i x H2,i < n->J.yld i H' x H2->Same H' H2/\f i x H2
def zid1:R2:=λx y H Q=>zqe1 x y H Q \/ zce1 x y H Q
def rInW(w:aR)(K:Fg):R2:=λx y H Q=>rInU K x y H Q \/ rInM w K x y H Q
def zyv(w:aR)(K:Fg):R2:=λx y H Q=>zrv K x y H Q \/ zzv w K x y H Q
def rIxW(w:aR)(K:Fg):R2:=λx y H Q=>rIx K x y H Q \/ rIxM w K x y H Q
def rSlW(K:Fg):V->Option Int->Option Int->Hp->VK->Prop:=λx lo hi H Q=>rSlU K x lo hi H Q \/ rSlS x lo hi H Q
def zyb1(K:Fg)(x:V)(H:Hp)(R:It->Hp->Prop):Prop:=zpg1 K x H R \/ ∃z:Str,x=.str z/\z.cps.all (· < 128)=true/\R (Its z) H
def iW(K:Fg)(tl:TE):TI:=λY H R=>tl Y H λx f=>zyb1 K x f R
section
variable {X:Cx}{w:aR}{K:Fg}{tg:aZ}
theorem zp51:OpR X (bU .Mult) zid1:=zb41.or zb61
theorem zoa1(hw:X.w=w)(f:X.K=K):OpR X (bC .In) (rInW w K):=(zv91 f).or (zsa1 hw f)
theorem zjt(hw:X.w=w)(f:X.K=K):OpR X (bC .NotIn) (zyv w K):=(zks f).or (zlu hw f)
theorem ix_W(hw:X.w=w)(f:X.K=K):IxR X (rIxW w K):=(ix_U f).or (ix_M hw f)
theorem sl_W(f:X.K=K):SlR X (rSlW K):=(sl_U f).or zh51
theorem pi_W(h:X.K=K){l:aZ}{tl:TE}(hl:PE X l tl):PI X tg l (iW K tl):=by
 subst h;walk_at"13";refine thn (hl pins s Y H _ I h) λv s1 hz=>?_;obtain⟨x,y,f,m,B⟩:=hz;rcases B with(⟨a,e,⟨xs,u⟩,q⟩|⟨a,e,⟨xs,u⟩,q⟩)|⟨z,rfl,C,q⟩
 ·subst e;cases m;obtain⟨its,rv,p,hz⟩:=f.list u;refine fM p.isList ?_;refine⟨s1.heap.objs.size,[s1.heap.objs.size],_,_,y,rfl,f.kept (t':=s1.toks) λb o e=>vS _ e,znu a _,⟨_,wB _ rfl,rfl,rfl⟩,λb g=>?_,q⟩;have e:b=s1.heap.objs.size:=by simpa using g
  subst e;exact f.fpOk (u7 _) (f.hok.fresh (u7 _))
 ·subst e;cases m;obtain⟨its,rv,p,hz⟩:=f.tuple u;refine hV (show s1.heap.IsTuple a its.toArray from p) ?_;refine⟨s1.heap.objs.size,[s1.heap.objs.size],_,_,y,rfl,f.kept (t':=s1.toks) λb o e=>vS _ e,zyq a _,⟨_,wB _ rfl,rfl,rfl⟩,λb g=>?_,q⟩;have e:b=s1.heap.objs.size:=by simpa using g
  subst e;exact f.fpOk (u7 _) (f.hok.fresh (u7 _))
 ·obtain⟨t,rfl⟩:=m;refine wpAny_pyIter_ascii C ?_;refine⟨s1.heap.objs.size,[s1.heap.objs.size],_,_,y,rfl,f.kept (t':=s1.toks) λb o e=>vS _ e,ziz z t _,⟨_,wB _ rfl,rfl,rfl⟩,λb g=>?_,q⟩;have e:b=s1.heap.objs.size:=by simpa using g
  subst e;exact f.fpOk (u7 _) (f.hok.fresh (u7 _))
def zie1(K:Fg):List V->Hp->VK->Prop:=λxs H Q=>∃p ys,xs=[.ref p]/\(SqL K H p ys \/ SqT K H p ys)/\∀l,H l=none->Q (.ref l) (upd H l (.lst ys))
theorem zt8(h:X.K=K):CallR X (.type "list") (zie1 K):=h ▸ zyh
end
section
variable {K:Fg}{w:aR}{H:Hp}{Q:VK}{a b:aE}{xs ys:List V}{i:Int}{v:V}{z:Str}{kvs:List (Str×V)}{d:aE}
theorem zwf1(h:SqT K H a xs)(e:atI xs i=some v)(q:Q v H):rIxW w K (.ref a) (.int i) H Q:=.inl (zrg1 h e q)
end
theorem sIx_nat{d:Nat}(h:a<=n):HT.sIx n d (some (a:Int))=a:=by
 unfold HT.sIx;simp;rw[aA (by lia)];lia
theorem sIx_none{d:Nat}:HT.sIx n d none=d:=rfl
theorem zjp(h:a<=xs.length):cutV xs (some (a:Int)) none=xs.drop a:=by
 unfold cutV;rw[sIx_nat h,sIx_none];exact yC (by simp)
theorem zk11{b:Nat}(f:b<=xs.length):cutV xs none (some (b:Int))=xs.take b:=by
 unfold cutV;rw[sIx_none,sIx_nat f];simp
theorem zr6{pos:Pos}(o:X.K=K){k:Nat}{t:TGs}(m:X.calm=true)(h:PGs X es t)
  (g:(dL es X.env).length=n:=by rfl) (f:(dL es X.env).findIdx? (·.1)=none:=by rfl):PG X (.Tuple es k pos) (gTup K n t):=by
 subst o;exact zza1 m h g f
def kBM(K:Fg)(T:String)(r:V->List V->Hp->VK->Prop)(t:TA)(Y:St)(x:V)(H:Hp)(Q:VK):Prop:=tyV K T x H/\t Y H λxs H2=>r x xs H2 Q
def tBMU(K:Fg)(T:String)(r:V->List V->Hp->VK->Prop)(f:TE)(t:TA):TE:=λY H Q=>f Y H λx g=>kBM K T r t Y x g Q
theorem zn9(L:X.K=K){o e:aZ}{z:TE}{t:TA}{name:Str}{m f:Pos}{T id:String}{r:V->List V->Hp->VK->Prop}(B:gR T)(slot:Slot T name id)(y:lV (.builtin id)=pure (.type "method_descriptor"))(I:MtR X id r)(G:PE X o z)(J:PA X (e :: es) t)
  (q:dG o name X.env (bD o X.env)=bD o X.env:=by rfl)
  (u:((b7 f (aW (e :: es) X.env)).all (λx=>!x.1) && (e8 f (dP [] X.env)).all (λx=>x.1.isSome)
   && decide ((e :: es).length+([]:List lD).length+(if([]:List lD).isEmpty then 0 else 1) < 30))=true:=by rfl)
  (p:(m.endLine == f.line)=true:=by rfl) (C:aW (e :: es) X.env=(false,bD e X.env) :: aW es X.env:=by rfl) (g:(b7 f (aW es X.env)).any (·.1)=false:=by rfl) :
  PE X (.Call (.Attribute o name m) (e :: es) [] f) (tBMU K T r z t):=by
 subst L;exact zug1 B slot y I G J q u p C g
def zr21(_ j:Int):Prop:=0 < j/\j < 2 ^ 200
theorem zrn{j:Int}(g:0 < j)(f:j < 2 ^ 200):j.natAbs.log2 < 9000:=by
 have h:j.natAbs.log2 < 200:=(Nat.log2_lt (by lia)).mpr (by lia);lia
theorem zi2:OpR X (bU .FloorDiv) (rI zr21 λi j=>.int (i / j)):=opI λi j _ _ _ _ _ f q=>by
 have g:(0:Int) < j:=f.1;exact floordiv_int (by lia) (by rw[ua8 i (by lia)];exact q) (.inl (PyProof.noPylong_of_log2 (zrn f.1 f.2)))
def zzn{α:Type}(xs:List α)(lo hi st:Option Int):List α:=(fS (bT lo hi st xs.length).1 (bT lo hi st xs.length).2.1 (bT lo hi st xs.length).2.2).filterMap (xs[·]?)
theorem zlc{xs:List V}{vs:List aC}(h:Vals xs vs):∀f:List Nat,Vals (f.filterMap (xs[·]?)) (f.filterMap (vs[·]?))
|[]=>.nil
|j :: f=>by
  have m:=zlc h f;cases g:xs[j]? with
 |some n =>
   obtain⟨u,p,r⟩:=h.get g;simp only[w8,g,p];exact .cons r m
 |none =>
   have o:=h.none_of g;simp only[w8,g,o];exact m
theorem zzt{vs:List aC}(h:Vals xs vs)(lo hi st:Option Int):Vals (zzn xs lo hi st) (gA vs.toArray lo hi st).toList:=by
 have e:(gA vs.toArray lo hi st).toList=(fS (bT lo hi st xs.length).1 (bT lo hi st xs.length).2.1 (bT lo hi st xs.length).2.2).filterMap (vs[·]?):=by
  simp[gA,h.length]
 rw[e];exact zlc h _
def rSl3(K:Fg):V->Option Int->Option Int->Option Int->Hp->VK->Prop:=λx lo hi st H Q=>∃a xs,x=.ref a/\SqL K H a xs/\st≠some 0/\∀p,H p=none->Q (.ref p) (upd H p (.lst (zzn xs lo hi st)))
def tSl3(K:Fg)(g:TE)(tl f tk:TO):TE:=λY H Q=>g Y H λx p=>tl Y p λl H2=>f Y H2 λu o=>tk Y o λst m=>rSl3 K x l u st m Q
theorem zfu(hK:X.K=K){e:aZ}{p:TE}{lo hi:Option aZ}{st:aZ}{tl m tk:TO}{p2:Pos}(he:PE X e p)(hl:PO X lo tl)(Z:PO X hi m)(hs:PO X (some st) tk):PE X (.Subscript e (.Slice lo hi (some st) p2) pos) (tSl3 K p tl m tk):=by
 subst hK;walk_at"1";refine iY (thn (he pins s Y H _ I h) λv s1 hz=>?_);obtain⟨x,H1,I1,J,O⟩:=hz;refine wpAny_Slice (thn (hl pins s1 Y H1 _ I1 O) λC s2 ⟨l,H2,I2,pl,N⟩=>thn (Z pins s2 Y H2 _ I2 N) λB s3 ⟨u,H3,I3,S,M⟩=>thn (hs pins s3 Y H3 _ I3 M) λG f hz=>?_);obtain⟨k,H4,I4,U,L⟩:=hz;obtain⟨a,xs,rfl,W,h0,q⟩:=L;cases J;have g:Inv X pins Y H4 { f with heap:=f.heap.push { cls:=.type "slice",data:=.fields #[C,B,G] } }:=I4.kept (t':=f.toks) λb ob q=>vS _ q;obtain⟨its,r,y,hz⟩:=g.list W;have z:=r.length;refine gP (T := "list") (ops:=[.ref a,.ref f.heap.objs.size]) y.isList.typeIs slot_list_getitem.lookup (fX y.isList (Heap.IsSliceOf.new ..) pl S U h0 ?_ (by rw[vZ] <;> lia)) (by with_unfolding_all rfl);have rv:=zzt r l u k;refine⟨.ref _,_,g.laid (t':=f.toks) (o:=.lst (zzn xs l u k)) (λb ob q=>vS _ q) (u7 _) ?_,rfl,q _ (g.hok.fresh (u7 _))⟩;refine⟨?_,_,0,rv,?_⟩
 ·have:=slicePick_size_le its.toArray l u k;have e:=rv.length;simp only[xT,vZ]at this e;lia
 ·rw[Array.toArray_toList];exact wB _ rfl
def rSum(K:Fg):List V->Hp->VK->Prop:=λvs H Q=>∃(a:aE)(ns:List Int),vs=[.ref a]/\SqL K H a (ns.map V.int)/\Q (.int ns.sum) H
theorem zd5(h:X.K=K)(x:X.calm=true):CallR X (.builtin "sum") (rSum K):=by
 subst h;walk_at"4";obtain⟨a,ns,rfl,m,q⟩:=h;obtain⟨u,rfl,g⟩:=zry r;cases g;obtain⟨its,rv,p,hz⟩:=I.list m;have hi:cI its ns:=znb rv;obtain⟨ys,f⟩:=hi.allInts.items;have hl:s.heap.IsList a (intItems ys):=f ▸ p.isList;refine sum_intListG (I.ok.hd x) hl λh' tk t' o=>?_;have z:ns=ys.toList.map (·.1):=by
  rw[<- nums_intItems,<- f];exact(show numsOf its.toArray.toList=ns from hi.numsOf).symm
 have y:preSum (numAt ys) ys.size=ns.sum:=by
  rw[preSum_eq,yC (by simp),z]
 rw[y];exact⟨.int ns.sum,H,I.kept o,⟨_,rfl⟩,q⟩
def zmv:List V->Hp->VK->Prop:=λvs H Q=>∃i j,vs=[.int i,.int j]/\0 < j/\j < 2 ^ 200/\∀p,H p=none->Q (.ref p) (upd H p (.tup [.int (i / j),.int (i % j)]))
theorem zng:CallR X (.builtin "divmod") zmv:=by
 walk_at"4";obtain⟨i,j,rfl,g,f,q⟩:=h;obtain⟨u,m,rfl,⟨t,rfl⟩,⟨t',rfl⟩⟩:=ze81 r;refine divmod_int (by lia) ?_ (.inl (PyProof.noPylong_of_log2 (zrn g f)));rw[ua8 i (by lia),ua1 i (by lia)];refine⟨.ref s.heap.objs.size,_,I.laid (t':=s.toks+1+1) (o:=.tup [.int (i / j),.int (i % j)]) (λb ob q=>vS _ q) (u7 _) ?_,rfl,q _ (I.hok.fresh (u7 _))⟩;exact⟨by show 2<=sizeLine;rw[aY];decide,[.int (i / j) s.toks,.int (i % j) (s.toks+1)],.cons ⟨_,rfl⟩ (.cons ⟨_,rfl⟩ .nil),IsTup.new _ _⟩
theorem zsi:bH "sum"=some (.builtin "sum"):=by decide +kernel
theorem zeu:bH "divmod"=some (.builtin "divmod"):=by decide +kernel
theorem zrs:bH "sorted"=some (.builtin "sorted"):=by decide +kernel
def Fit(n:Nat)(d:a6):Prop:=d.canLay0=true/\d.depth<=n
theorem zl8:∀{ds:List a6},(∀d∈ds,d.canLay0=true)->zX ds=true
|[],_=>rfl
|d :: ds,h=>by
  show(d.canLay0 && zX ds)=true;rw[h d (by simp),zl8 λe f=>h e (wA _ f)];rfl
theorem zh9{n:Nat}:∀{ds:List a6},(∀d∈ds,d.depth<=n)->zY ds<=n
|[],_=>wH _
|d :: ds,h=>by
  show max d.depth (zY ds)<=n;have:=h d (by simp);have:=zh9 λe f=>h e (wA d f);lia
theorem Fit.tup{n:Nat}{ds:List a6}(h:∀d∈ds,Fit n d):Fit (n+1) (.tuple ds):=⟨by show zX ds=true;exact zl8 λd hd=>(h d hd).1,by show zY ds+1<=n+1;have:=zh9 λd hd=>(h d hd).2;lia⟩
theorem Fit.lst{n:Nat}{ds:List a6}(h:∀d∈ds,Fit n d):Fit (n+1) (.list ds):=⟨by show zX ds=true;exact zl8 λd hd=>(h d hd).1,by show zY ds+1<=n+1;have:=zh9 λd hd=>(h d hd).2;lia⟩
theorem Fit.int{n:Nat}(i:Int):Fit n (.int i):=⟨rfl,wH _⟩
theorem Fit.str{n:Nat}{x:Str}(h:x.cps.all (· < 0x110000)=true):Fit n (.str x):=⟨h,wH _⟩
theorem Fit.mono{m:Nat}{d:a6}(h:Fit n d)(f:n<=m):Fit m d:=⟨h.1,wL h.2 f⟩
theorem Fit.shaped{n:Nat}{d:a6}(h:Fit n d)(f:n<=64):bI d=true:=by
 unfold bI;rw[h.1,bK (wL h.2 f)];rfl
theorem Fit.eqv{d:a6}(h:Fit n d):xD d d=true:=lM d h.1
def zh81(K:Fg):Sp:=λvs H Q _=>∃(a:aE)(ns:List Int),vs=[.ref a]/\SqL K H a (ns.map V.int)/\ns.length<=63/\∀H',Q (.bl true) H'
theorem law_walk{k:Nat}{l:gD}{q:aQ}{g:List Str}{J:(Str->Option aC)->aX->Prop}{y:aR->aX->Prop}{d:DefRec}{K:lW->Fg}(C:Room k e6)(B:l.most=some 63)(m:d.params.defaults=[])
  (G:∀(w:aR)(h:aX),y w h->(K w.params).In h)
  (F:∀(w:aR)(mg:Str->Option aC)(p:aE)(h:aX),(K w.params).In h->h.Ns aT mg->mg d.name=some (.ref p) ->
   ∃o:cZ,(∀(s:aH)(u:aC),e7 s o ⟨[u],[]⟩ [("script",u)])/\∀base:aX,(K w.params).In base->base.Ns aT mg->FnOk l.prog w (K w.params) mg base CX0 k p o ["script"] (zh81 (K w.params))) :
  lQ q g J y l.row.toRowW d [] (λf vs=>iZ f vs) :=
 _2.walk_of (n:=63) (k:=k) (x := "script") (CX:=λ_=>CX0) (sp:=λw=>zh81 (K w.params)) B (by decide) m C G F (λ_ _ a ns hl _ I=>⟨a,ns,rfl,I,hl,λ_=>rfl⟩) λ_ _ _ _ _ z=>z
end _3
namespace _2
open PySem PySem.Spec PyProof.Rows
variable {H':Hp}{X:Cx}{a b:aE}{h':aX}{kvs:List (List Key×V)}{o:Option V}{pos:Pos}{trs:List (TE×TE)}{u:aC}{w:aR}{xs:List (List Key×aE×aC)}{y:V}
section
variable {κ:Type}[DecidableEq κ]
def valV(kvs:List (κ×V))(k:κ):Option V:=(kvs.find? λf=>decide (f.1=k)).map (·.2)
def putK(kvs:List (κ×V))(k:κ)(v:V):List (κ×V) :=
 if(kvs.any λf=>decide (f.1=k))=true then kvs.map (λf=>if f.1=k then(f.1,v)else f)else kvs++[(k,v)]
theorem zug{p:κ×V}{r:List (κ×V)}{k:κ}(e:p.1=k):valV (p :: r) k=some p.2:=by simp[valV,yB,e]
theorem zkh{p:κ×V}{r:List (κ×V)}{k:κ}(e:¬p.1=k):valV (p :: r) k=valV r k:=by simp[valV,yB,e]
theorem zko(k:κ):∀kvs:List (κ×V),(kvs.any λf=>decide (f.1=k))=(valV kvs k).isSome
|[]=>rfl
|p :: r=>by
  rw[xV];by_cases e:p.1=k
  ·simp only[zug e,bK e,Bool.true_or,ua6]
  ·rw[zkh e,a7 e,Bool.false_or];exact zko k r
theorem zz2(kvs:List (κ×V))(k:κ)(v:V):(putK kvs k v).length<=kvs.length+1:=by
 unfold putK;split
 ·rw[u4];lia
 ·rw[vT,xA,List.length_nil];lia
theorem RelO.isSome_eq{u:Option aC}(r:RelO o u):o.isSome=u.isSome:=by
 cases o with
|none=>cases u with
 |none=>rfl
 |some _=>exact(show False from r).elim
|some _=>cases u with
 |none=>exact(show False from r).elim
 |some _=>rfl
theorem KV.val{kvs:List (κ×V)}{vs:List (κ×aC)}(r:KV kvs vs)(k:κ):RelO (valV kvs k) (fT vs k):=by
 unfold KV at r
 induction r with
|nil=>exact True.intro
|@cons p q ps qs h t m =>
  obtain⟨g,x⟩:=h;by_cases e:p.1=k
  ·have f:q.1=k:=g.symm.trans e;have b:fT (q :: qs) k=some q.2:=by simp[fT,yB,f]
   rw[zug e,b];exact x
  ·have f:¬q.1=k:=λz=>e (g.trans z);have b:fT (q :: qs) k=fT qs k:=by simp[fT,yB,f]
   rw[zkh e,b];exact m
theorem KV.any{kvs:List (κ×V)}{vs:List (κ×aC)}(r:KV kvs vs)(k:κ):(kvs.any λf=>decide (f.1=k))=vs.any λf=>decide (f.1=k):=by
 unfold KV at r
 induction r with
|nil=>rfl
|cons h t g=>rw[xV,xV,g,h.1]
theorem KV.repl{kvs:List (κ×V)}{vs:List (κ×aC)}(r:KV kvs vs)(k:κ)(m:RelV y u) :
  KV (kvs.map λf=>if f.1=k then(f.1,y)else f) (vs.map λf=>if f.1=k then(f.1,u)else f):=by
 unfold KV at r ⊢
 induction r with
|nil=>exact .nil
|@cons p q ps qs h t x =>
  rw[v4,v4];refine .cons ?_ x;obtain⟨g,B⟩:=h;by_cases e:p.1=k
  ·rw[aF e,aF (g.symm.trans e)];exact⟨g,m⟩
  ·rw[aA e,aA (λz=>e (g.trans z))];exact⟨g,B⟩
theorem KV.put{kvs:List (κ×V)}{vs:List (κ×aC)}(r:KV kvs vs)(k:κ)(f:RelV y u):KV (putK kvs k y) (stored vs k u):=by
 unfold putK stored;rw[r.any k];by_cases e:(vs.any λg=>decide (g.1=k))=true
 ·rw[aF e,aF e];exact r.repl k f
 ·rw[aA e,aA e];exact l3 r ⟨rfl,f⟩
theorem KV.length{kvs:List (κ×V)}{vs:List (κ×aC)}(r:KV kvs vs):kvs.length=vs.length:=d9 r
end
theorem zux{P:aQ}{k:Key}(r:RelV (kV k) u):(ze2 P w).is k u=true:=by
 cases k with
|inl i=>obtain⟨t,e⟩:=(show ∃t,u=zD i t from r);subst e;exact zal P w i t
|inr x=>obtain⟨t,e⟩:=(show ∃t,u=zE x t from r);subst e;exact zqk P w x t
theorem znj{P:aQ}{w:aR}:∀{f:List Key}{us:List aC},Vals (f.map kV) us->ItemsAre (ze2 P w) f us
|[],_,r=>by rw[yR]at r;cases r;exact .nil
|k :: f,_,r=>by
  rw[v4]at r;cases r with
 |cons h t=>exact .cons (zux h) (znj t)
abbrev KT(H:Hp):List (List Key×V)->List (List Key×aE×aC)->Prop:=Paired λp q=>p.1=q.1/\H q.2.1=some (.tup (p.1.map kV))/\RelV p.2 q.2.2
theorem KT.val{H:Hp}(r:KT H kvs xs)(k:List Key):RelO (valV kvs k) ((fZ xs k).map (·.2)):=by
 induction r with
|nil=>exact True.intro
|@cons p q ps qs h t m =>
  obtain⟨g,_,x⟩:=h;by_cases e:p.1=k
  ·have f:q.1=k:=g.symm.trans e;have b:fZ (q :: qs) k=some q.2:=by simp[fZ,yB,f]
   rw[zug e,b];exact x
  ·have f:¬q.1=k:=λz=>e (g.trans z);have b:fZ (q :: qs) k=fZ qs k:=by simp[fZ,yB,f]
   rw[zkh e,b];exact m
theorem KT.repl{H:Hp}(r:KT H kvs xs)(k:List Key)(x:RelV y u) :
  KT H (kvs.map λg=>if g.1=k then(g.1,y)else g) (xs.map (putAt k u)):=by
 induction r with
|nil=>exact .nil
|@cons p q ps qs h t B =>
  rw[v4,v4];refine .cons ?_ B;obtain⟨f,m,C⟩:=h;unfold putAt;by_cases e:p.1=k
  ·rw[aF e,aF (f.symm.trans e)];exact⟨f,m,x⟩
  ·rw[aA e,aA (λz=>e (f.trans z))];exact⟨f,m,C⟩
theorem KT.put{H:Hp}(r:KT H kvs xs)(k:List Key)(m:H b=some (.tup (k.map kV)))(f:RelV y u) :
  KT H (putK kvs k y) (storedH xs k b u):=by
 have e:(kvs.any λg=>decide (g.1=k))=(fZ xs k).isSome:=by
  rw[zko,(r.val k).isSome_eq,zL]
 unfold putK storedH;rw[e];by_cases q:(fZ xs k).isSome=true
 ·rw[aF q,aF q];exact r.repl k f
 ·rw[aA q,aA q];exact l3 r ⟨rfl,m,f⟩
theorem KT.keeps{H:Hp}(r:KT H kvs xs)(f:∀b ys,H b=some (.tup ys)->H' b=some (.tup ys)):KT H' kvs xs :=
 Paired.mapP r λ_ _ z=>⟨z.1,f _ _ z.2.1,z.2.2⟩
section
variable {P:aQ}{w:aR}{H:Hp}{h:aX}{a:aE}
theorem zpd1{u:HO}(ok:HOk P w H h)(e:Rd H a u):ObjOk P w H h a u:=e.ok ok
theorem zc41{kvs:List (Key×V)}(ok:HOk P w H h)(e:Rd H a (.dK kvs)):kvs.length<=sizeLine/\(a == cB)=false/\∃vs,KV kvs vs/\h.DictOf (ze2 P w) a vs :=
 show ObjOk P w H h a (.dK kvs)from zpd1 ok e
theorem zl81{kvs:List (Key×V)}(ok:HOk P w H h)(e:H a=some (.dK kvs)):kvs.length<=sizeLine/\(a == cB)=false/\∃vs,KV kvs vs/\h.DictOf (ze2 P w) a vs:=zc41 ok (.inl e)
theorem zfl{f:List Key}(ok:HOk P w H h)(e:H a=some (.tup (f.map kV))):(f8 (ze2 P w)).is h f a:=by
 obtain⟨_,its,r,o,p,m,n,g⟩:=(show ObjOk P w H h a (.tup (f.map kV))from ok a _ e)
 exact⟨o,its.toArray,n,p,m,g,by simpa using znj r⟩
theorem zg51(ok:HOk P w H h)(e:Rd H a (.dT kvs)):kvs.length<=sizeLine/\(a == cB)=false /\
  ∃xs,KT H kvs xs/\h.DictOfH (f8 (ze2 P w)) a xs:=by
 obtain⟨z,y,xs,r,o,es,ep,L,J,I,G,C⟩:=(show ObjOk P w H h a (.dT kvs)from zpd1 ok e)
 refine⟨z,y,xs,r,o,es,ep,L,J,I,G,λx f=>?_,C⟩;have all:∀{l:List (List Key×V)}{m:List (List Key×aE×aC)},KT H l m->∀x∈m,(f8 (ze2 P w)).is h x.1 x.2.1:=by
  intro l m q
  induction q with
 |nil=>intro x f;exact nomatch f
 |@cons p q ps qs g t B =>
   intro x f;rcases vR.mp f with e|f
   ·subst e;exact zfl ok (by rw[<- g.1];exact g.2.1)
   ·exact B x f
 exact all r x f
theorem ztd1(ok:HOk P w H h)(e:H a=some (.dT kvs)):kvs.length<=sizeLine/\(a == cB)=false /\
  ∃xs,KT H kvs xs/\h.DictOfH (f8 (ze2 P w)) a xs:=zg51 ok (.inl e)
end
def DGet(H:Hp)(a:aE)(y:V)(r:Option V):Prop :=
 (∃kvs k,Rd H a (.dK kvs)/\y=kV k/\r=valV kvs k) \/ ∃kvs k b,Rd H a (.dT kvs)/\y=.ref b/\H b=some (.tup (k.map kV))/\r=valV kvs k
def DPut(H:Hp)(a:aE)(y v:V)(H':Hp):Prop :=
 (∃kvs k,H a=some (.dK kvs)/\y=kV k/\kvs.length < sizeLine/\H'=upd H a (.dK (putK kvs k v))) \/
 ∃kvs k b,H a=some (.dT kvs)/\y=.ref b/\H b=some (.tup (k.map kV))/\kvs.length < sizeLine/\H'=upd H a (.dT (putK kvs k v))
theorem DGet.k{H:Hp}{a:aE}{kvs:List (Key×V)}{k:Key}(e:H a=some (.dK kvs)):DGet H a (kV k) (valV kvs k):=.inl ⟨kvs,k,.inl e,rfl,rfl⟩
theorem DGet.t{H:Hp}{k:List Key}(e:H a=some (.dT kvs))(f:H b=some (.tup (k.map kV))):DGet H a (.ref b) (valV kvs k):=.inr ⟨kvs,k,b,.inl e,rfl,f,rfl⟩
theorem DPut.k{H:Hp}{a:aE}{kvs:List (Key×V)}{k:Key}{v:V}(e:H a=some (.dK kvs))(hl:kvs.length < sizeLine):DPut H a (kV k) v (upd H a (.dK (putK kvs k v))):=.inl ⟨kvs,k,e,rfl,hl,rfl⟩
theorem DPut.t{H:Hp}{k:List Key}{v:V}(e:H a=some (.dT kvs))(f:H b=some (.tup (k.map kV)))(hl:kvs.length < sizeLine) :
  DPut H a (.ref b) v (upd H a (.dT (putK kvs k v))):=.inr ⟨kvs,k,b,e,rfl,f,hl,rfl⟩
section
variable {X:Cx}{pins:List (aE×Obj)}{Y:St}{H:Hp}{s:aH}{a:aE}{y v:V}{u r:aC}{o:Option V}{A:bB}{E:aC->aH->Prop}
theorem Inv.big(I:Inv X pins Y H s):cB < s.heap.objs.size:=by
 have h:aT < s.heap.objs.size:=(I.mod.glob.keeps I.bk).lt;exact Nat.lt_trans (by decide) h
theorem zlk{Q:aC->aH->Prop}(J:A.units+1 < cJ)(I:Inv X pins Y H s)(g:DGet H a y (some v))(G:RelV y u)(h:∀q s',Inv X pins Y H s'->RelV v q->Q q s') :
  aL (aM X.prog X.w) A (eZ (.ref a) u) Q E s:=by
 rcases g with⟨kvs,k,e,x,l⟩|⟨kvs,k,b,e,x,M,l⟩
 ·subst x;obtain⟨z,hd,vs,m,B⟩:=zc41 I.hok e;obtain⟨q,hw,f⟩:=RelO.some_of (v:=v) (o:=fT vs k) (by rw[l];exact m.val k);exact iM (zux G) B.mapOf hw (h q _ (I.tok _) f)
 ·subst x;cases (show u=vX b from G);obtain⟨z,hd,xs,m,B⟩:=zg51 I.hok e;obtain⟨q,hw,f⟩:=RelO.some_of (v:=v) (o:=(fZ xs k).map (·.2)) (by rw[l];exact m.val k);obtain⟨p,L,C⟩:=w6.mp hw;refine wpAny_getItem_heap (dH J) (zfl I.hok M) B L ?_;rw[C];exact h q _ (I.tok _) f
theorem d_in{Q:aC->aH->Prop}(B:A.units+1 < cJ)(I:Inv X pins Y H s)(g:DGet H a y o)(x:RelV y u)(h:∀s',Inv X pins Y H s'->Q (.bool o.isSome) s') :
  aL (aM X.prog X.w) A (bC .In u (.ref a)) Q E s:=by
 rcases g with⟨kvs,k,e,m,l⟩|⟨kvs,k,b,e,m,C,l⟩
 ·subst m;obtain⟨z,hd,vs,f,p⟩:=zc41 I.hok e;refine wpAny_in_of (zux x) hd p.mapOf ?_;rw[<- (f.val k).isSome_eq,<- l];exact h _ (I.tok _)
 ·subst m;cases (show u=vX b from x);obtain⟨z,hd,xs,f,p⟩:=zg51 I.hok e;refine wpAny_in_heap (dH B) (zfl I.hok C) hd p ?_;have q:=(f.val k).isSome_eq;rw[zL]at q;rw[<- q,<- l];exact h _ (I.tok _)
theorem ze61{Q:aC->aH->Prop}(B:A.units+1 < cJ)(I:Inv X pins Y H s)(g:DGet H a y o)(x:RelV y u)(h:∀s',Inv X pins Y H s'->Q (.bool (!o.isSome)) s') :
  aL (aM X.prog X.w) A (bC .NotIn u (.ref a)) Q E s:=by
 rcases g with⟨kvs,k,e,m,l⟩|⟨kvs,k,b,e,m,C,l⟩
 ·subst m;obtain⟨z,hd,vs,f,p⟩:=zc41 I.hok e;refine lH (zux x) hd p.mapOf ?_;rw[<- (f.val k).isSome_eq,<- l];exact h _ (I.tok _)
 ·subst m;cases (show u=vX b from x);obtain⟨z,hd,xs,f,p⟩:=zg51 I.hok e;refine wpAny_notIn_heap (dH B) (zfl I.hok C) hd p ?_;have q:=(f.val k).isSome_eq;rw[zL]at q;rw[<- q,<- l];exact h _ (I.tok _)
theorem zgf{t':Nat}{ob:HO}(I:Inv X pins Y H s)(f:Mut (H a))(g:bM a s.heap h')(m:∃q,h'.get? a=some q)(new:ObjOk X.prog X.w (upd H a ob) h' a ob) :
  Inv X pins Y (upd H a ob) { s with heap:=h',toks:=t' } :=
 I.write (x:=a) (e:=a) f (.inl rfl) (λb q p z=>(g.2 b p).trans z) m new
theorem zyx{P:aQ}{kvs:List (Key×V)}{vs:List (Key×aC)}(z:kvs.length<=sizeLine)(hd:(a == cB)=false)(f:KV kvs vs)(g:h'.DictOf (ze2 P w) a vs) :
  ObjOk P w H' h' a (.dK kvs):=⟨z,hd,vs,f,g⟩
theorem zku{Q:Unit->aH->Prop}(N:A.units+1 < cJ)(I:Inv X pins Y H s)(g:DPut H a y v H')(J:RelV y u)(rv:RelV v r)(h:∀s',Inv X pins Y H' s'->Q () s') :
  aL (aM X.prog X.w) A (lC (.ref a) u r) Q E s:=by
 rcases g with⟨kvs,k,e,B,l,C⟩|⟨kvs,k,b,e,B,M,l,C⟩
 ·subst B C;obtain⟨z,hd,vs,f,G⟩:=zl81 I.hok e;have hz:vs.length<=sizeLine:=by rw[<- f.length];exact z
  have hl:(putK kvs k v).length<=sizeLine:=by have:=zz2 kvs k v;lia
  refine wpAny_setItem_pairs (hsz:=hz) (zux J) G λh' m x=>h _ ?_;have O:∃q,h'.get? a=some q:=let ⟨q,_,_,p,_⟩:=m;⟨q,p⟩;exact zgf I (by rw[e];exact True.intro) x O (zyx hl hd (f.put k rv) m)
 ·subst B C;cases (show u=vX b from J);obtain⟨z,hd,xs,f,G⟩:=ztd1 I.hok e;have hz:xs.length<=sizeLine:=by rw[<- d9 f];exact z
  have hl:(putK kvs k v).length<=sizeLine:=by have:=zz2 kvs k v;lia
  refine wpAny_setItem_heap (hsz:=hz) (dH N) (zfl I.hok M) G λh' m x=>h _ ?_;obtain⟨q,es,ep,p,Z,W,U,_,S⟩:=m;refine zgf I (by rw[e];exact True.intro) x ⟨q,p⟩ ⟨hl,hd,_,(f.put k M rv).keeps λc ys L=>?_,q,es,ep,p,Z,W,U,S⟩;rw[zb1 (zme1 L e (λz=>nomatch z))];exact L
end
theorem zll{pins:List (aE×Obj)}{Y:St}{H:Hp}{s:aH}(I:Inv X pins Y H s)(g:DGet H a y o):s.TypeIs (.ref a) "dict":=by
 rcases g with⟨kvs,k,e,_,_⟩|⟨kvs,k,b,e,_,_,_⟩
 ·obtain⟨_,_,vs,_,f⟩:=zc41 I.hok e;exact f.typeIs
 ·obtain⟨_,_,xs,_,f⟩:=zg51 I.hok e;exact f.typeIs
theorem zyn{P:aQ}{H:Hp}(h:aX)(f:cB < h.objs.size):ObjOk P w H (h.push { cls:=.type "dict",data:=.dict #[] }) h.objs.size (.dK []) :=
 ⟨wH _,beq_eq_false_iff_ne.mpr (Ne.symm (wP f)),[],.nil,Heap.DictOf.new h⟩
theorem zpn{P:aQ}{H:Hp}(h:aX)(f:cB < h.objs.size):ObjOk P w H (h.push { cls:=.type "dict",data:=.dict #[] }) h.objs.size (.dT []) :=
 ⟨wH _,beq_eq_false_iff_ne.mpr (Ne.symm (wP f)),[],.nil,_,#[],0,wB _ rfl,⟨rfl,rfl,rfl⟩,rfl,rfl,List.nodup_nil⟩
def zl41:TE:=λ_ H Q=>∀p,H p=none->Q (.ref p) (upd H p (.dT []))
section
variable {X:Cx}{pos:Pos}
theorem zhy:PE X (.Dict [] [] pos) zl41:=λpins s Y H Q I h =>
 wpAny_Dict_empty ⟨.ref s.heap.objs.size,_,I.laid (a:=s.heap.objs.size) (o:=.dT []) (t':=s.toks) (λ_ _ q=>vS _ q) (u7 _) (zpn s.heap I.big),rfl,h _ (I.hok.fresh (u7 _))⟩
end
def zp01:List (TE×TE)->St->Hp->(List (V×V)->Hp->Prop)->Prop
|[],_,H,Q=>Q [] H
|(tk,tv) :: r,Y,H,Q=>tk Y H λx g=>tv Y g λy H2=>zp01 r Y H2 λps f=>Q ((x,y) :: ps) f
abbrev VV:List (V×V)->List (aC×aC)->Prop:=Paired λp q=>RelV p.1 q.1/\RelV p.2 q.2
def PPs(X:Cx)(pos:Pos)(keys:List (Option aZ))(f:List aZ)(trs:List (TE×TE)):Prop :=
 ∀(pins:List (aE×Obj))(s:aH)(Y:St)(H:Hp)(Q:List (V×V)->Hp->Prop),Inv X pins Y H s->zp01 trs Y H Q ->
  aL (aM X.prog X.w) X.A (evalPairs (pairTrees keys f X.env pos)) (λvs s'=>∃ps H',Inv X pins Y H' s'/\VV ps vs/\Q ps H') X.xe s
theorem zj41:PPs X pos [] [] []:=λpins s Y H Q I h=>pairTrees_nil_walk ⟨[],H,I,.nil,h⟩
theorem zix{k v:aZ}{m:List (Option aZ)}{vs:List aZ}{tk g:TE}(J:PE X k tk)(G:PE X v g)(hr:PPs X pos m vs trs) :
  PPs X pos (some k :: m) (v :: vs) ((tk,g) :: trs):=λpins s Y H Q I h =>
 pairTrees_cons_walk (thn (J pins s Y H _ I h) λu s1 ⟨x,S,N,q,C⟩=>thn (G pins s1 Y S _ N C) λU s2 ⟨y,H2,M,p,B⟩ =>
  thn (hr pins s2 Y H2 _ M B) λws s3 ⟨ps,O,L,f,z⟩=>⟨(x,y) :: ps,O,L,.cons ⟨q,p⟩ f,z⟩)
def zrg(kvs f:List (Key×V)):List (Key×V):=f.foldl (λacc g=>putK acc g.1 g.2) kvs
theorem KV.merge:∀{f:List (Key×V)}{rs:List (Key×aC)}{kvs:List (Key×V)}{vs:List (Key×aC)},KV f rs->KV kvs vs->KV (zrg kvs f) (merged vs rs):=by
 intro f rs kvs vs r;unfold KV at r
 induction r generalizing kvs vs with
|nil=>intro q;exact q
|@cons p q ps qs h t m =>
  intro g;have e:KV (putK kvs p.1 p.2) (stored vs q.1 q.2):=by
   have:=g.put p.1 h.2;rw[<- h.1];exact this
  exact m e
theorem zv9:∀(f kvs:List (Key×V)),(zrg kvs f).length<=kvs.length+f.length
|[],kvs=>by show kvs.length<=kvs.length+0;lia
|p :: r,kvs=>by
  have m:=zv9 r (putK kvs p.1 p.2);have g:=zz2 kvs p.1 p.2;show(zrg (putK kvs p.1 p.2) r).length<=_;rw[xA];lia
theorem zye{P:aQ}{w:aR}:∀{kvs:List (Key×V)}{ws:List (aC×aC)},VV (kvs.map λf=>(kV f.1,f.2)) ws->∃rs,Carries (ze2 P w) ws rs/\KV kvs rs
|[],_,r=>by rw[yR]at r;cases r;exact⟨[],True.intro,.nil⟩
|p :: kvs,_,r=>by
  rw[v4]at r;cases r with
 |@cons a b as bs h t =>
   obtain⟨rs,c,q⟩:=zye (P:=P) (w:=w) t;obtain⟨m,g⟩:=b;exact⟨(p.1,g) :: rs,⟨zux h.1,rfl,c⟩,.cons ⟨rfl,h.2⟩ q⟩
def zze1(trs:List (TE×TE)):TE:=λY H Q=>∀p,H p=none->zp01 trs Y (upd H p (.dK [])) λps H2=>H2 p=some (.dK [])/\∃kvs:List (Key×V),ps=kvs.map (λf=>(kV f.1,f.2))/\kvs.length<=15/\Q (.ref p) (upd H2 p (.dK (zrg [] kvs)))
theorem zw61{keys:List (Option aZ)}{f:List aZ}(h:PPs X pos keys f trs)(m:keys.all (·.isSome)=true)(hl:keys.length=f.length)(U:keys≠[])
  (x:keys.length<=15):PE X (.Dict keys f pos) (zze1 trs):=by
 intro pins s Y H Q I q;have N:=I.hok.fresh (u7 s.heap.objs.size);have Z:=I.laid (a:=s.heap.objs.size) (o:=.dK []) (h':=s.heap.push { cls:=.type "dict",data:=.dict #[] }) (t':=s.toks) (λ_ _ q=>vS _ q) (u7 _) (zyn s.heap I.big);refine wpAny_Dict_walk (knd:=ze2 X.prog X.w) m hl U x (thn (h pins _ Y _ _ Z (q _ N)) λws s2 hz=>?_);obtain⟨ps,H2,B,p,e,kvs,ep,lk,J⟩:=hz;subst ep;obtain⟨rs,c,C⟩:=zye (P:=X.prog) (w:=X.w) p;obtain⟨z,hd,vs0,G,W⟩:=zl81 B.hok e;cases G;refine⟨rs,c,W,λh' g L=>⟨.ref s.heap.objs.size,_,?_,rfl,J⟩⟩;have hz:(zrg [] kvs).length<=sizeLine:=by
  have S:=zv9 kvs [];rw[List.length_nil]at S;rw[aY];lia
 have O:∃q,h'.get? s.heap.objs.size=some q:=let ⟨q,_,_,M,_⟩:=g;⟨q,M⟩;exact zgf B (by rw[e];exact True.intro) L O (zyx hz hd (C.merge .nil) g)
end _2
namespace _3
open PySem PySem.Spec PyProof.Rows _2
variable {K:Fg}{X:Cx}{a:aE}{ds:List a6}{pos:Pos}
def rInD:R2:=λx y H Q=>∃a o,y=.ref a/\DGet H a x o/\Q (.bl o.isSome) H
def zfw:R2:=λx y H Q=>∃a o,y=.ref a/\DGet H a x o/\Q (.bl (!o.isSome)) H
def rIxD:R2:=λx y H Q=>∃a v,x=.ref a/\DGet H a y (some v)/\Q v H
def zee1:V->V->V->Hp->(Hp->Prop)->Prop:=λo i v H Q=>∃a H',o=.ref a/\DPut H a i v H'/\Q H'
section
variable {X:Cx}
theorem zs91(z:X.A.units+64 < cJ):OpR X (bC .In) rInD:=by
 walk_at"28";obtain⟨a,o,rfl,g,q⟩:=h;obtain rfl:u=vX a:=f;exact d_in (by lia) I g m λs3 p=>⟨.bl o.isSome,H,p,rfl,q⟩
theorem zju(z:X.A.units+64 < cJ):OpR X (bC .NotIn) zfw:=by
 walk_at"28";obtain⟨a,o,rfl,g,q⟩:=h;obtain rfl:u=vX a:=f;exact ze61 (by lia) I g m λs3 p=>⟨.bl (!o.isSome),H,p,rfl,q⟩
theorem ix_D(G:X.A.units+64 < cJ):IxR X rIxD:=by
 intro value slice pins s Y H x y v u Q I p o h z;obtain⟨a,m,rfl,g,q⟩:=h;obtain rfl:v=vX a:=p;exact gP (zll I g) ğh.lookup (zlk (by lia) I g o λC s3 B f=>⟨m,H,B,f,q⟩) z
theorem zog1(B:X.A.units+64 < cJ):PSet X zee1:=by
 intro pins s Y H o i v p z u Q I f m rv h;obtain⟨a,H',rfl,g,q⟩:=h;obtain rfl:p=vX a:=f;exact zku (by lia) I g m rv λy x=>⟨H',x,q⟩
theorem zzg1(C:X.A.units+64 < cJ):PGet X rIxD:=by
 intro pins s Y H o i x B Q I p u h;obtain⟨a,m,rfl,g,q⟩:=h;obtain rfl:x=vX a:=p;exact zlk (by lia) I g u λz s3 y f=>⟨m,H,y,f,q⟩
def zse1(K:Fg):R2:=λx y H Q=>∃a xs j v,x=.ref a/\y=.int j/\0<=j/\SqL K H a xs/\xs[j.toNat]?=some v/\Q v H
theorem zag1(z:X.K=K):PGet X (zse1 K):=by
 subst z;intro pins s Y H o i x G Q I m p h;obtain⟨a,xs,j,v,rfl,rfl,B,y,f,q⟩:=h;obtain rfl:x=vX a:=m;obtain⟨t,rfl⟩:=p;obtain⟨its,r,pl,hz⟩:=I.list y;obtain⟨u,C,g⟩:=r.get f;have hl:=r.length;have J:=zig;have L:=(wG.mp f).1;refine wpAny_getItem_list pl.isList B (by lia) (by simpa using C) ⟨v,H,I,g,q⟩
theorem PGet.or{r m:R2}(h:PGet X r)(h':PGet X m):PGet X (λx y H Q=>r x y H Q \/ m x y H Q):=by
 intro pins s Y H o i p u Q I f g q;rcases q with q|q
 ·exact h pins s Y H o i p u Q I f g q
 ·exact h' pins s Y H o i p u Q I f g q
theorem PSet.or{r m:TSet}(h:PSet X r)(h':PSet X m):PSet X (λo i v H Q=>r o i v H Q \/ m o i v H Q):=by
 intro pins s Y H o i v p x u Q I f g rv q;rcases q with q|q
 ·exact h pins s Y H o i v p x u Q I f g rv q
 ·exact h' pins s Y H o i v p x u Q I f g rv q
end
def rInV(w:aR)(K:Fg):R2:=λx y H Q=>rInW w K x y H Q \/ rInD x y H Q
def zgq(w:aR)(K:Fg):R2:=λx y H Q=>zyv w K x y H Q \/ zfw x y H Q
def rIxV(w:aR)(K:Fg):R2:=λx y H Q=>rIxW w K x y H Q \/ rIxD x y H Q
def zb91(K:Fg):R2:=λx y H Q=>zse1 K x y H Q \/ rIxD x y H Q
def zj81:V->V->V->Hp->(Hp->Prop)->Prop:=λo i v H Q=>zvd1 o i v H Q \/ zee1 o i v H Q
section
variable {X:Cx}{w:aR}{K:Fg}
theorem zq51(f:X.A.units+64 < cJ)(hw:X.w=w)(g:X.K=K):OpR X (bC .In) (rInV w K):=(zoa1 hw g).or (zs91 f)
theorem zzd(f:X.A.units+64 < cJ)(hw:X.w=w)(g:X.K=K):OpR X (bC .NotIn) (zgq w K):=(zjt hw g).or (zju f)
theorem ix_V(f:X.A.units+64 < cJ)(hw:X.w=w)(g:X.K=K):IxR X (rIxV w K):=(ix_W hw g).or (ix_D f)
theorem zne1(f:X.A.units+64 < cJ)(g:X.K=K):PGet X (zb91 K):=PGet.or (zag1 g) (zzg1 f)
theorem zg81(f:X.A.units+64 < cJ):PSet X zj81:=PSet.or zh01 (zog1 f)
end
def kBM0(K:Fg)(T:String)(r:V->List V->Hp->VK->Prop)(x:V)(H:Hp)(Q:VK):Prop:=tyV K T x H/\r x [] H Q
def zje1(K:Fg)(T:String)(r:V->List V->Hp->VK->Prop)(f:TE):TE:=λY H Q=>f Y H λx g=>kBM0 K T r x g Q
theorem zzq(B:X.K=K){o:aZ}{u:TE}{name:Str}{g f:Pos}{T id:String}{r:V->List V->Hp->VK->Prop}(x:gR T)(slot:Slot T name id)(q:lV (.builtin id)=pure (.type "method_descriptor"))(z:MtR X id r)(y:PE X o u)
  (p:dG o name X.env (bD o X.env)=bD o X.env:=by rfl) (m:(g.endLine == f.line)=true:=by rfl):PE X (.Call (.Attribute o name g) [] [] f) (zje1 K T r u):=by
 subst B;exact zya1 x slot q z y p m
theorem zi31{pins:List (aE×Obj)}{Y:_2.St}{H:Hp}{s:aH}{h':aX}{t':Nat}{c:aE}(I:_2.Inv X pins Y H s)(k:∀b o,b≠a->b≠c->s.heap.get? b=some o->h'.get? b=some o)
  (L:FpOk X pins H a) (J:FpOk X pins H c):_2.Inv X pins Y H { s with heap:=h',toks:=t' }:=by
 obtain⟨a0,B,_,Z,W,U⟩:=L;obtain⟨S,y,_,O,N,M⟩:=J;have p:∀b u,H b=some u->b≠a:=λb u e z=>by rw[z,a0]at e;cases e
 have g:∀b u,H b=some u->b≠c:=λb u e z=>by rw[z,S]at e;cases e
 refine I.step (g':=s.gens) (d':=s.drawn) (ch:=[a,c]) (λb x=>?_) (λb o _ _ f e _=>k b o (λz=>f (by simp[z])) (λz=>f (by simp[z])) e) (λb o _ _ f e _=>⟨o.slots,k b o (λz=>f (by simp[z])) (λz=>f (by simp[z])) e⟩) (λ_ _ _ _ n=>n)
  (λb o f e=>⟨o,k b o (λz=>f (by simp[z])) (λz=>f (by simp[z])) e⟩) (λ_ _ e=>e) (λ_ _ _ e=>e) (λb ps e=>⟨#[],by rw[e];simp⟩) (λm G=>?_) (λb u e=>?_) I.bare
 ·simp at x;rcases x with e|e
  ·subst e;exact⟨Z,B,W,U⟩
  ·subst e;exact⟨O,y,N,M⟩
 ·obtain⟨o,es,ep,C,r⟩:=G;exact⟨o,es,ep,k _ o (Ne.symm B) (Ne.symm y) C,r⟩
 ·refine(I.hok b u e).stay (λd v f q=>k d v ?_ ?_ q) (λ_ q=>q) λ_ _ q=>q
  ·rcases f with z|z
   ·rw[z];exact p b u e
   ·exact p d _ z
  ·rcases f with z|z
   ·rw[z];exact g b u e
   ·exact g d _ z
theorem zp71{h:aX}{ob o:Obj}{b:aE}(e:(h.push ob).get? b=some o)(n:b≠h.objs.size):h.get? b=some o:=by
 obtain⟨g,f⟩:=ua9.mp e;refine ua9.mpr ⟨?_,f⟩;cases h
 simpa[Heap.push,Array.getElem?_push,n]using g
def Ite(K:Fg)(a:aE):It:=⟨λi H=>∃xs x,SqL K H a xs/\xs[i]?=some x,λi H x H'=>∃y p,(∀ys,SqL K H a ys->ys[i]?=some y)/\H p=none/\x=.ref p/\H'=upd H p (.tup [.int (i:Int),y]),λi H=>∃xs,SqL K H a xs/\xs.length<=i⟩
theorem zdu{P:aQ}{w:aR}{J:List aZ}{c:_}{e it:aE}(C:e≠it) :
  Turn P w K (.Tuple J c pos) (Ite K a) [e,it] e (λi h=>(∃old,IsEnum h e it (i:Int) old)/\h.IsListIter it a i) where
 mem:=by simp
 obj:=λi h S b y=>by
  obtain⟨⟨old,f⟩,hi⟩:=S;simp at y;rcases y with rfl|rfl
  ·exact⟨_,f,λv q=>by cases q⟩
  ·obtain⟨o,g,c1,d1⟩:=hi;exact⟨o,g,λv z=>by rw[d1]at z;cases z⟩
 keep:=λi h h' S k=>by
  obtain⟨⟨old,f⟩,hi⟩:=S;exact⟨⟨old,k _ (by simp) _ f⟩,hi.at λo g=>k it (by simp) o g⟩
 item:=by
  walk_at"23";subst U hw W;obtain⟨⟨old,f⟩,hi⟩:=S;obtain⟨xs,x,L,N⟩:=O;obtain⟨its,rv,p,hz⟩:=I.list L;obtain⟨u,hu,ru⟩:=rv.get N;refine wpAny_pyNext_enum_item f hi p.isList (x:=u) (by simpa using hu) C λh' ho hi' ht hsz hk=>?_;have eL:e < s.heap.objs.size:=vY f;have iL:it < s.heap.objs.size:=by obtain⟨o,g,_⟩:=hi;exact vY g
  have hfr:=I.hok.fresh (u7 s.heap.objs.size);have I1:_2.Inv X pins Y (upd H s.heap.objs.size (.tup [.int (i:Int),x])) { s with heap:=s.heap.push { cls:=.type "tuple",data:=.seq #[.int i s.toks,u] },toks:=s.toks+1 } :=
   I.laid (t':=s.toks+1) (o:=.tup [.int (i:Int),x]) (λb ob q=>vS _ q) (u7 _) ⟨by show 2<=sizeLine;rw[aY];decide,[.int i s.toks,u],.cons ⟨_,rfl⟩ (.cons ru .nil),IsTup.new _ _⟩
  have fe:=M e (by simp);have fi:=M it (by simp);have m:FpOk X pins (upd H s.heap.objs.size (.tup [.int (i:Int),x])) e:=⟨by rw[zb1 (wP eL)];exact fe.1,fe.2⟩
  have G:FpOk X pins (upd H s.heap.objs.size (.tup [.int (i:Int),x])) it:=⟨by rw[zb1 (wP iL)];exact fi.1,fi.2⟩
  have I2:_2.Inv X pins Y (upd H s.heap.objs.size (.tup [.int (i:Int),x])) { s with heap:=h',toks:=s.toks+1 } :=
   zi31 (s:={ s with heap:=s.heap.push { cls:=.type "tuple",data:=.seq #[.int i s.toks,u] },toks:=s.toks+1 }) I1 (λb o nb1 Z q=>by
    by_cases z:b=s.heap.objs.size
    ·subst z;have q':(s.heap.push { cls:=.type "tuple",data:=.seq #[.int i s.toks,u] }).get? s.heap.objs.size=some o:=q;rw[wB _ rfl]at q';cases q';exact ht
    ·exact hk b o nb1 Z (zp71 q z)) m G
  refine⟨.ref s.heap.objs.size,rfl,wpAny_letOwnedTupleGo_enum ho λh2 he2 B=>?_⟩;refine⟨.ref s.heap.objs.size,_,zs3 (tk:=s.toks+1) I2 m B,rfl,⟨x,s.heap.objs.size,λys hy=>by rw[I.list_inj hy L];exact N,hfr,rfl,rfl⟩,⟨⟨u,by simpa using he2⟩,hi'.at λo g=>B.extBut _ _ (Ne.symm C) g⟩,λb y=>?_⟩;simp at y;rcases y with rfl|rfl
  ·exact m.1
  ·exact G.1
 done:=by
  walk_at"23";subst U hw W;obtain⟨⟨old,f⟩,hi⟩:=S;obtain⟨xs,L,N⟩:=O;obtain⟨its,rv,p,hz⟩:=I.list L;have hl:=rv.length;exact wpAny_pyNext_enum_end (I.ok.hd hc) f hi p.isList (by simp;lia) λh' eb=>⟨rfl,zr11 (tk:=s.toks) I (M it (by simp)) eb⟩
 self:=λ_ _ _ _ _ S h=>iD S.1.choose_spec h
theorem zsh:bH "enumerate"=some (.type "enumerate"):=by decide +kernel
section
variable {X:Cx}{elts:List aZ}
def zyg1(K:Fg)(vs:List V)(H:Hp)(R:It->Hp->Prop):Prop:=∃a xs,vs=[.ref a]/\SqL K H a xs/\R (Ite K a) H
def zzb1(K:Fg)(f:TA):TI:=λY H R=>f Y H λvs g=>zyg1 K vs g R
theorem zfa(W:X.K=K){c:_}{g:Pos}{a:aZ}{o:TA}{p pos:Pos}(S:Gl X "enumerate")(O:X.mg "enumerate"=none)(U:PA X [a] o)(M:aW [a] X.env=[(false,bD a X.env)]:=by rfl) :
  PI X (.Tuple elts c g) (.Call (.Name "enumerate" p) [a] [] pos) (zzb1 K o):=by
 subst W;walk_at"13";refine Call_ (zui I S O zsh (b6 (thn (U pos pins s Y H _ I h) λus s1 hz=>?_) (by rw[M];rfl) (by rfl)));obtain⟨vs,y,m,G,J⟩:=hz;obtain⟨l,xs,e,N,q⟩:=J;subst e;obtain⟨B,rfl,C⟩:=zry G;obtain rfl:B=vX l:=C;obtain⟨its,rv,pl,hz⟩:=m.list N;refine call_enumerate_list pl.isList ?_;intro h' u hi hsz L;refine iD u ?_;have Z:_2.Inv X pins Y y { s1 with heap:=h' }:=m.kept (t':=s1.toks) L;refine⟨s1.heap.objs.size+1,[s1.heap.objs.size+1,s1.heap.objs.size],_,_,y,rfl,Z,zdu (Nat.succ_ne_self _),⟨⟨.none,u⟩,hi⟩,λb x=>?_,q⟩;have f:s1.heap.objs.size<=b:=by
  simp at x;rcases x with z|z
  ·exact z ▸ zS _
  ·exact z ▸ u7 _
 exact m.fpOk f (m.hok.fresh f)
end
def zu91:R2:=λx y H Q=>zid1 x y H Q \/ rRep x y H Q
theorem zib:OpR X (bU .Mult) zu91:=zp51.or zl51
section
variable {X:Cx}
def zqf1(K:Fg):R2:=λx y H Q=>∃l b xs f,x=.ref l/\y=.ref b/\SqL K H l xs/\SqL K H b f/\xs.length+f.length<=sizeLine/\∀p,H p=none->Q (.ref p) (upd H p (.lst (xs++f)))
theorem zo41(N:X.K=K):OpR X (bU .Add) (zqf1 K):=by
 subst N;intro pins s Y H x y v u Q I M L h;obtain⟨l,b,xs,W,rfl,rfl,O,hB,hz,q⟩:=h;cases M;cases L;obtain⟨its,r,⟨⟨cls,U,data,sl⟩,n,C,G,_,hd⟩,z1⟩:=I.list O;obtain⟨f,B,⟨⟨J,z,data2,p⟩,n2,g,o,_,m⟩,Z⟩:=I.list hB;simp only at G hd o m;subst G hd o m;have e1:=r.length;have e2:=B.length;refine g9 ⟨_,C,rfl⟩ ⟨_,g,rfl⟩ noFill_list_add seq_list_add PySem.F.slot_list_add PySem.F.entry_list_add (PySem.F.args_list_add_2 _ _) (list_addW l b its.toArray f.toArray n n2 U z sl p (by simp;lia)) ⟨C,g,?_⟩;have S:its.toArray++f.toArray=(its++f).toArray:=by simp
 rw[S];exact⟨.ref _,_,I.lnew (t':=s.toks) (r.append B) (by rw[vT];lia),rfl,q _ I.fresh⟩
def zl91(K:Fg):R2:=λx y H Q=>zbd1 K x y H Q \/ zqf1 K x y H Q
theorem zg1(f:X.K=K):OpR X (bU .Add) (zl91 K):=(zy41 f).or (zo41 f)
def rIsS(K:Fg):List V->Hp->VK->Prop:=λvs H Q=>∃a f c b,vs=[.ref a,f]/\clsV f=some c/\(((∃xs,SqL K H a xs)/\d0 K (.type "list") c=some b) \/ ((∃xs,SqT K H a xs)/\d0 K (.type "tuple") c=some b))/\Q (.bl b) H
theorem zx11(h:X.K=K):CallR X (.builtin "isinstance") (rIsS K):=by
 subst h;walk_at"4";obtain⟨a,G,c,b,rfl,m,x,q⟩:=h;obtain⟨u,v,rfl,g,rv⟩:=r.two;obtain rfl:=zbs m rv;cases (show u=vX a from g);rcases x with⟨⟨xs,f⟩,e⟩|⟨⟨xs,f⟩,e⟩
 ·obtain⟨its,_,⟨o,n,p,y,_,hd⟩,_⟩:=I.list f;exact bL fQ I.kIn ⟨o,p,y⟩ e (λz=>nomatch z) λtk=>⟨.bl b,H,I.tok tk,rfl,q⟩
 ·obtain⟨its,_,⟨o,C,B,_⟩,_⟩:=I.tuple f;exact bL iB I.kIn ⟨o,C,B⟩ e (λz=>nomatch z) λtk=>⟨.bl b,H,I.tok tk,rfl,q⟩
theorem CallR.or{f:aC}{m g:List V->Hp->VK->Prop}(p:CallR X f m)(o:CallR X f g):CallR X f (λvs H Q=>m vs H Q \/ g vs H Q):=by
 walk_at"4";rcases h with h|h
 ·exact p pins s Y H xs us Q I r h
 ·exact o pins s Y H xs us Q I r h
def rIsW(K:Fg):List V->Hp->VK->Prop:=λvs H Q=>rIsI K vs H Q \/ rIsS K vs H Q
theorem zc8(h:X.K=K):CallR X (.builtin "isinstance") (rIsW K):=(zxk h).or (zx11 h)
theorem zkg(l:aE)(items:Array aC)(n:Nat)(b:aE)(f:Array aC)(n2:Nat)(u:Option aE)(m:Array (Option aC))(z:¬(!items.isEmpty && cD (items.size+f.size))=true)(q:items.size<=sizeLine)(p:items.size+f.size<=sizeLine+1) :
  Meets (Builtin.«list.extend» ⟨[.ref l,.ref b],[]⟩) (λ_ R s=>s.heap.get? l=some { cls:=.type "list",dict:=none,data:=.seq items n,slots:=#[] }/\s.heap.get? b=some { cls:=.type "list",dict:=u,data:=.seq f n2,slots:=m }/\R (.ok (.ret xM)) { s with heap:=s.heap.update l (cU λx=>x++f),toks:=s.toks }) :=
 .of_wp λprog w A R s h=>by
  obtain⟨B,g,d,tk,os⟩:=s;obtain⟨hl,y,h⟩:=h;have f1:=AutoSeq1.idx_int;have f2:=AutoSeq1.sub_tuple_tuple;have G:=AutoSeq1.sub_list_list;have C:=AutoSeq1.sub_tuple_list;have f5:=AutoSeq1.sub_list_tuple;have o:(items++f).size<=sizeLine+1:=by rw[Array.size_append];exact p
  wp_walk using(wpAny_updateSeq hl rfl (hz:=q) (_hz':=o)),i6 hl,i6 y;exact⟨_,rfl,h⟩
def zkq(K:Fg):V->List V->Hp->VK->Prop:=λx vs H Q=>∃l b xs f,x=.ref l/\vs=[.ref b]/\H l=some (.lst xs)/\SqL K H b f/\xs.length+f.length<=sizeLine/\Q .non (upd H l (.lst (xs++f)))
theorem zx4(N:X.K=K):MtM X "list.extend" (zkq K):=by
 subst N;intro pins s Y H x vs v us Q I L rv h;obtain⟨l,b,xs,S,rfl,rfl,G,hB,hz,q⟩:=h;cases L;obtain⟨u,rfl,M⟩:=rv.one;cases M;obtain⟨z,its,n,r,hl,e⟩:=I.lstM G;obtain⟨f,C,⟨⟨J,B,data2,p⟩,n2,y,o,_,m⟩,U⟩:=I.list hB;simp only at o m;subst o m;have O:=C.length;have hsz:its.toArray.size+f.toArray.size<=sizeLine:=by rw[vZ,vZ];lia
 have g:¬(!its.toArray.isEmpty && cD (its.toArray.size+f.toArray.size))=true:=by
  rw[zei hsz,Bool.and_false];exact v3
 refine eM F.slot_list_extend ⟨_,e,rfl⟩ F.entry_list_extend (F.args_list_extend_2 _ _)
  (zkg l its.toArray n b f.toArray n2 B p g (by rw[vZ];lia) (by lia)) ⟨e,y,?_⟩
 refine⟨.non,_,I.lset (its':=its++f) G e (by simp) (r.append C) ?_,rfl,q⟩;rw[vT];lia
end
theorem IsAll.dlen{K:Fg}{F:Hp}:∀{xs:List V}{ds:List a6},IsAll K F xs ds->xs.length=ds.length
|_,_,.nil=>rfl
|_,_,.cons _ r=>congrArg (·+1) (IsAll.dlen r)
theorem IsAll.dget{K:Fg}{F:Hp}:∀{xs:List V}{ds:List a6}{i:Nat}{d:a6},IsAll K F xs ds->ds[i]?=some d->∃x,xs[i]?=some x/\Is K F x d
|_,_,_,_,.nil,e=>by simp at e
|_,_,0,_,.cons h _,e=>by simp at e;subst e;exact⟨_,rfl,h⟩
|_,_,i+1,d,.cons _ r,e=>by
  obtain⟨x,g,f⟩:=IsAll.dget (i:=i) (d:=d) r (by simpa using e);exact⟨x,by simpa using g,f⟩
theorem IsAll.dapp{K:Fg}{F:Hp}:∀{xs ys:List V}{ds es:List a6},IsAll K F xs ds->IsAll K F ys es->IsAll K F (xs++ys) (ds++es)
|_,_,_,_,.nil,s=>s
|_,_,_,_,.cons h r,s=>.cons h (IsAll.dapp r s)
theorem IsAll.dtake{K:Fg}{F:Hp}:∀(n:Nat){xs:List V}{ds:List a6},IsAll K F xs ds->IsAll K F (xs.take n) (ds.take n)
|0,_,_,_=>.nil
|_+1,_,_,.nil=>.nil
|n+1,_,_,.cons h r=>.cons h (IsAll.dtake n r)
theorem IsAll.ddrop{K:Fg}{F:Hp}:∀(n:Nat){xs:List V}{ds:List a6},IsAll K F xs ds->IsAll K F (xs.drop n) (ds.drop n)
|0,_,_,h=>h
|_+1,_,_,.nil=>.nil
|n+1,_,_,.cons _ r=>IsAll.ddrop n r
theorem IsAll.dset{K:Fg}{F:Hp}{x:V}{d:a6}(f:Is K F x d):∀(n:Nat){xs:List V}{ds:List a6},IsAll K F xs ds->IsAll K F (xs.set n x) (ds.set n d)
|_,_,_,.nil=>.nil
|0,_,_,.cons _ r=>.cons f r
|n+1,_,_,.cons h r=>.cons h (IsAll.dset f n r)
theorem Is.list_inv{F:Hp}{v:V}(h:Is K F v (.list ds)):∃a xs,v=.ref a/\SqL K F a xs/\IsAll K F xs ds:=by
 cases h with
|lst g f=>exact⟨_,_,rfl,g,f⟩
theorem Is.tuple_inv{F:Hp}{v:V}(h:Is K F v (.tuple ds)):∃a xs,v=.ref a/\SqT K F a xs/\IsAll K F xs ds:=by
 cases h with
|tup g f=>exact⟨_,_,rfl,SqT.of g,f⟩
|tuc g f _=>exact⟨_,_,rfl,g,f⟩
theorem Is.int_inv{F:Hp}{v:V}{i:Int}(h:Is K F v (.int i)):v=.int i:=by cases h;rfl
theorem Is.bl_inv{F:Hp}{v:V}{b:Bool}(h:Is K F v (.bool b)):v=.bl b:=by cases h;rfl
theorem Is.str_inv{F:Hp}{v:V}{b:Str}(h:Is K F v (.str b)):v=.str b:=by cases h;rfl
theorem Is.non_inv{F:Hp}{v:V}(h:Is K F v .none):v=.non:=by cases h;rfl
end _3
namespace _4
open PySem PySem.Spec PyProof.Rows _2 _3
variable {F' H':Hp}{K:Fg}{a p:aE}{fp fq:List aE}{x:V}{xs:List V}
abbrev D:=a6
structure Ext(F H F' H':Hp):Prop where
 h:Same H H'
 f:Same F F'
 fh:Same F' H'
 nw:∀a,H a≠none->F a=none->F' a=none
theorem Ext.refl{F H:Hp}(s:Same F H):Ext F H F H:=⟨λ_ _ z=>z,λ_ _ z=>z,s,λ_ _ z=>z⟩
theorem Ext.trans{F H q m F2 H2:Hp}(a:Ext F H q m)(b:Ext q m F2 H2):Ext F H F2 H2 :=
 ⟨a.h.trans b.h,a.f.trans b.f,b.fh,λc g u=>b.nw c (λz=>by
  cases e:H c with
 |none=>exact g e
 |some o=>rw[a.h c o e]at z;cases z) (a.nw c g u)⟩
inductive T where
|fz (d:D)|li (ds:List D)|ls (ts:List T)|ob (C:aE) (fs:List (Str×T))|dk (kvs:List (Key×D))|dt (kvs:List (List Key×D))|tp (ts:List T)
inductive KvIs(K:Fg)(F:Hp){κ:Type}:List (κ×V)->List (κ×D)->Prop
|nil:KvIs K F [] []
|cons {k:κ} {v:V} {d:D} {r:List (κ×V)} {s:List (κ×D)}:Is K F v d->KvIs K F r s->KvIs K F ((k,v) :: r) ((k,d) :: s)
theorem KvIs.mono{K:Fg}{F F':Hp}{κ:Type}(s:Same F F'):∀{r:List (κ×V)}{t:List (κ×D)},KvIs K F r t->KvIs K F' r t
|_,_,.nil=>.nil
|_,_,.cons h r=>.cons (h.mono s) (r.mono s)
mutual
inductive Rt(K:Fg)(F H:Hp):V->T->List aE->Prop
|fz {v:V} {d:D}:Is K F v d->Rt K F H v (.fz d) []
|li {a:aE} {xs:List V} {ds:List D}:H a=some (.lst xs)->F a=none->IsAll K F xs ds->Rt K F H (.ref a) (.li ds) [a]
|ls {a:aE} {xs:List V} {ts:List T} {fp:List aE}:H a=some (.lst xs)->F a=none->RtAll K F H xs ts fp->Rt K F H (.ref a) (.ls ts) (a :: fp)
|ob {a C dx:aE} {fs:List (Str×V)} {ts:List (Str×T)} {fp:List aE}:H a=some (.ins C dx fs)->H dx=some (.own a)->F a=none->F dx=none->RtFs K F H fs ts fp->Rt K F H (.ref a) (.ob C ts) (a :: dx :: fp)
|dk {a:aE} {kvs:List (Key×V)} {ds:List (Key×D)}:H a=some (.dK kvs)->F a=none->KvIs K F kvs ds->Rt K F H (.ref a) (.dk ds) [a]
|dt {a:aE} {kvs:List (List Key×V)} {ds:List (List Key×D)}:H a=some (.dT kvs)->F a=none->KvIs K F kvs ds->Rt K F H (.ref a) (.dt ds) [a]
|tp {a:aE} {xs:List V} {ts:List T} {fp:List aE}:H a=some (.tup xs)->F a=none->RtAll K F H xs ts fp->Rt K F H (.ref a) (.tp ts) (a :: fp)
inductive RtAll(K:Fg)(F H:Hp):List V->List T->List aE->Prop
|nil:RtAll K F H [] [] []
|cons {x:V} {t:T} {xs:List V} {ts:List T} {fp fq:List aE}:Rt K F H x t fp->RtAll K F H xs ts fq->RtAll K F H (x :: xs) (t :: ts) (fp++fq)
inductive RtFs(K:Fg)(F H:Hp):List (Str×V)->List (Str×T)->List aE->Prop
|nil:RtFs K F H [] [] []
|cons {f:Str} {x:V} {t:T} {xs:List (Str×V)} {ts:List (Str×T)} {fp fq:List aE}:Rt K F H x t fp->RtFs K F H xs ts fq->RtFs K F H ((f,x) :: xs) ((f,t) :: ts) (fp++fq)
end
section
variable {K:Fg}{F H F' H':Hp}
theorem Rt.ind{P : V → T → List aE → Prop}{Q : List V → List T → List aE → Prop}{R : List (Str × V) → List (Str × T) → List aE → Prop}
    (G : ∀{v : V}{d : D}, Is K F v d → P v (.fz d) [])
    (B : ∀{a : aE}{xs : List V}{ds : List D}, H a = some (.lst xs) → F a = none → IsAll K F xs ds → P (.ref a) (.li ds) [a])
    (z : ∀{a : aE}{xs : List V}{ts : List T}{fp : List aE}, H a = some (.lst xs) → F a = none → Q xs ts fp → P (.ref a) (.ls ts) (a :: fp))
    (y : ∀{a C g : aE}{fs : List (Str × V)}{ts : List (Str × T)}{fp : List aE}, H a = some (.ins C g fs) → H g = some (.own a) → F a = none → F g = none → R fs ts fp → P (.ref a) (.ob C ts) (a :: g :: fp))
    (u : ∀{a : aE}{kvs : List (Key × V)}{ds : List (Key × D)}, H a = some (.dK kvs) → F a = none → KvIs K F kvs ds → P (.ref a) (.dk ds) [a])
    (q : ∀{a : aE}{kvs : List (List Key × V)}{ds : List (List Key × D)}, H a = some (.dT kvs) → F a = none → KvIs K F kvs ds → P (.ref a) (.dt ds) [a])
    (ct : ∀{a : aE}{xs : List V}{ts : List T}{fp : List aE}, H a = some (.tup xs) → F a = none → Q xs ts fp → P (.ref a) (.tp ts) (a :: fp))
    (p : Q [] [] []) (o : ∀{x : V}{t : T}{xs : List V}{ts : List T}{fp fq : List aE}, P x t fp → Q xs ts fq → Q (x :: xs) (t :: ts) (fp ++ fq))
    (m : R [] [] []) (I : ∀{f : Str}{x : V}{t : T}{xs : List (Str × V)}{ts : List (Str × T)}{fp fq : List aE}, P x t fp → R xs ts fq → R ((f, x) :: xs) ((f, t) :: ts) (fp ++ fq)) :
    (∀{v : V}{t : T}{fp : List aE}, Rt K F H v t fp → P v t fp) ∧ (∀{v : List V}{t : List T}{fp : List aE}, RtAll K F H v t fp → Q v t fp) ∧ (∀{v : List (Str × V)}{t : List (Str × T)}{fp : List aE}, RtFs K F H v t fp → R v t fp) :=
  ⟨fun h => Rt.rec (motive_1 := fun v t fp _ => P v t fp) (motive_2 := fun v t fp _ => Q v t fp) (motive_3 := fun v t fp _ => R v t fp) G B (fun a b _ => z a b) (fun a b c d _ => y a b c d) u q (fun a b _ => ct a b) p (fun _ _ => o) m (fun _ _ => I) h,
   fun h => RtAll.rec (motive_1 := fun v t fp _ => P v t fp) (motive_2 := fun v t fp _ => Q v t fp) (motive_3 := fun v t fp _ => R v t fp) G B (fun a b _ => z a b) (fun a b c d _ => y a b c d) u q (fun a b _ => ct a b) p (fun _ _ => o) m (fun _ _ => I) h,
   fun h => RtFs.rec (motive_1 := fun v t fp _ => P v t fp) (motive_2 := fun v t fp _ => Q v t fp) (motive_3 := fun v t fp _ => R v t fp) G B (fun a b _ => z a b) (fun a b c d _ => y a b c d) u q (fun a b _ => ct a b) p (fun _ _ => o) m (fun _ _ => I) h⟩
def Keep(F' H H':Hp)(fp:List aE):Prop:=∀a∈fp,H' a=H a/\F' a=none
theorem Keep.hd{o:HO}(k:Keep F' H H' (a :: fp))(h:H a=some o):H' a=some o:=(k a wJ).1.trans h
theorem Keep.no(k:Keep F' H H' (a :: fp)):F' a=none:=(k a wJ).2
theorem Keep.tl(k:Keep F' H H' (a :: fp)):Keep F' H H' fp:=λb f=>k b (wA _ f)
theorem Keep.l(k:Keep F' H H' (fp++fq)):Keep F' H H' fp:=λb f=>k b (xN _ f)
theorem Keep.r(k:Keep F' H H' (fp++fq)):Keep F' H H' fq:=λb f=>k b (w9 _ f)
theorem zxh(s:Same F F'):(∀{v:V}{t:T}{fp:List aE},Rt K F H v t fp->Keep F' H H' fp->Rt K F' H' v t fp)/\(∀{v:List V}{t:List T}{fp:List aE},RtAll K F H v t fp->Keep F' H H' fp->RtAll K F' H' v t fp)/\(∀{v:List (Str×V)}{t:List (Str×T)}{fp:List aE},RtFs K F H v t fp->Keep F' H H' fp->RtFs K F' H' v t fp) :=
 Rt.ind (P:=λv t fp=>Keep F' H H' fp->Rt K F' H' v t fp) (Q:=λv t fp=>Keep F' H H' fp->RtAll K F' H' v t fp) (R:=λv t fp=>Keep F' H H' fp->RtFs K F' H' v t fp)
  (λh _=>.fz (h.mono s)) (λh _ i k=>.li (k.hd h) k.no (i.mono s)) (λh _ i k=>.ls (k.hd h) k.no (i k.tl)) (λh f _ _ i k=>.ob (k.hd h) (k.tl.hd f) k.no k.tl.no (i k.tl.tl))
  (λh _ i k=>.dk (k.hd h) k.no (i.mono s)) (λh _ i k=>.dt (k.hd h) k.no (i.mono s)) (λh _ i k=>.tp (k.hd h) k.no (i k.tl)) (λ_=>.nil) (λa b k=>.cons (a k.l) (b k.r)) (λ_=>.nil) (λa b k=>.cons (a k.l) (b k.r))
theorem Rt.frame(s:Same F F'){v:V}{t:T}(h:Rt K F H v t fp)(k:∀a∈fp,H' a=H a/\F' a=none):Rt K F' H' v t fp:=(zxh s).1 h k
theorem RtAll.frame(s:Same F F'){v:List V}{t:List T}(h:RtAll K F H v t fp)(k:∀a∈fp,H' a=H a/\F' a=none):RtAll K F' H' v t fp:=(zxh s).2.1 h k
theorem RtFs.frame(s:Same F F'){v:List (Str×V)}{t:List (Str×T)}(h:RtFs K F H v t fp)(k:∀a∈fp,H' a=H a/\F' a=none):RtFs K F' H' v t fp:=(zxh s).2.2 h k
def Dom(F H:Hp)(fp:List aE):Prop:=∀a∈fp,H a≠none/\F a=none
theorem Dom.nil:Dom F H []:=λ_ h=>nomatch h
theorem Dom.cons{a:aE}{o:HO}{fp:List aE}(h:H a=some o)(f:F a=none)(r:Dom F H fp):Dom F H (a :: fp):=λb g=>by
 rcases vR.mp g with e|e
 ·rw[e];exact⟨λz=>(by rw[h]at z;cases z),f⟩
 ·exact r b e
theorem Dom.app(a:Dom F H fp)(b:Dom F H fq):Dom F H (fp++fq):=λc f=>(vV.mp f).elim (a c) (b c)
theorem zqw:(∀{v:V}{t:T}{fp:List aE},Rt K F H v t fp->Dom F H fp)/\(∀{v:List V}{t:List T}{fp:List aE},RtAll K F H v t fp->Dom F H fp)/\(∀{v:List (Str×V)}{t:List (Str×T)}{fp:List aE},RtFs K F H v t fp->Dom F H fp) :=
 Rt.ind (P:=λ_ _ fp=>Dom F H fp) (Q:=λ_ _ fp=>Dom F H fp) (R:=λ_ _ fp=>Dom F H fp) (λ_=>.nil) (λh f _=>.cons h f .nil) (λh f r=>.cons h f r) (λh g f f2 r=>.cons h f (.cons g f2 r))
  (λh f _=>.cons h f .nil) (λh f _=>.cons h f .nil) (λh f r=>.cons h f r) .nil .app .nil .app
theorem Rt.dom{v:V}{t:T}(h:Rt K F H v t fp):∀a∈fp,H a≠none/\F a=none:=zqw.1 h
theorem RtAll.dom{v:List V}{t:List T}(h:RtAll K F H v t fp):∀a∈fp,H a≠none/\F a=none:=zqw.2.1 h
theorem RtFs.dom{v:List (Str×V)}{t:List (Str×T)}(h:RtFs K F H v t fp):∀a∈fp,H a≠none/\F a=none:=zqw.2.2 h
end
theorem Rt.ext{F H:Hp}{v:V}{t:T}(e:Ext F H F' H')(h:Rt K F H v t fp):Rt K F' H' v t fp :=
 h.frame e.f λa m=>by
  obtain⟨g,p⟩:=h.dom a m;cases q:H a with
 |none=>exact aN q g
 |some o=>exact⟨e.h a o q,e.nw a g p⟩
inductive Sl where
|un|sh (d:D)|ow (t:T)|bo (t:T)|io (a:aE) (t:T)
abbrev DSt:=List Sl
abbrev DE:=DSt->(D->Prop)->Prop
abbrev DF:=DSt->(List D->Prop)->Prop
abbrev DT:=DSt->(Bool->Prop)->Prop
def RSl(K:Fg)(F H:Hp)(v:Option V):Sl->Prop
|.un=>True
|.sh d=>∃x,v=some x/\Is K F x d
|.ow t=>∃x fp,v=some x/\Rt K F H x t fp/\fp.Nodup
|.bo t=>∃x fp,v=some x/\Rt K F H x t fp/\fp.Nodup
|.io a t=>∃fp,v=some (.ref a)/\Rt K F H (.ref a) t fp/\fp.Nodup
theorem RSl.ext{K:Fg}{F H p H':Hp}{v:Option V}(e:Ext F H p H'):∀{s:Sl},RSl K F H v s->RSl K p H' v s
|.un,_=>trivial
|.sh _,⟨x,a,b⟩=>⟨x,a,b.mono e.f⟩
|.ow _,⟨a,xs,o,m,g⟩=>⟨a,xs,o,m.ext e,g⟩
|.bo _,⟨a,xs,o,m,g⟩=>⟨a,xs,o,m.ext e,g⟩
|.io _ _,⟨xs,o,m,g⟩=>⟨xs,o,m.ext e,g⟩
structure RV(K:Fg)(F H:Hp)(Y:_2.St)(U:DSt):Prop where
 len:Y.length=U.length
 sl:∀i s,U[i]?=some s->RSl K F H (Y.getD i none) s
theorem RV.ext{K:Fg}{F H f H':Hp}{Y:_2.St}{U:DSt}(e:Ext F H f H')(r:RV K F H Y U):RV K f H' Y U:=⟨r.len,λi s h=>(r.sl i s h).ext e⟩
def Vw(K:Fg)(F H:Hp)(v:V)(d:D):Prop:=Is K F v d \/ ∃a xs ds,v=.ref a/\d=.list ds/\H a=some (.lst xs)/\IsAll K F xs ds
theorem Vw.ext{F H:Hp}{v:V}{d:D}(e:Ext F H F' H')(h:Vw K F H v d):Vw K F' H' v d:=by
 rcases h with h|⟨a,xs,ds,p,o,m,g⟩
 ·exact .inl (h.mono e.f)
 ·exact .inr ⟨a,xs,ds,p,o,e.h _ _ m,g.mono e.f⟩
theorem Vw.is{F H:Hp}{v:V}{d:D}(s:Same F H)(h:Vw K F H v d):Is K H v d:=by
 rcases h with h|⟨a,xs,ds,rfl,rfl,g,f⟩
 ·exact h.mono s
 ·exact .lst (SqL.of g) (f.mono s)
theorem Vw.list{K:Fg}{F H:Hp}{v:V}{ds:List D}(s:Same F H)(h:Vw K F H v (.list ds)):∃a xs,v=.ref a/\SqL K H a xs/\IsAll K F xs ds:=by
 rcases h with h|⟨a,xs,p,rfl,e,g,f⟩
 ·cases h with
 |lst o m=>exact⟨_,_,rfl,s.seq o,m⟩
 ·cases e;exact⟨a,xs,rfl,SqL.of g,f⟩
theorem Vw.tuple{K:Fg}{F H:Hp}{v:V}{ds:List D}(s:Same F H)(h:Vw K F H v (.tuple ds)):∃a xs,v=.ref a/\SqT K H a xs/\SqT K F a xs/\IsAll K F xs ds:=by
 rcases h with h|⟨a,xs,m,rfl,e,p,o⟩
 ·cases h with
 |tup f g=>exact⟨_,_,rfl,znl s (SqT.of f),SqT.of f,g⟩
 |tuc f g _=>exact⟨_,_,rfl,znl s f,f,g⟩
 ·cases e
theorem Vw.int{K:Fg}{F H:Hp}{v:V}{i:Int}(h:Vw K F H v (.int i)):v=.int i:=by
 rcases h with h|⟨a,xs,f,rfl,e,m,g⟩
 ·exact h.int_inv
 ·cases e
theorem Vw.str{K:Fg}{F H:Hp}{v:V}{i:Str}(h:Vw K F H v (.str i)):v=.str i:=by
 rcases h with h|⟨a,xs,f,rfl,e,m,g⟩
 ·exact h.str_inv
 ·cases e
theorem Vw.bl{K:Fg}{F H:Hp}{v:V}{i:Bool}(h:Vw K F H v (.bool i)):v=.bl i:=by
 rcases h with h|⟨a,xs,f,rfl,e,m,g⟩
 ·exact h.bl_inv
 ·cases e
section
variable (K:Fg)
def RfE(g:TE)(m:DE):Prop:=∀⦃F H:Hp⦄⦃Y:_2.St⦄⦃U:DSt⦄⦃Qd:D->Prop⦄⦃Q:VK⦄,Same F H->RV K F H Y U->m U Qd->(∀d,Qd d->∀v f H',Ext F H f H'->Is K f v d->Q v H')->g Y H Q
def RfV(g:TE)(m:DE):Prop:=∀⦃F H:Hp⦄⦃Y:_2.St⦄⦃U:DSt⦄⦃Qd:D->Prop⦄⦃Q:VK⦄,Same F H->RV K F H Y U->m U Qd->(∀d,Qd d->∀v f H',Ext F H f H'->Vw K f H' v d->Q v H')->g Y H Q
def RfF(g:TE)(m:DF):Prop:=∀⦃F H:Hp⦄⦃Y:_2.St⦄⦃U:DSt⦄⦃Qd:List D->Prop⦄⦃Q:VK⦄,Same F H->RV K F H Y U->m U Qd->(∀ds,Qd ds->∀a xs f H',Ext F H f H'->H a=none->H' a=some (.lst xs)->f a=none->IsAll K f xs ds->Q (.ref a) H')->g Y H Q
def RfT(f:TT)(dt:DT):Prop:=∀⦃F H:Hp⦄⦃Y:_2.St⦄⦃U:DSt⦄⦃Qd:Bool->Prop⦄⦃Q:Bool->Hp->Prop⦄,Same F H->RV K F H Y U->dt U Qd->(∀b,Qd b->∀g H',Ext F H g H'->Q b H')->f Y H Q
def RfA(g:TA)(m:DF):Prop:=∀⦃F H:Hp⦄⦃Y:_2.St⦄⦃U:DSt⦄⦃Qd:List D->Prop⦄⦃Q:List V->Hp->Prop⦄,Same F H->RV K F H Y U->m U Qd->(∀ds,Qd ds->∀vs f H',Ext F H f H'->IsAll K f vs ds->Q vs H')->g Y H Q
inductive VwAll(F H:Hp):List V->List D->Prop
|nil:VwAll F H [] []
|cons {v:V} {d:D} {vs:List V} {ds:List D}:Vw K F H v d->VwAll F H vs ds->VwAll F H (v :: vs) (d :: ds)
def RfAV(g:TA)(m:DF):Prop:=∀⦃F H:Hp⦄⦃Y:_2.St⦄⦃U:DSt⦄⦃Qd:List D->Prop⦄⦃Q:List V->Hp->Prop⦄,Same F H->RV K F H Y U->m U Qd->(∀ds,Qd ds->∀vs f H',Ext F H f H'->VwAll K f H' vs ds->Q vs H')->g Y H Q
def RfO(f:TO)(g:DSt->(Option Int->Prop)->Prop):Prop:=∀⦃F H:Hp⦄⦃Y:_2.St⦄⦃U:DSt⦄⦃Qd:Option Int->Prop⦄⦃Q:Option Int->Hp->Prop⦄,Same F H->RV K F H Y U->g U Qd->(∀o,Qd o->∀m H',Ext F H m H'->Q o H')->f Y H Q
end
section
variable {K:Fg}{te ta tb tc:TE}{de da db dc:DE}{tt tu:TT}{dt du:DT}{tA:TA}{dA:DF}
theorem zaq{F H:Hp}{ds:List D}(e:Ext F H m H')(p:H a=none)(x:H' a=some (.lst xs))(u:m a=none)(q:IsAll K m xs ds) :
  Ext F H (upd m a (.lst xs)) H'/\Is K (upd m a (.lst xs)) (.ref a) (.list ds):=by
 have s:Same m (upd m a (.lst xs)):=λb o z=>by
  by_cases g:b=a
  ·subst g;rw[u]at z;cases z
  ·rw[zb1 g];exact z
 refine⟨⟨e.h,e.f.trans s,λb o z=>?_,λb g y=>?_⟩,.lst (SqL.of zp0) (q.mono s)⟩
 ·by_cases g:b=a
  ·subst g;rw[zp0]at z;cases z;exact x
  ·rw[zb1 g]at z;exact e.fh b o z
 ·have:b≠a:=λz=>g (by rw[z];exact p);rw[zb1 this];exact e.nw b g y
theorem zoc{F H:Hp}{ds:List D}(s:Same F H)(f:H p=none)(q:IsAll K F xs ds) :
  Ext F H (upd F p (.tup xs)) (upd H p (.tup xs))/\Is K (upd F p (.tup xs)) (.ref p) (.tuple ds):=by
 have fn:F p=none:=by
  cases e:F p with
 |none=>rfl
 |some o=>rw[s p o e]at f;cases f
 have m:Same F (upd F p (.tup xs)):=zs1 fn _;refine⟨⟨zs1 f _,m,λb o z=>?_,λb g u=>?_⟩,.tup zp0 (q.mono m)⟩
 ·by_cases g:b=p
  ·subst g;rw[zp0]at z ⊢;exact z
  ·rw[zb1 g]at z ⊢;exact s b o z
 ·have:b≠p:=λz=>g (by rw[z];exact f);rw[zb1 this];exact u
theorem zr7{F H:Hp}(s:Same F H)(f:H p=none):Ext F H F (upd H p (.lst xs))/\F p=none:=by
 have fn:F p=none:=by
  cases e:F p with
 |none=>rfl
 |some o=>rw[s p o e]at f;cases f
 refine⟨⟨zs1 f _,λ_ _ z=>z,λb o z=>?_,λ_ _ z=>z⟩,fn⟩;exact zs1 f _ b o (s b o z)
theorem RfE.v(h:RfE K te de):RfV K te de:=λ_ _ _ _ _ _ s r d k=>h s r d λx q v f H' e i=>k x q v f H' e (.inl i)
def dF(f:DF):DE:=λU Q=>f U λds=>Q (.list ds)
theorem RfF.e{f:DF}(h:RfF K te f):RfE K te (dF f):=λ_ _ _ _ _ _ s r d k=>h s r d λds q a xs y H' e m u p o=>by
 obtain⟨x,g⟩:=zaq e m u p o;exact k _ q _ _ _ x g
def Sl.tree:Sl->Option T
|.ow t=>some t
|.bo t=>some t
|.io _ t=>some t
|.sh d=>some (.fz d)
|.un=>none
def fzT:T->(D->Prop)->Prop
|.fz d,Q=>Q d
|_,_=>False
def vwT:T->(D->Prop)->Prop
|.fz d,Q=>Q d
|.li ds,Q=>Q (.list ds)
|_,_=>False
def slT:Sl->(T->Prop)->Prop
|.sh d,N=>N (.fz d)
|.ow t,N=>N t
|.bo t,N=>N t
|.io _ t,N=>N t
|.un,_=>False
def pAt:DSt->Nat->(T->Prop)->Prop
|[],_,_=>False
|s :: _,0,N=>slT s N
|_ :: U,i+1,N=>pAt U i N
theorem zxa1{s:Sl}{N:T->Prop}(h:slT s N):∃t,s.tree=some t/\N t:=by
 cases s with
|un=>exact h.elim
|sh d=>exact⟨_,rfl,h⟩
|ow t=>exact⟨_,rfl,h⟩
|bo t=>exact⟨_,rfl,h⟩
|io a t=>exact⟨_,rfl,h⟩
theorem zmt{N:T->Prop}:∀{U:DSt}{i:Nat},pAt U i N->∃s t,U[i]?=some s/\s.tree=some t/\N t
|s :: _,0,h=>by
  obtain⟨t,g,f⟩:=zxa1 h;exact⟨s,t,rfl,g,f⟩
|_ :: U,i+1,h=>zmt (U:=U) (i:=i) h
def dVar(i:Nat):DE:=λU Q=>pAt U i λt=>fzT t Q
def znf1(i:Nat):DE:=λU Q=>pAt U i λt=>vwT t Q
theorem zmb{F H:Hp}{Y:_2.St}{U:DSt}{i:Nat}(e:Y.getD i none=some x):Y[i]?=some (some x):=by
 rw[wD]at e;cases q:Y[i]? with
|none=>rw[q]at e;cases e
|some v=>rw[q]at e;exact congrArg some e
theorem RSl.rt{F H:Hp}{v:Option V}:∀{s:Sl}{t:T},RSl K F H v s->s.tree=some t->∃x fp,v=some x/\Rt K F H x t fp/\fp.Nodup
|.un,_,_,e=>by cases e
|.sh d,_,⟨x,g,f⟩,e=>by cases e;exact⟨x,[],g,.fz f,.nil⟩
|.ow _,_,⟨x,fp,g,f⟩,e=>by cases e;exact⟨x,fp,g,f⟩
|.bo _,_,⟨x,fp,g,f⟩,e=>by cases e;exact⟨x,fp,g,f⟩
|.io a _,_,⟨fp,g,f⟩,e=>by cases e;exact⟨_,fp,g,f⟩
theorem zaf1{F H:Hp}{t:T}{Q:D->Prop}(h:Rt K F H x t fp)(q:vwT t Q):∃d,Q d/\Vw K F H x d:=by
 cases h with
|fz i=>exact⟨_,q,.inl i⟩
|li g m f=>exact⟨_,q,.inr ⟨_,_,_,rfl,rfl,g,f⟩⟩
|ls _ _ _=>exact q.elim
|ob _ _ _ _ _=>exact q.elim
|dk _ _ _=>exact q.elim
|dt _ _ _=>exact q.elim
|tp _ _ _=>exact q.elim
theorem zi51{F H:Hp}{t:T}{Q:D->Prop}(h:Rt K F H x t fp)(q:fzT t Q):∃d,Q d/\Is K F x d:=by
 cases h with
|fz i=>exact⟨_,q,i⟩
|li _ _ _=>exact q.elim
|ls _ _ _=>exact q.elim
|ob _ _ _ _ _=>exact q.elim
|dk _ _ _=>exact q.elim
|dt _ _ _=>exact q.elim
|tp _ _ _=>exact q.elim
theorem zi0(i:Nat):RfE K (tVar i) (dVar i):=by
 walk_at"24";obtain⟨sl,t,q,m,f⟩:=zmt h;obtain⟨x,fp,e,hr,_⟩:=(r.sl i _ q).rt m;obtain⟨d,g,hi⟩:=zi51 hr f;exact⟨x,zmb (F:=F) (H:=H) (U:=U) e,k d g x F H (Ext.refl s) hi⟩
theorem zc0(i:Nat):RfV K (tVar i) (znf1 i):=by
 walk_at"24";obtain⟨sl,t,q,m,f⟩:=zmt h;obtain⟨x,fp,e,hr,_⟩:=(r.sl i _ q).rt m;obtain⟨d,g,hi⟩:=zaf1 hr f;exact⟨x,zmb (F:=F) (H:=H) (U:=U) e,k d g x F H (Ext.refl s) hi⟩
def dC(d:D):DE:=λ_ Q=>Q d
theorem zc1{i:Int}:RfE K (tC (.int i)) (dC (.int i)):=λ_ _ _ _ _ _ s r h k=>k _ h _ _ _ (Ext.refl s) (.int i)
theorem zbq{b:Bool}:RfE K (tC (.bl b)) (dC (.bool b)):=λ_ _ _ _ _ _ s r h k=>k _ h _ _ _ (Ext.refl s) (.bl b)
theorem zc6{x:Str}:RfE K (tC (.str x)) (dC (.str x)):=λ_ _ _ _ _ _ s r h k=>k _ h _ _ _ (Ext.refl s) (.str x)
theorem zxo:RfE K (tC .non) (dC .none):=λ_ _ _ _ _ _ s r h k=>k _ h _ _ _ (Ext.refl s) .non
def dOp(f:D->D->(D->Prop)->Prop)(da db:DE):DE:=λU Q=>da U λx=>db U λy=>f x y Q
def R2E(K:Fg)(r:R2)(f:D->D->(D->Prop)->Prop):Prop:=∀⦃F H:Hp⦄⦃x y:V⦄⦃d e:D⦄⦃Qd:D->Prop⦄⦃Q:VK⦄,Same F H->Vw K F H x d->Vw K F H y e->f d e Qd->(∀z,Qd z->∀v g H',Ext F H g H'->Is K g v z->Q v H')->r x y H Q
def R2F(K:Fg)(r:R2)(f:D->D->(List D->Prop)->Prop):Prop:=∀⦃F H:Hp⦄⦃x y:V⦄⦃d e:D⦄⦃Qd:List D->Prop⦄⦃Q:VK⦄,Same F H->Vw K F H x d->Vw K F H y e->f d e Qd->(∀ds,Qd ds->∀a xs g H',Ext F H g H'->H a=none->H' a=some (.lst xs)->g a=none->IsAll K g xs ds->Q (.ref a) H')->r x y H Q
theorem zm0{r:R2}{f:D->D->(D->Prop)->Prop}(hr:R2E K r f)(I:RfV K ta da)(G:RfV K tb db):RfE K (tOp r ta tb) (dOp f da db):=by
 walk_at"0";refine I s rv h λx C v O N m q=>G m.fh (rv.ext m) C λy B u F2 H2 g p=>?_;exact hr g.fh (q.ext g) p B λz hz w M L J o=>k z hz w M L ((m.trans g).trans J) o
end
variable {C a dx:aE}{E:XK}{H':Hp}{K:Fg}{N:DSt->Prop}{U U':DSt}{Y Y':_2.St}{df di:DF}{f m qual:Str}{fA fj fn fp fpr pre:List aE}{fps:Nat->List aE}{g:Int->Int->V}{gs:TGs}{i n:Nat}{ix:List Nat}{kv x y:V}{neg:Bool}{o:HO}{ps:List Str}{st:dI}{vs xs:List V}
section
variable {K:Fg}{te ta tb tc:TE}{de da db dc:DE}{tt tu:TT}{dt du:DT}{tA:TA}{dA:DF}{w:aR}
def fAdd:D->D->(D->Prop)->Prop
|.int i,.int j,Q=>Q (.int (i+j))
|.str a,.str b,Q=>a.length+b.length<=sizeLine/\Q (.str (a++b))
|.list a,.list b,Q=>a.length+b.length<=sizeLine/\Q (.list (a++b))
|.tuple a,.tuple b,Q=>a≠[]/\b≠[]/\a.length+b.length<=sizeLine/\Q (.tuple (a++b))
|_,_,_=>False
def fCat:D->D->(List D->Prop)->Prop
|.list a,.list b,Q=>a.length+b.length<=sizeLine/\Q (a++b)
|_,_,_=>False
theorem zvg1:R2F K (zl91 K) fCat:=by
 walk_at"29";unfold fCat at h;cases d <;> first|exact h.elim|skip
 all_goals cases e <;> first|exact h.elim|skip
 ·rename_i a b
  obtain⟨p,xs,rfl,J,z⟩:=G.list s;obtain⟨q,ys,rfl,I,u⟩:=B.list s;have M:=z.dlen;have L:=u.dlen;refine .inr ⟨p,q,xs,ys,rfl,rfl,J,I,by lia,λl hl=>?_⟩;obtain⟨ex,fn⟩:=zr7 (xs:=xs++ys) s hl;exact k _ h.2 l _ F _ ex hl zp0 fn (z.dapp u)
theorem zq7:R2E K (zl91 K) fAdd:=by
 walk_at"29";unfold fAdd at h;cases d <;> first|exact h.elim|skip
 all_goals cases e <;> first|exact h.elim|skip
 ·cases G.int;cases B.int;exact .inl (.inl ⟨_,_,rfl,rfl,k _ h _ F H (Ext.refl s) (.int _)⟩)
 ·cases G.str;cases B.str;exact .inl (.inr (.inl ⟨_,_,rfl,rfl,h.1,k _ h.2 _ F H (Ext.refl s) (.str _)⟩))
 ·rename_i a b
  refine zvg1 (Qd:=λds=>Qd (.list ds)) s G B h λds q l xs F' H' ex W J I Z=>?_;obtain⟨L,u⟩:=zaq ex W J I Z;exact k _ q _ _ _ L u
 ·rename_i a b
  obtain⟨p,xs,rfl,J,_,M⟩:=G.tuple s;obtain⟨q,ys,rfl,I,_,u⟩:=B.tuple s;have e1:=M.dlen;have L:=u.dlen;have O:xs≠[]:=λz=>h.1 (ubA.mp (by rw[<- e1,z];rfl));have n2:ys≠[]:=λz=>h.2.1 (ubA.mp (by rw[<- L,z];rfl));refine .inl (.inr (.inr (.inr ⟨p,q,xs,ys,rfl,rfl,J,I,O,by lia,λz=>aN z n2,λ_ l hl=>?_⟩)));obtain⟨ex,S⟩:=zoc (K:=K) (ds:=a++b) s hl (M.dapp u);exact k _ h.2.2.2 _ _ _ ex S
def fI(C:Int->Int->Prop)(g:Int->Int->D):D->D->(D->Prop)->Prop
|.int i,.int j,Q=>C i j/\Q (g i j)
|_,_,_=>False
def fI0(g:Int->Int->D):D->D->(D->Prop)->Prop
|.int i,.int j,Q=>Q (g i j)
|_,_,_=>False
theorem r_I{C:Int->Int->Prop}{g':Int->Int->D}(u:∀i j (F:Hp),Is K F (g i j) (g' i j)):R2E K (rI C g) (fI C g'):=by
 walk_at"6";unfold fI at h;cases d <;> first|exact h.elim|skip
 all_goals cases e <;> first|exact h.elim|skip
 ·cases q.int;cases p.int;exact⟨_,_,rfl,rfl,h.1,k _ h.2 _ F H (Ext.refl s) (u _ _ _)⟩
theorem r_I0{g':Int->Int->D}(u:∀i j (F:Hp),Is K F (g i j) (g' i j)):R2E K (rI0 g) (fI0 g'):=by
 walk_at"6";unfold fI0 at h;cases d <;> first|exact h.elim|skip
 all_goals cases e <;> first|exact h.elim|skip
 ·cases q.int;cases p.int;exact⟨_,_,rfl,rfl,k _ h _ F H (Ext.refl s) (u _ _ _)⟩
abbrev fSub:=fI0 λi j=>.int (i - j)
abbrev fDiv:=fI zr21 λi j=>.int (i / j)
abbrev fMod:=fI (λ_ j=>0 < j) λi j=>.int (i % j)
abbrev fPow:=fI CPow λi j=>.int (i ^ j.toNat)
abbrev fLt:=fI0 λi j=>.bool (decide (i < j))
abbrev fLe:=fI0 λi j=>.bool (decide (i<=j))
abbrev fGt:=fI0 λi j=>.bool (decide (j < i))
abbrev fGe:=fI0 λi j=>.bool (decide (j<=i))
theorem zgk:R2E K (rI0 λi j=>V.int (i - j)) fSub:=r_I0 λ_ _ _=>.int _
theorem zyk:R2E K (rI zr21 λi j=>V.int (i / j)) fDiv:=r_I λ_ _ _=>.int _
theorem zic:R2E K (rI (λ_ j=>0 < j) λi j=>V.int (i % j)) fMod:=r_I λ_ _ _=>.int _
theorem zz21:R2E K (rI CPow λi j=>V.int (i ^ j.toNat)) fPow:=r_I λ_ _ _=>.int _
theorem r_lt:R2E K (rI0 λi j=>V.bl (decide (i < j))) fLt:=r_I0 λ_ _ _=>.bl _
theorem r_le:R2E K (rI0 λi j=>V.bl (decide (i<=j))) fLe:=r_I0 λ_ _ _=>.bl _
theorem r_gt:R2E K (rI0 λi j=>V.bl (decide (j < i))) fGt:=r_I0 λ_ _ _=>.bl _
theorem r_ge:R2E K (rI0 λi j=>V.bl (decide (j<=i))) fGe:=r_I0 λ_ _ _=>.bl _
def fMul:D->D->(D->Prop)->Prop
|.int i,.int j,Q=>CMul i j/\Q (.int (i * j))
|.str z,.int n,Q=>0<=n/\z.length * n.toNat<=sizeLine/\n<=sizeLine/\Q (.str (repS z n.toNat))
|_,_,_=>False
theorem zl31:R2E K zu91 fMul:=by
 walk_at"6";unfold fMul at h;cases d <;> first|exact h.elim|skip
 all_goals cases e <;> first|exact h.elim|skip
 ·cases q.int;cases p.int;exact .inl (.inl (.inl ⟨_,_,rfl,rfl,h.1,k _ h.2 _ F H (Ext.refl s) (.int _)⟩))
 ·cases q.str;cases p.int;exact .inl (.inr ⟨_,_,rfl,rfl,h.1,h.2.1,h.2.2.1,k _ h.2.2.2 _ F H (Ext.refl s) (.str _)⟩)
def fRep:List D->D->(List D->Prop)->Prop
|ds,.int n,Q=>n < 2 ^ 62/\-(2 ^ 62)<=n/\ds.length * n.toNat<=sizeLine/\Q (vU n.toNat ds).flatten
|_,_,_=>False
def dRep(df:DF)(db:DE):DF:=λU Q=>df U λds=>db U λy=>fRep ds y Q
theorem zcv{F:Hp}{xs:List V}{ds:List D}(h:IsAll K F xs ds):∀n:Nat,IsAll K F (vU n xs).flatten (vU n ds).flatten
|0=>.nil
|n+1=>by rw[yS,yS,yZ,yZ];exact h.dapp (zcv h n)
theorem zm71(S:RfF K ta df)(O:RfE K tb db):RfF K (tOp zu91 ta tb) (dRep df db):=by
 walk_at"0";refine S s rv h λds M a xs F1 H1 G hn W h2 J=>O G.fh (rv.ext G) M λy z u F2 H2 B L=>?_;unfold fRep at z;split at z
 ·rename_i n
  cases L.int_inv;have Z:=J.dlen;refine .inr ⟨a,n,xs,rfl,rfl,B.h _ _ W,by lia,by lia,by rw[Z];exact z.2.2.1,λp I=>?_⟩;obtain⟨ex,fn⟩:=zr7 (xs:=(vU n.toNat xs).flatten) B.fh I;refine k _ z.2.2.2 p _ F2 _ ((G.trans B).trans ex) ?_ zp0 fn (zcv (J.mono B.f) _);cases q:H p with
 |none=>rfl
 |some o=>rw[(G.trans B).h p o q]at I;cases I
 ·exact z.elim
def fEq:D->D->(D->Prop)->Prop
|.int i,.int j,Q=>Q (.bool (decide (i=j)))
|.str i,.str j,Q=>Q (.bool (decide (i=j)))
|.bool i,.bool j,Q=>Q (.bool (decide (i=j)))
|d,e,Q=>bI d=true/\bI e=true/\Q (.bool (xD d e))
def fNe:D->D->(D->Prop)->Prop
|.int i,.int j,Q=>Q (.bool (!decide (i=j)))
|.str i,.str j,Q=>Q (.bool (!decide (i=j)))
|.bool i,.bool j,Q=>Q (.bool (!decide (i=j)))
|d,e,Q=>bI d=true/\bI e=true/\Q (.bool (!PyData.eqv d e))
theorem zhf(i j:Int):decide (V.int i=V.int j)=decide (i=j):=by simp
theorem znf(i j:Str):decide (V.str i=V.str j)=decide (i=j):=by simp
theorem zym(i j:Bool):decide (V.bl i=V.bl j)=decide (i=j):=by simp
def zxs:D->Bool
|.none=>true
|_=>false
def fIsN:D->D->(D->Prop)->Prop
|d,.none,Q=>Q (.bool (zxs d))
|_,_,_=>False
def zna1:D->D->(D->Prop)->Prop
|d,.none,Q=>Q (.bool (!zxs d))
|_,_,_=>False
theorem ze31{F H:Hp}{d:D}(s:Same F H)(p:Vw K F H x d):decide (x=.non)=zxs d:=by
 cases p.is s <;> simp[zxs]
theorem zv51{F H:Hp}(s:Same F H)(p:Vw K F H x .none):x=.non:=by
 cases p.is s;rfl
theorem zjg1:R2E K (λx y H Q=>y=V.non/\Q (V.bl (decide (x=V.non))) H) fIsN:=by
 walk_at"6";unfold fIsN at h;split at h
 ·refine⟨zv51 s p,k _ h _ F H (Ext.refl s) ?_⟩;rw[ze31 s q];exact .bl _
 ·exact h.elim
theorem zo31:R2E K (λx y H Q=>y=V.non/\Q (V.bl (!decide (x=V.non))) H) zna1:=by
 walk_at"6";unfold zna1 at h;split at h
 ·refine⟨zv51 s p,k _ h _ F H (Ext.refl s) ?_⟩;rw[ze31 s q];exact .bl _
 ·exact h.elim
def fIx:D->D->(D->Prop)->Prop
|.list ds,.int i,Q=>∃d,atI ds i=some d/\Q d
|.tuple ds,.int i,Q=>∃d,atI ds i=some d/\Q d
|.str z,.int i,Q=>z.length<=sizeLine/\∃c,atI z.cps.toList i=some c/\Q (.str ⟨#[c]⟩)
|_,_,_=>False
theorem zx51{F:Hp}{ds:List D}{i:Int}{d:D}(h:IsAll K F xs ds)(e:atI ds i=some d):∃x,atI xs i=some x/\Is K F x d:=by
 unfold atI at e ⊢;rw[h.dlen];cases q:ixN ds.length i with
|none=>rw[q]at e;cases e
|some j =>
  rw[q]at e;obtain⟨x,u,p⟩:=h.dget (show ds[j]?=some d from e);exact⟨x,u,p⟩
theorem r_ix:R2E K (rIxV w K) fIx:=by
 intro F H x y d e Qd Q s I G h k;unfold fIx at h;cases d <;> first|exact h.elim|skip
 all_goals cases e <;> first|exact h.elim|skip
 ·obtain⟨hz,c,O,q⟩:=h;cases I.str;cases G.int;exact .inl (.inl (.inr (.inr ⟨_,_,c,rfl,rfl,hz,O,k _ q _ F H (Ext.refl s) (.str _)⟩)))
 ·obtain⟨z,L,q⟩:=h;obtain⟨p,xs,rfl,J,B⟩:=I.list s;cases G.int;obtain⟨v,M,u⟩:=zx51 B L;exact .inl (.inl (.inl ⟨p,xs,_,v,rfl,rfl,J,M,k _ q _ F H (Ext.refl s) u⟩))
 ·obtain⟨z,L,q⟩:=h;obtain⟨p,xs,rfl,J,_,B⟩:=I.tuple s;cases G.int;obtain⟨v,M,u⟩:=zx51 B L;exact .inl (.inl (.inr (.inl ⟨p,xs,_,v,rfl,rfl,J,M,k _ q _ F H (Ext.refl s) u⟩)))
def zbc:D->Bool
|.none=>true
|.bool _=>true
|.int _=>true
|.str _=>true
|_=>false
def eqF:D->D->Bool
|.none,.none=>true
|.bool a,.bool b=>a == b
|.bool a,.int b=>(if a then 1 else 0) == b
|.int a,.bool b=>a == (if b then 1 else 0)
|.int a,.int b=>a == b
|.str a,.str b=>a == b
|_,_=>false
theorem zgm{F:Hp}{d:D}(h:Is K F x d)(f:zbc d=true):zfs x=true:=by
 cases h <;> first|rfl|exact aN f (by simp[zbc])
theorem zph{F:Hp}:∀{xs:List V}{ds:List D},IsAll K F xs ds->ds.all zbc=true->xs.all zfs=true
|_,_,.nil,_=>rfl
|_,_,.cons h r,f=>by
  rw[zH,yY]at f ⊢;exact⟨zgm h f.1,zph r f.2⟩
theorem zn31{F:Hp}{d e:D}(h:Is K F x d)(h':Is K F y e)(f:zbc d=true)(g:zbc e=true):eqV x y=eqF d e:=by
 cases h <;> cases h' <;> first|rfl|exact aN f (by simp[zbc])|exact aN g (by simp[zbc])
theorem zpl{F:Hp}{x:V}{d:D}(p:Is K F x d)(f:zbc d=true):∀{xs:List V}{ds:List D},IsAll K F xs ds->ds.all zbc=true->inV x xs=ds.any λy=>eqF y d
|_,_,.nil,_=>rfl
|_,_,.cons h r,g=>by
  rw[zH,yY]at g;unfold inV;rw[xV,xV,zn31 h p g.1 f];congr 1;exact zpl p f r g.2
def fIn(neg:Bool):D->D->(D->Prop)->Prop
|d,.list ds,Q=>zbc d=true/\ds.all zbc=true/\Q (.bool (if neg then !(ds.any λy=>eqF y d)else ds.any λy=>eqF y d))
|d,.tuple ds,Q=>zbc d=true/\ds.all zbc=true/\Q (.bool (if neg then !(ds.any λy=>eqF y d)else ds.any λy=>eqF y d))
|.str c,.str z,Q=>∃n,c=⟨#[n]⟩/\Q (.bool (if neg then !decide (n∈z.cps.toList)else decide (n∈z.cps.toList)))
|_,_,_=>False
theorem zj61{F H:Hp}{d e:D}{Qd:D->Prop}{Q:VK}(s:Same F H)(G:Vw K F H x d)(B:Vw K F H y e)(h:fIn neg d e Qd)(k:∀z,Qd z->∀v J H',Ext F H J H'->Is K J v z->Q v H') :
  rIn K neg x y H Q \/ ∃c z,x=.str ⟨#[c]⟩/\y=.str z/\Q (.bl (if neg then !decide (c∈z.cps.toList)else decide (c∈z.cps.toList))) H:=by
 unfold fIn at h;split at h
 ·obtain⟨f,g,q⟩:=h;obtain⟨p,xs,rfl,I,u⟩:=B.list s;have ix:=G.is s;refine .inl ⟨p,xs,rfl,.inl I,zgm ix f,zph (u.mono s) g,?_⟩;rw[zpl ix f (u.mono s) g];exact k _ q _ F H (Ext.refl s) (.bl _)
 ·obtain⟨f,g,q⟩:=h;obtain⟨p,xs,rfl,I,_,u⟩:=B.tuple s;have ix:=G.is s;refine .inl ⟨p,xs,rfl,.inr I,zgm ix f,zph (u.mono s) g,?_⟩;rw[zpl ix f (u.mono s) g];exact k _ q _ F H (Ext.refl s) (.bl _)
 ·obtain⟨n,rfl,q⟩:=h;cases G.str;cases B.str;exact .inr ⟨n,_,rfl,rfl,k _ q _ F H (Ext.refl s) (.bl _)⟩
 ·exact h.elim
theorem zg41:R2E K (zgq w K) (fIn true):=by
 intro F H x y d e Qd Q s u p h k;rcases zj61 s u p h k with z|⟨c,z,G,B,q⟩
 ·exact .inl (.inl (.inl z))
 ·exact .inl (.inl (.inr ⟨c,z,G,B,q⟩))
def dUn(f:D->(D->Prop)->Prop)(da:DE):DE:=λU Q=>da U λx=>f x Q
def fNeg:D->(D->Prop)->Prop
|.int i,Q=>Q (.int (-i))
|_,_=>False
theorem zx31(u:RfE K ta da):RfE K (tUn (rU λi=>V.int (-i)) ta) (dUn fNeg da):=by
 walk_at"0";refine u s rv h λx p v G B z q=>?_;unfold fNeg at p;split at p
 ·cases q.int_inv;exact⟨_,rfl,k _ p _ G B z (.int _)⟩
 ·exact p.elim
def fB(d:D)(Q:Bool->Prop):Prop:=match d with
|.bool b=>Q b
|_=>False
theorem zka1{F:Hp}{v:V}{d:D}{Q:Bool->Prop}(i:Is K F v d)(h:fB d Q):∃b,v=.bl b/\Q b:=by
 unfold fB at h;split at h
 ·exact⟨_,i.bl_inv,h⟩
 ·exact h.elim
def zsd1(da:DE):DE:=λU Q=>da U λx=>fB x λb=>Q (.bool (!b))
theorem zs31(z:RfE K ta da):RfE K (zqd1 ta) (zsd1 da):=by
 walk_at"0";refine z s rv h λx u v I G B p=>?_;obtain⟨b,rfl,q⟩:=zka1 p u;exact⟨b,rfl,k _ q _ I G B (.bl _)⟩
def zkf1(da db:DE):DE:=λU Q=>da U λx=>fB x λb=>if b=true then db U Q else Q (.bool false)
theorem zhv(L:RfE K ta da)(J:RfE K tb db):RfE K (zuf1 ta tb) (zkf1 da db):=by
 walk_at"0";refine L s rv h λx I v S O p B=>?_;obtain⟨b,rfl,q⟩:=zka1 B I;refine⟨b,rfl,?_⟩;cases b with
|true =>
  rw[aF rfl]at q ⊢;exact J p.fh (rv.ext p) q λy G u F2 H2 M z=>k y G u F2 H2 (p.trans M) z
|false =>
  rw[aA v3]at q ⊢;exact k _ q _ S O p (.bl _)
def zof1(de:DE):DT:=λU Q=>de U λd=>fB d Q
theorem zq0(h:RfE K te de):RfT K (zs71 te) (zof1 de):=by
 walk_at"2";refine h s rv hd λx u v G B z p=>?_;obtain⟨b,rfl,q⟩:=zka1 p u;exact⟨b,rfl,k b q G B z⟩
def fTru:D->(Bool->Prop)->Prop
|.none,Q=>Q false
|.bool b,Q=>Q b
|.int i,Q=>Q (i != 0)
|.str z,Q=>z.length<=sizeLine/\Q ((z.length:Int) != 0)
|.list ds,Q=>Q (!ds.isEmpty)
|.tuple ds,Q=>Q (!ds.isEmpty)
|.dict _,_=>False
def dTru(de:DE):DT:=λU Q=>de U λd=>fTru d Q
theorem zpk{F:Hp}{ds:List D}(h:IsAll K F xs ds):xs.isEmpty=ds.isEmpty:=by cases h <;> rfl
theorem zv8(h:RfV K te de):RfT K (zmd1 K te) (dTru de):=by
 walk_at"2";refine h s rv hd λx q v G B u z=>?_;unfold fTru at q;split at q
 ·cases z.is u.fh;exact⟨false,rfl,k _ q G B u⟩
 ·cases z.bl;exact⟨_,rfl,k _ q G B u⟩
 ·cases z.int;exact⟨_,rfl,k _ q G B u⟩
 ·cases z.str;exact⟨_,⟨q.1,rfl⟩,k _ q.2 G B u⟩
 ·obtain⟨p,xs,rfl,J,I⟩:=z.list u.fh;refine⟨_,.inl ⟨xs,J,rfl⟩,?_⟩;rw[zpk I];exact k _ q G B u
 ·obtain⟨p,xs,rfl,J,_,I⟩:=z.tuple u.fh;refine⟨_,.inr (.inl ⟨xs,J,rfl⟩),?_⟩;rw[zpk I];exact k _ q G B u
 ·exact q.elim
def dAnd(dt du:DT):DT:=λU Q=>dt U λb=>if b=true then du U Q else Q false
def dOr(dt du:DT):DT:=λU Q=>dt U λb=>if b=true then Q true else du U Q
def dNot(dt:DT):DT:=λU Q=>dt U λb=>Q (!b)
theorem zel(z:RfT K tt dt)(u:RfT K tu du):RfT K (tAnd tt tu) (dAnd dt du):=by
 walk_at"0";refine z s rv h λb p J I q=>?_;cases b with
|true =>
  rw[aF rfl]at p ⊢;exact u q.fh (rv.ext q) p λc B F2 H2 G=>k c B F2 H2 (q.trans G)
|false =>
  rw[aA v3]at p ⊢;exact k _ p J I q
theorem zfg(z:RfT K tt dt)(u:RfT K tu du):RfT K (tOr tt tu) (dOr dt du):=by
 walk_at"0";refine z s rv h λb p J I q=>?_;cases b with
|false =>
  rw[aA v3]at p ⊢;exact u q.fh (rv.ext q) p λc B F2 H2 G=>k c B F2 H2 (q.trans G)
|true =>
  rw[aF rfl]at p ⊢;exact k _ p J I q
theorem zdc(p:RfT K tt dt):RfT K (tNot tt) (dNot dt):=λ_ _ _ _ _ _ s rv h k=>p s rv h λb q B z u=>k _ q B z u
def dIfE(dt:DT)(da db:DE):DE:=λU Q=>dt U λb=>if b=true then da U Q else db U Q
theorem zb01(I:RfT K tt dt)(L:RfE K ta da)(J:RfE K tb db):RfE K (tIf tt ta tb) (dIfE dt da db):=by
 walk_at"0";refine I s rv h λb p O M q=>?_;cases b with
|true =>
  rw[aF rfl]at p ⊢;exact L q.fh (rv.ext q) p λy B u F2 H2 G z=>k y B u F2 H2 (q.trans G) z
|false =>
  rw[aA v3]at p ⊢;exact J q.fh (rv.ext q) p λy B u F2 H2 G z=>k y B u F2 H2 (q.trans G) z
def dNil:DF:=λ_ Q=>Q []
def zv81(da:DE)(p:DF):DF:=λU Q=>da U λx=>p U λxs=>Q (x :: xs)
theorem zk0:RfA K tNil dNil:=λ_ _ _ _ _ _ s rv h k=>k _ h _ _ _ (Ext.refl s) .nil
theorem zb0(I:RfE K ta da)(hr:RfA K tA dA):RfA K (zkm ta tA) (zv81 da dA):=by
 walk_at"0";refine I s rv h λx G v L J p B=>hr p.fh (rv.ext p) G λxs q vs F2 H2 u z=>?_;exact k _ q _ F2 H2 (p.trans u) (.cons (B.mono u.f) z)
theorem zq1:RfAV K tNil dNil:=λ_ _ _ _ _ _ s rv h k=>k _ h _ _ _ (Ext.refl s) .nil
theorem zw0(I:RfV K ta da)(hr:RfAV K tA dA):RfAV K (zkm ta tA) (zv81 da dA):=by
 walk_at"0";refine I s rv h λx G v L J p B=>hr p.fh (rv.ext p) G λxs q vs F2 H2 u z=>?_;exact k _ q _ F2 H2 (p.trans u) (.cons (B.ext u) z)
def dTup(dA:DF):DE:=λU Q=>dA U λxs=>xs.length<=sizeLine/\Q (.tuple xs)
theorem zy1(h:RfA K tA dA):RfE K (zq91 tA) (dTup dA):=by
 walk_at"2";refine h s rv hd λxs u vs J I z q=>⟨by rw[q.dlen];exact u.1,λp G=>?_⟩
 obtain⟨ex,B⟩:=zoc (K:=K) z.fh G q;exact k _ u.2 _ _ _ (z.trans ex) B
def dLst(dA:DF):DF:=λU Q=>dA U λxs=>xs.length<=sizeLine/\Q xs
theorem zd6(h:RfA K tA dA):RfF K (zab1 tA) (dLst dA):=by
 walk_at"2";refine h s rv hd λxs G vs I J z B=>⟨by rw[B.dlen];exact G.1,λp u=>?_⟩
 obtain⟨ex,fn⟩:=zr7 (xs:=vs) z.fh u;refine k _ G.2 p vs I _ (z.trans ex) ?_ zp0 fn B;cases q:H p with
|none=>rfl
|some o=>rw[z.h p o q]at u;cases u
abbrev DSp:=List D->(D->Prop)->Prop
def spD(K:Fg)(p:DSp):Sp:=λvs H Q _=>∃F ds Qd,Same F H/\IsAll K F vs ds/\p ds Qd/\∀d,Qd d->∀v q H',Ext F H q H'->Is K q v d->Q v H'
def zae1(p:DSp)(dA:DF):DE:=λU Q=>dA U λds=>p ds Q
theorem zs0{p:DSp}(h:RfA K tA dA):RfE K (zk21 (spD K p) [] E tA) (zae1 p dA):=by
 walk_at"2";refine h s rv hd λds G vs J M u B=>?_;rw[wQ];exact⟨J,ds,Qd,u.fh,B,G,λd q v L H' I z=>k d q v L H' (u.trans I) z⟩
def CB(K:Fg)(r:List V->Hp->VK->Prop)(f:List D->(D->Prop)->Prop):Prop:=∀⦃F H:Hp⦄⦃vs:List V⦄⦃ds:List D⦄⦃Qd:D->Prop⦄⦃Q:VK⦄,Same F H->VwAll K F H vs ds->f ds Qd->(∀z,Qd z->∀v p H',Ext F H p H'->Is K p v z->Q v H')->r vs H Q
def CF(K:Fg)(r:List V->Hp->VK->Prop)(f:List D->(List D->Prop)->Prop):Prop:=∀⦃F H:Hp⦄⦃vs:List V⦄⦃ds:List D⦄⦃Qd:List D->Prop⦄⦃Q:VK⦄,Same F H->VwAll K F H vs ds->f ds Qd->(∀z,Qd z->∀a xs p H',Ext F H p H'->H a=none->H' a=some (.lst xs)->p a=none->IsAll K p xs z->Q (.ref a) H')->r vs H Q
def dCB(f:List D->(D->Prop)->Prop)(dA:DF):DE:=λU Q=>dA U λds=>f ds Q
def dCF(f:List D->(List D->Prop)->Prop)(dA:DF):DF:=λU Q=>dA U λds=>f ds Q
theorem zf9{r:List V->Hp->VK->Prop}{f:List D->(D->Prop)->Prop}(hr:CB K r f)(h:RfAV K tA dA):RfE K (tCB r tA) (dCB f dA):=by
 walk_at"2";refine h s rv hd λds G vs M L p B=>hr p.fh B G λz q v J H' I u=>k z q v J H' (p.trans I) u
theorem zd81{r:List V->Hp->VK->Prop}{f:List D->(List D->Prop)->Prop}(hr:CF K r f)(h:RfAV K tA dA):RfF K (tCB r tA) (dCF f dA):=by
 walk_at"2";refine h s rv hd λds G vs W S p B=>hr p.fh B G λz q a xs O H' M u L J I=>k z q a xs O H' (p.trans M) ?_ L J I;cases z:H a with
|none=>rfl
|some o=>rw[p.h a o z]at u;cases u
theorem vw1{F H:Hp}{d:D}(h:VwAll K F H vs [d]):∃v,vs=[v]/\Vw K F H v d:=by
 cases h with
|cons h r=>cases r;exact⟨_,rfl,h⟩
theorem vw2{F H:Hp}{d e:D}(h:VwAll K F H vs [d,e]):∃v u,vs=[v,u]/\Vw K F H v d/\Vw K F H u e:=by
 cases h with
|cons h r=>obtain⟨u,rfl,p⟩:=vw1 r;exact⟨_,u,rfl,h,p⟩
def fLen:List D->(D->Prop)->Prop
|[.list ds],Q=>Q (.int (ds.length:Nat))
|[.tuple ds],Q=>Q (.int (ds.length:Nat))
|[.str z],Q=>z.length<=sizeLine/\Q (.int (z.length:Nat))
|_,_=>False
theorem zle:CB K (rLen K) fLen:=by
 intro F H vs ds Qd Q s u h k;unfold fLen at h;rcases ds with _|⟨d,_|⟨e,r⟩⟩
 all_goals first|exact h.elim|(cases d <;> first|exact h.elim|skip)
 ·obtain⟨v,rfl,hw⟩:=vw1 u;cases hw.str;exact⟨_,_,rfl,⟨h.1,rfl⟩,k _ h.2 _ F H (Ext.refl s) (.int _)⟩
 ·obtain⟨v,rfl,hw⟩:=vw1 u;obtain⟨p,xs,rfl,z,q⟩:=hw.list s;refine⟨_,_,rfl,.inl ⟨xs,z,rfl⟩,?_⟩;rw[q.dlen];exact k _ h _ F H (Ext.refl s) (.int _)
 ·obtain⟨v,rfl,hw⟩:=vw1 u;obtain⟨p,xs,rfl,z,_,q⟩:=hw.tuple s;refine⟨_,_,rfl,.inr ⟨xs,z,rfl⟩,?_⟩;rw[q.dlen];exact k _ h _ F H (Ext.refl s) (.int _)
def zfj:List D->Option (List Int)
|[]=>some []
|.int i :: r=>(zfj r).map (i :: ·)
|_ :: _=>none
theorem zwh{F:Hp}:∀{xs:List V}{ds:List D}{ns:List Int},IsAll K F xs ds->zfj ds=some ns->xs=ns.map V.int
|_,_,_,.nil,e=>by cases e;rfl
|_,_,_,.cons h r,e=>by
  cases h with
 |int i =>
   unfold zfj at e;obtain⟨q,p,rfl⟩:=w6.mp e;rw[zwh r p];rfl
 |_=>cases e
theorem ints_map(ns:List Int):zfj (ns.map u6)=some ns:=by
 induction ns with
|nil=>rfl
|cons n r p=>simp[zfj,p]
def fSum:List D->(D->Prop)->Prop
|[.list ds],Q=>∃ns,zfj ds=some ns/\Q (.int ns.sum)
|_,_=>False
theorem zk01:CB K (rSum K) fSum:=by
 walk_at"33";unfold fSum at h;rcases ds with _|⟨d,_|⟨e,r⟩⟩
 all_goals first|exact h.elim|(cases d <;> first|exact h.elim|skip)
 ·obtain⟨v,rfl,hw⟩:=vw1 z;obtain⟨p,xs,rfl,B,u⟩:=hw.list s;obtain⟨ns,e,q⟩:=h;have:=zwh u e;subst this;exact⟨p,ns,rfl,B,k _ q _ F H (Ext.refl s) (.int _)⟩
def zx81:List D->(List D->Prop)->Prop
|[.list ds],Q=>Q ds
|[.tuple ds],Q=>Q ds
|_,_=>False
theorem zet:CF K (zie1 K) zx81:=by
 walk_at"33";unfold zx81 at h;rcases ds with _|⟨d,_|⟨e,r⟩⟩
 all_goals first|exact h.elim|(cases d <;> first|exact h.elim|skip)
 ·obtain⟨v,rfl,hw⟩:=vw1 z;obtain⟨p,xs,rfl,u,q⟩:=hw.list s;refine⟨p,xs,rfl,.inl u,λl hl=>?_⟩;obtain⟨ex,fn⟩:=zr7 (xs:=xs) s hl;exact k _ h l xs F _ ex hl zp0 fn q
 ·obtain⟨v,rfl,hw⟩:=vw1 z;obtain⟨p,xs,rfl,u,_,q⟩:=hw.tuple s;refine⟨p,xs,rfl,.inr u,λl hl=>?_⟩;obtain⟨ex,fn⟩:=zr7 (xs:=xs) s hl;exact k _ h l xs F _ ex hl zp0 fn q
def tyD:D->String
|.none => "NoneType"|.bool _ => "bool"|.int _ => "int"|.str _ => "str"|.list _ => "list"|.tuple _ => "tuple"|.dict _ => "dict"
def isT(T:String)(d:D):Bool:=tyD d == T || (T == "int" && tyD d == "bool")
structure Kit(K:Fg):Prop where
 ok:∀t∈["NoneType", "bool", "int", "str", "list", "tuple"],∀T∈["int", "bool", "list", "tuple", "str"],d0 K (.type t) (.type T)=some (t == T || (T == "int" && t == "bool"))
def dIs(T:String)(da:DE):DE:=λU Q=>da U λd=>(∀kvs,d≠.dict kvs)/\Q (.bool (isT T d))
theorem zmz{T:String}(kt:Kit K)(p:T∈["int", "bool", "list", "tuple", "str"])(L:RfV K ta da):RfE K (tCB (rIsW K) (zkm ta (zkm (tC (.ty T)) tNil))) (dIs T da):=by
 walk_at"2";refine L s rv hd λd hd v M G B J=>?_;have q:=k _ hd.2 (.bl (isT T d)) M G B (.bl _);have I:=J.is B.fh;show rIsW K [v,.ty T] G Q;cases I with
|non=>exact .inl ⟨_,_,_,_,_,rfl,rfl,.non,kt.ok _ (by simp) T p,q⟩
|bl b=>exact .inl ⟨_,_,_,_,_,rfl,rfl,.bl b,kt.ok _ (by simp) T p,q⟩
|int b=>exact .inl ⟨_,_,_,_,_,rfl,rfl,.int b,kt.ok _ (by simp) T p,q⟩
|str b=>exact .inl ⟨_,_,_,_,_,rfl,rfl,.str b,kt.ok _ (by simp) T p,q⟩
|lst u z=>exact .inr ⟨_,_,_,_,rfl,rfl,.inl ⟨⟨_,u⟩,kt.ok _ (by simp) T p⟩,q⟩
|tup u z=>exact .inr ⟨_,_,_,_,rfl,rfl,.inr ⟨⟨_,SqT.of u⟩,kt.ok _ (by simp) T p⟩,q⟩
|tuc u z _=>exact .inr ⟨_,_,_,_,rfl,rfl,.inr ⟨⟨_,u⟩,kt.ok _ (by simp) T p⟩,q⟩
abbrev DO:=DSt->(Option Int->Prop)->Prop
def zjw:DO:=λ_ Q=>Q none
def zlf1(de:DE):DO:=λU Q=>de U λd=>match d with
|.int i=>Q (some i)
|_=>False
theorem zij:RfO K zsv zjw:=λ_ _ _ _ _ _ s rv h k=>k _ h _ _ (Ext.refl s)
theorem zef(h:RfE K te de):RfO K (zp41 te) (zlf1 de):=by
 walk_at"2";refine h s rv hd λd p v B z u q=>?_;split at p
 ·cases q.int_inv;exact⟨_,rfl,k _ p B z u⟩
 ·exact p.elim
def cutD(xs:List D)(lo hi:Option Int):List D:=(xs.drop (HT.sIx xs.length 0 lo)).take (HT.sIx xs.length xs.length hi - HT.sIx xs.length 0 lo)
theorem zlw{F:Hp}{ds:List D}(h:IsAll K F xs ds)(lo hi:Option Int):IsAll K F (cutV xs lo hi) (cutD ds lo hi):=by
 unfold cutV cutD;rw[h.dlen];exact(h.ddrop _).dtake _
def fSl(d:D)(lo hi:Option Int)(Q:D->Prop):Prop:=match d with
|.list ds=>Q (.list (cutD ds lo hi))
|.str z=>z.length<=sizeLine/\Q (.str (Txt.slice z lo hi))
|.tuple ds=>¬(HT.sIx ds.length 0 lo=0/\HT.sIx ds.length ds.length hi=ds.length)/\Q (.tuple (cutD ds lo hi))
|_=>False
variable {tl th tk:TO}{dl dh dk:DO}
def dSl(de:DE)(dl dh:DO):DE:=λU Q=>de U λd=>dl U λlo=>dh U λhi=>fSl d lo hi Q
theorem zk2{F H u:Hp}{p:aE}(e:Ext F H u H')(h:H' p=none):H p=none:=by
 cases q:H p with
|none=>rfl
|some o=>rw[e.h p o q]at h;cases h
theorem zfc1(he:RfV K te de)(hl:RfO K tl dl)(Z:RfO K th dh):RfE K (tSl (rSlW K) te tl th) (dSl de dl dh):=by
 walk_at"0";refine he s rv h λd hd v F1 H1 I W=>hl I.fh (rv.ext I) hd λlo O F2 H2 G=>Z G.fh (rv.ext (I.trans G)) O λhi q F3 H3 z=>?_;have u:=(I.trans G).trans z;have L:=W.ext (G.trans z);unfold fSl at q;split at q
 ·obtain⟨p,xs,rfl,M,B⟩:=L.list z.fh;refine .inl (.inl ⟨p,xs,rfl,M,λl hl=>?_⟩);obtain⟨ex,fn⟩:=zr7 (xs:=cutV xs lo hi) z.fh hl;obtain⟨S,J⟩:=zaq (K:=K) ex hl zp0 fn (zlw B lo hi);exact k _ q _ _ _ (u.trans S) J
 ·cases L.str;exact .inr ⟨_,rfl,q.1,k _ q.2 _ F3 H3 u (.str _)⟩
 ·obtain⟨p,xs,rfl,M,_,B⟩:=L.tuple z.fh;refine .inl (.inr ⟨p,xs,rfl,M,by rw[B.dlen];exact q.1,λl hl=>?_⟩);obtain⟨ex,J⟩:=zoc (K:=K) z.fh hl (zlw B lo hi);exact k _ q.2 _ _ _ (u.trans ex) J
 ·exact q.elim
theorem zcf{F:Hp}{xs:List V}{ds:List D}(h:IsAll K F xs ds):∀q:List Nat,IsAll K F (q.filterMap (xs[·]?)) (q.filterMap (ds[·]?))
|[]=>.nil
|j :: q=>by
  have z:=zcf h q;cases p:ds[j]? with
 |some n =>
   obtain⟨u,G,r⟩:=h.dget p;simp only[w8,p,G];exact .cons r z
 |none =>
   have B:xs[j]?=none:=by
    rw[j8]at p ⊢;rw[h.dlen];exact p
   simp only[w8,p,B];exact z
theorem zez{F:Hp}{ds:List D}(h:IsAll K F xs ds)(lo hi st:Option Int):IsAll K F (zzn xs lo hi st) (zzn ds lo hi st):=by
 unfold zzn;rw[h.dlen];exact zcf h _
def dSl3(de:DE)(dl dh dk:DO):DF:=λU Q=>de U λd=>dl U λlo=>dh U λhi=>dk U λst=>match d with
|.list ds=>st≠some 0/\Q (zzn ds lo hi st)
|_=>False
theorem zy91(Z:RfV K te de)(hl:RfO K tl dl)(W:RfO K th dh)(S:RfO K tk dk):RfF K (tSl3 K te tl th tk) (dSl3 de dl dh dk):=by
 walk_at"0";refine Z s rv h λd hd v F1 H1 z O=>hl z.fh (rv.ext z) hd λlo J F2 H2 u=>W u.fh (rv.ext (z.trans u)) J λhi L F3 H3 I=>S I.fh (rv.ext ((z.trans u).trans I)) L λst q F4 H4 G=>?_;split at q
 ·have B:=((z.trans u).trans I).trans G;obtain⟨p,xs,rfl,h1,M⟩:=(O.ext ((u.trans I).trans G)).list G.fh;refine⟨p,xs,rfl,h1,q.1,λl hl=>?_⟩;obtain⟨ex,fn⟩:=zr7 (xs:=zzn xs lo hi st) G.fh hl;exact k _ q.2 l _ F4 _ (B.trans ex) (zk2 B hl) zp0 fn (zez M lo hi st)
 ·exact q.elim
def W0(K:Fg)(J:It)(F H:Hp)(items:List D):Prop:=(∀i,i < items.length->J.go i H)/\J.stop items.length H/\∀i x p d,items[i]?=some d->J.yld i H x p->p=H/\Is K F x d
def W1(K:Fg)(J:It)(F H:Hp)(items:List D):Prop:=(∀i,i < items.length->J.go i H)/\J.stop items.length H/\∀i x p d,items[i]?=some d->J.yld i H x p->∃q,Ext F H q p/\Is K q x d
def WD(K:Fg)(J:It)(F:Hp)(items:List D):Prop:=∀F2 H2,Same F F2->Same F2 H2->W1 K J F2 H2 items
def WV(K:Fg)(J:It)(F H:Hp)(items:List D):Prop:=∀F2 H2,Ext F H F2 H2->W1 K J F2 H2 items
theorem W0.w1{J:It}{F H:Hp}{items:List D}(s:Same F H)(h:W0 K J F H items):W1 K J F H items:=⟨h.1,h.2.1,λi x p d e y=>by
 obtain⟨rfl,r⟩:=h.2.2 i x p d e y;exact⟨F,Ext.refl s,r⟩⟩
def RfI(K:Fg)(ti:TI)(di:DF):Prop:=∀⦃F H:Hp⦄⦃Y:_2.St⦄⦃U:DSt⦄⦃Qd:List D->Prop⦄⦃R:It->Hp->Prop⦄,Same F H->RV K F H Y U->di U Qd->(∀ds,Qd ds->∀J p H',Ext F H p H'->WD K J p ds->R J H')->ti Y H R
def RfJ(K:Fg)(ti:TI)(di:DF):Prop:=∀⦃F H:Hp⦄⦃Y:_2.St⦄⦃U:DSt⦄⦃Qd:List D->Prop⦄⦃R:It->Hp->Prop⦄,Same F H->RV K F H Y U->di U Qd->(∀ds,Qd ds->∀J p H',Ext F H p H'->WV K J p H' ds->R J H')->ti Y H R
theorem zzc{F H:Hp}{ds:List D}(h:SqL K H a xs)(i:IsAll K F xs ds):W0 K (Itl K a) F H ds:=by
 have G:=i.dlen;refine⟨λj B=>⟨xs,xs[j]'(by lia),h,u5 _⟩,⟨xs,h,by lia⟩,λj x I d e y=>?_⟩;obtain⟨u,y⟩:=y;obtain⟨z,q,p⟩:=i.dget e;have:=y xs h;rw[q]at this;cases this;exact⟨u,p⟩
theorem znt{F H:Hp}{ds:List D}(h:SqT K H a xs)(i:IsAll K F xs ds):W0 K (Itt K a) F H ds:=by
 have G:=i.dlen;refine⟨λj B=>⟨xs,xs[j]'(by lia),h,u5 _⟩,⟨xs,h,by lia⟩,λj x I d e y=>?_⟩;obtain⟨u,y⟩:=y;obtain⟨z,q,p⟩:=i.dget e;have:=y xs h;rw[q]at this;cases this;exact⟨u,p⟩
def zg21:D->(List D->Prop)->Prop
|.list ds,Q=>Q ds
|.tuple ds,Q=>Q ds
|.str z,Q=>z.cps.all (· < 128)=true/\Q (z.cps.toList.map λc=>.str ⟨#[c]⟩)
|_,_=>False
def dIt(de:DE):DF:=λU Q=>de U λd=>zg21 d Q
theorem zz31{F H:Hp}(z:Str)(s:Same F H):W1 K (Its z) F H (z.cps.toList.map λc=>.str ⟨#[c]⟩):=by
 have q:(z.cps.toList.map λc=>(wI ⟨#[c]⟩)).length=z.cps.size:=by simp
 refine⟨λj p=>by rw[q]at p;exact p,by rw[q];exact u7 _,λj x I d e y=>?_⟩;obtain⟨u,c,G,B⟩:=y;subst u;rw[u9,y3,G]at e;simp at e;subst e;exact⟨F,Ext.refl s,by rw[B];exact .str _⟩
theorem zu61(h:RfV K te de):RfJ K (iW K te) (dIt de):=by
 walk_at"7";refine h s rv hd λd u v L J B I=>?_;unfold zg21 at u;split at u
 ·obtain⟨p,xs,rfl,z,G⟩:=I.list B.fh;exact .inl (.inl ⟨p,rfl,⟨xs,z⟩,k _ u _ L J B λF2 H2 q=>(zzc (q.h.seq z) (G.mono q.f)).w1 q.fh⟩)
 ·obtain⟨p,xs,rfl,z,_,G⟩:=I.tuple B.fh;exact .inl (.inr ⟨p,rfl,⟨xs,z⟩,k _ u _ L J B λF2 H2 q=>(znt (znl q.h z) (G.mono q.f)).w1 q.fh⟩)
 ·cases I.str;exact .inr ⟨_,rfl,u.1,k _ u.2 _ L J B λF2 H2 q=>zz31 _ q.fh⟩
 ·exact u.elim
theorem zgv(h:RfE K te de):RfI K (iW K te) (dIt de):=by
 walk_at"7";refine h s rv hd λd u v L J B I=>?_;unfold zg21 at u;split at u
 ·obtain⟨p,xs,rfl,z,G⟩:=I.list_inv;exact .inl (.inl ⟨p,rfl,⟨xs,B.fh.seq z⟩,k _ u _ L J B λF2 H2 s2 q=>(zzc (q.seq (s2.seq z)) (G.mono s2)).w1 q⟩)
 ·obtain⟨p,xs,rfl,z,G⟩:=I.tuple_inv;exact .inl (.inr ⟨p,rfl,⟨xs,znl B.fh z⟩,k _ u _ L J B λF2 H2 s2 q=>(znt (znl q (znl s2 z)) (G.mono s2)).w1 q⟩)
 ·cases I.str_inv;exact .inr ⟨_,rfl,u.1,k _ u.2 _ L J B λF2 H2 s2 q=>zz31 _ q⟩
 ·exact u.elim
theorem RfI.j{ti:TI}(h:RfI K ti di):RfJ K ti di:=λ_ _ _ _ _ _ s rv hd k=>h s rv hd λds q J u H' e w=>k ds q J u H' e λF2 H2 p=>w F2 H2 p.f p.fh
def rngD(lo:Int)(n:Nat):List D:=(u3 n).map λi=>.int (lo+(i:Nat))
theorem zcq(lo:Int)(n:Nat):(rngD lo n).length=n:=by simp[rngD]
theorem zy11{lo:Int}{d:D}(e:(rngD lo n)[i]?=some d):i < n/\d=.int (lo+(i:Nat)):=by
 unfold rngD at e;rw[u9]at e;obtain⟨j,u,rfl⟩:=w6.mp e;obtain⟨q,p⟩:=wG.mp u;simp at q p;subst p;exact⟨q,rfl⟩
theorem zi41{F H:Hp}(lo:Int)(n:Nat)(s:Same F H):W1 K (Itr lo n) F H (rngD lo n):=by
 refine⟨λj p=>by rw[zcq]at p;exact p,by rw[zcq];exact u7 _,λj x u d e y=>?_⟩;obtain⟨q,y⟩:=y;subst q;obtain⟨_,rfl⟩:=zy11 e;exact⟨F,Ext.refl s,by rw[y];exact .int _⟩
def zwd1(dA:DF):DF:=λU Q=>dA U λds=>match ds with
|[.int j]=>-(2 ^ 62)<=j/\j < 2 ^ 62/\Q (rngD 0 j.toNat)
|_=>False
theorem zu7(h:RfA K tA dA):RfI K (zte1 tA) (zwd1 dA):=by
 walk_at"7";refine h s rv hd λds p vs J I G z=>?_;split at p
 ·cases z with
 |cons B u =>
   cases u;cases B.int_inv;exact⟨_,rfl,p.1,p.2.1,k _ p.2.2 _ J I G λF2 H2 s2 q=>zi41 _ _ q⟩
 ·exact p.elim
def zzd1(dA:DF):DF:=λU Q=>dA U λds=>match ds with
|[.int i,.int j]=>(-(2 ^ 62)<=i/\i < 2 ^ 62/\-(2 ^ 62)<=j/\j < 2 ^ 62)/\Q (rngD i (j - i).toNat)
|_=>False
theorem zb71(h:RfA K tA dA):RfI K (zxe1 tA) (zzd1 dA):=by
 walk_at"7";refine h s rv hd λds p vs M L J B=>?_;split at p
 ·cases B with
 |cons I z =>
   cases z with
  |cons G u =>
    cases u;cases I.int_inv;cases G.int_inv;exact⟨_,_,rfl,p.1,k _ p.2 _ M L J λF2 H2 s2 q=>zi41 _ _ q⟩
 ·exact p.elim
def zipD(ds es:List D):List D:=List.zipWith (λa b=>.tuple [a,b]) ds es
theorem zgx{F H:Hp}{I G:It}{ds es:List D}(s:Same F H)(q:W0 K I F H ds)(u:W0 K G F H es):W1 K (Itz I G) F H (zipD ds es):=by
 have Z:(zipD ds es).length=min ds.length es.length:=by simp[zipD]
 refine⟨λj hj=>⟨q.1 j (by lia),u.1 j (by lia)⟩,?_,λj x H3 d e y=>?_⟩
 ·rw[Z];by_cases h:ds.length<=es.length
  ·rw[zM h];exact .inl q.2.1
  ·rw[uaI (by lia)];exact .inr ⟨q.1 es.length (by lia),u.2.1⟩
 ·obtain⟨x1,x2,p,L,J,W,e1,e2⟩:=y;subst e2;unfold zipD at e;rw[List.getElem?_zipWith]at e;cases q1:ds[j]? with
 |none=>rw[q1]at e;cases e
 |some B =>
   cases q2:es[j]? with
  |none=>rw[q1,q2]at e;cases e
  |some z =>
    rw[q1,q2]at e;cases e;obtain⟨_,S⟩:=q.2.2 j x1 H B q1 L;obtain⟨_,O⟩:=u.2.2 j x2 H z q2 J;obtain⟨ex,M⟩:=zoc (K:=K) (ds:=[B,z]) s W (.cons S (.cons O .nil));exact⟨_,ex,by rw[e1];exact M⟩
def fZip:List D->(List D->Prop)->Prop
|[.list a,.list b],Q=>Q (zipD a b)
|[.list a,.tuple b],Q=>Q (zipD a b)
|[.tuple a,.list b],Q=>Q (zipD a b)
|_,_=>False
def dZip(dA:DF):DF:=λU Q=>dA U λds=>fZip ds Q
theorem zw21(h:RfAV K tA dA):RfJ K (iZip K tA) (dZip dA):=by
 walk_at"7";refine h s rv hd λds J vs Z W B S=>?_;unfold fZip at J;rcases ds with _|⟨d,_|⟨e,_|⟨f,r⟩⟩⟩
 all_goals first|exact J.elim|(cases d <;> first|exact J.elim|skip)
 all_goals cases e <;> first|exact J.elim|skip
 ·obtain⟨v,u,rfl,w1,L⟩:=vw2 S;obtain⟨p,xs,rfl,I,O⟩:=w1.list B.fh;obtain⟨q,ys,rfl,G,M⟩:=L.list B.fh;exact⟨_,_,rfl,.inl ⟨p,rfl,⟨xs,I⟩,.inl ⟨q,rfl,⟨ys,G⟩,k _ J _ Z W B λF2 H2 z=>zgx z.fh (zzc (z.h.seq I) (O.mono z.f)) (zzc (z.h.seq G) (M.mono z.f))⟩⟩⟩
 ·obtain⟨v,u,rfl,w1,L⟩:=vw2 S;obtain⟨p,xs,rfl,I,O⟩:=w1.list B.fh;obtain⟨q,ys,rfl,G,_,M⟩:=L.tuple B.fh;exact⟨_,_,rfl,.inl ⟨p,rfl,⟨xs,I⟩,.inr ⟨q,rfl,⟨ys,G⟩,k _ J _ Z W B λF2 H2 z=>zgx z.fh (zzc (z.h.seq I) (O.mono z.f)) (znt (znl z.h G) (M.mono z.f))⟩⟩⟩
 ·obtain⟨v,u,rfl,w1,L⟩:=vw2 S;obtain⟨p,xs,rfl,I,_,O⟩:=w1.tuple B.fh;obtain⟨q,ys,rfl,G,M⟩:=L.list B.fh;exact⟨_,_,rfl,.inr ⟨p,rfl,⟨xs,I⟩,.inl ⟨q,rfl,⟨ys,G⟩,k _ J _ Z W B λF2 H2 z=>zgx z.fh (znt (znl z.h I) (O.mono z.f)) (zzc (z.h.seq G) (M.mono z.f))⟩⟩⟩
theorem all1{F:Hp}{d:D}(h:IsAll K F vs [d]):∃v,vs=[v]/\Is K F v d:=by
 cases h with
|cons h r=>cases r;exact⟨_,rfl,h⟩
def zqs(ds:List D):List D:=ds.mapIdx λi d=>.tuple [.int (i:Nat),d]
theorem zqd(ds:List D):(zqs ds).length=ds.length:=by simp[zqs]
theorem zck{ds:List D}{d:D}(e:(zqs ds)[i]?=some d):∃x,ds[i]?=some x/\d=.tuple [.int (i:Nat),x]:=by
 unfold zqs at e;rw[xQ]at e;obtain⟨x,q,p⟩:=w6.mp e;exact⟨x,q,p.symm⟩
theorem zsu{F H:Hp}{ds:List D}(s:Same F H)(h:SqL K H a xs)(i:IsAll K F xs ds):W1 K (Ite K a) F H (zqs ds):=by
 have Z:=i.dlen;have S:=zqd ds;refine⟨λj W=>⟨xs,xs[j]'(by lia),h,u5 _⟩,⟨xs,h,by lia⟩,λj x H3 d e y=>?_⟩;obtain⟨v,p,z,L,O,M⟩:=y;subst M;obtain⟨B,q,rfl⟩:=zck e;obtain⟨u,J,G⟩:=i.dget q;have:=z xs h;rw[J]at this;cases this;obtain⟨ex,I⟩:=zoc (K:=K) (ds:=[.int (j:Nat),B]) s L (.cons (.int _) (.cons G .nil));exact⟨_,ex,by rw[O];exact I⟩
def zo91(dA:DF):DF:=λU Q=>dA U λds=>match ds with
|[.list a]=>Q (zqs a)
|_=>False
theorem zrc(h:RfAV K tA dA):RfJ K (zzb1 K tA) (zo91 dA):=by
 walk_at"7";refine h s rv hd λds q vs L J B I=>?_;split at q
 ·obtain⟨v,rfl,w1⟩:=vw1 I;obtain⟨p,xs,rfl,z,G⟩:=w1.list B.fh;exact⟨p,xs,rfl,z,k _ q _ L J B λF2 H2 u=>zsu u.fh (u.h.seq z) (G.mono u.f)⟩
 ·exact q.elim
theorem zdw(h:RfA K tA dA):RfI K (zzb1 K tA) (zo91 dA):=by
 walk_at"7";refine h s rv hd λds q vs L J B I=>?_;split at q
 ·obtain⟨v,rfl,w1⟩:=all1 I;obtain⟨p,xs,rfl,z,G⟩:=w1.list_inv;exact⟨p,xs,rfl,B.fh.seq z,k _ q _ L J B λF2 H2 s2 u=>zsu u (u.seq (s2.seq z)) (G.mono s2)⟩
 ·exact q.elim
end
inductive Upd(K:Fg)(F:Hp)(n:Nat):_2.St->DSt->_2.St->DSt->Prop
|refl {Y:_2.St} {U:DSt}:Upd K F n Y U Y U
|set {Y Y':_2.St} {U U':DSt} {i:Nat} {v:V} {d:D}:i < n->Is K F v d->Upd K F n (Y.set i (some v)) (U.set i (.sh d)) Y' U'->Upd K F n Y U Y' U'
theorem zi7{j:Nat}{v:Option V}:(Y.set i v).getD j none=if i=j/\j < Y.length then v else Y.getD j none:=by
 rw[wD,wD,xX];by_cases h:i=j
 ·subst h;by_cases p:i < Y.length
  ·simp[p]
  ·simp[p]
 ·simp[h]
theorem RV.set{K:Fg}{F H:Hp}{Y:_2.St}{U:DSt}{i:Nat}{v:V}{sl:Sl}(r:RV K F H Y U)(h:RSl K F H (some v) sl):RV K F H (Y.set i (some v)) (U.set i sl):=by
 refine⟨by rw[wN,wN];exact r.len,λj s e=>?_⟩;rw[xX]at e;rw[zi7,r.len];by_cases p:i=j
 ·subst p;by_cases hl:i < U.length
  ·simp[hl]at e ⊢;subst e;exact h
  ·simp[hl]at e
 ·simp[p]at e ⊢;exact r.sl j s e
theorem Upd.rv{F H:Hp}(u:Upd K F n Y U Y' U')(r:RV K F H Y U):RV K F H Y' U':=by
 induction u with
|refl=>exact r
|set hi q _ p=>exact p (r.set ⟨_,rfl,q⟩)
theorem Upd.keep{F:Hp}(u:Upd K F n Y U Y' U'):Y'.length=Y.length/\∀i,n<=i->Y'.getD i none=Y.getD i none:=by
 induction u with
|refl=>exact⟨rfl,λ_ _=>rfl⟩
|set hi z _ p =>
  refine⟨by rw[p.1,wN],λj q=>?_⟩;rw[p.2 j q,zi7,aA (by lia)]
abbrev DG:=D->DSt->(DSt->Prop)->Prop
abbrev DGs:=List D->DSt->(DSt->Prop)->Prop
def RfG(K:Fg)(n:Nat)(g:TG)(q:DG):Prop:=∀⦃F H:Hp⦄⦃Y:_2.St⦄⦃U:DSt⦄⦃v:V⦄⦃d:D⦄⦃p:DSt->Prop⦄⦃G:_2.St->Hp->Prop⦄,Same F H->Is K F v d->q d U p->(∀Y' U',p U'->Upd K F n Y U Y' U'->G Y' H)->g v Y H G
def RfGs(K:Fg)(n:Nat)(g:TGs)(q:DGs):Prop:=∀⦃F H:Hp⦄⦃Y:_2.St⦄⦃U:DSt⦄⦃vs:List V⦄⦃ds:List D⦄⦃p:DSt->Prop⦄⦃G:_2.St->Hp->Prop⦄,Same F H->IsAll K F vs ds->q ds U p->(∀Y' U',p U'->Upd K F n Y U Y' U'->G Y' H)->g vs Y H G
def gN(i:Nat):DG:=λd U G=>G (U.set i (.sh d))
def zkb1:DGs:=λds U G=>match ds with
|[]=>G U
|_=>False
def zcx(g:DG)(gs:DGs):DGs:=λds U G=>match ds with
|d :: r=>g d U λU'=>gs r U' G
|[]=>False
def gT(n:Nat)(gs:DGs):DG:=λd U G=>match d with
|.tuple ds=>ds.length=n/\gs ds U G
|_=>False
section
variable {K:Fg}{n m:Nat}
theorem zo1(hi:i < n):RfG K n (zos i) (gN i):=λ_ _ _ _ _ _ _ _ s h hd k=>k _ _ hd (.set hi h .refl)
theorem zy6:RfGs K n gNil zkb1:=by
 intro F H Y U vs ds p G s h hd k;unfold zkb1 at hd;split at hd
 ·cases h;exact⟨rfl,k _ _ hd .refl⟩
 ·exact hd.elim
theorem Upd.trans{F:Hp}{q p:_2.St}{z u:DSt}(a:Upd K F n Y U q z)(b:Upd K F n q z p u):Upd K F n Y U p u:=by
 induction a with
|refl=>exact b
|set hi G _ B=>exact .set hi G (B b)
theorem zi1{g:TG}{z:DG}{p:DGs}(L:RfG K n g z)(J:RfGs K n gs p):RfGs K n (zjf1 g gs) (zcx z p):=by
 intro F H Y U vs ds Z G s h hd k;unfold zcx at hd;split at hd
 ·cases h with
 |cons I hr =>
   refine⟨_,_,rfl,L s I hd λO W u B=>J s hr u λM S q u2=>k _ _ q (B.trans u2)⟩
 ·exact hd.elim
theorem ztb{p:DGs}(h:RfGs K n gs p):RfG K n (gTup K m gs) (gT m p):=by
 intro F H Y U v d B G s u hd k;unfold gT at hd;split at hd
 ·obtain⟨a,xs,rfl,z,q⟩:=u.tuple_inv;exact⟨a,xs,rfl,znl s z,by rw[q.dlen];exact hd.1,h s q hd.2 k⟩
 ·exact hd.elim
end
def cST(n:Nat)(ix:List Nat)(U:DSt):DSt:=vU n .un++ix.map λi=>U.getD i .un
theorem zo61{F H:Hp}(n:Nat)(ix:List Nat)(r:RV K F H Y U):RV K F H (compY n ix Y) (cST n ix U):=by
 refine⟨by simp[compY,cST],λi s e=>?_⟩;unfold cST at e;unfold compY;by_cases h:i < n
 ·rw[wU (by simpa using h)]at e;simp[xH,h]at e;subst e;trivial
 ·rw[wR (by simpa using h)]at e;rw[wD,wR (by simpa using h)];simp only[yQ,u9]at e ⊢;obtain⟨j,p,rfl⟩:=w6.mp e;rw[p];show RSl K F H (Y.getD j none) _;cases q:U[j]? with
 |none=>rw[show U.getD j .un=.un by rw[wD,q];rfl];trivial
 |some t=>rw[show U.getD j .un=t by rw[wD,q];rfl];exact r.sl j t q
theorem RV.caps{F H:Hp}(r:RV K F H Y (cST n ix U))(hl:Y'.length=Y.length)(p:∀i,n<=i->Y'.getD i none=Y.getD i none):RV K F H Y' (cST n ix U):=by
 refine⟨by rw[hl];exact r.len,λi s e=>?_⟩;by_cases h:i < n
 ·unfold cST at e;rw[wU (by simpa using h)]at e;simp[xH,h]at e;subst e;trivial
 ·rw[p i (by lia)];exact r.sl i s e
def zcd1(di:DF)(n:Nat)(ix:List Nat)(p:DG)(dt:DT)(q:DE):DF:=λU Q=>di U λitems=>items.length<=sizeLine/\∃R:Nat->Option D->Prop,
 (∀i d,items[i]?=some d->p d (cST n ix U) λU'=>dt U' λb=>if b=true then q U' λr=>R i (some r)else R i none) /\
 ∀os:List (Option D),os.length=items.length->(∀(j:Nat) o,os[j]?=some o->R j o)->Q (os.filterMap id)
def zu81:DT:=λ_ Q=>Q true
section
variable {K:Fg}{wi:TI}{di:DF}{n:Nat}{ix:List Nat}{g:TG}{dg:DG}{tt:TT}{dt:DT}{te:TE}{de:DE}
theorem zk6:RfT K zlb1 zu81:=λ_ _ _ _ _ _ s rv h k=>k _ h _ _ (Ext.refl s)
theorem zx2(hi:RfJ K wi di)(hg:RfG K n g dg)(ht:RfT K tt dt)(he:RfE K te de):RfF K (zy81 wi n ix g tt te) (zcd1 di n ix dg dt de):=by
 walk_at"2";refine hi s rv hd λitems hx J F1 H1 e1 wj D hD=>?_;obtain⟨hz,R,hR,hQ⟩:=hx;have rv1:=zo61 n ix (rv.ext e1);have F1D:F1 D=none:=by
  cases q:F1 D with
 |none=>rfl
 |some o=>rw[e1.fh D o q]at hD;cases hD
 refine⟨λi m acc Y' H'=>m=items.length - i/\i<=items.length/\Y'.length=(compY n ix Y).length/\(∀j,n<=j->Y'.getD j none=(compY n ix Y).getD j none)/\∃(M:Hp)(os:List (Option a6)),Ext F1 H1 M H'/\M D=none/\H' D=some (.lst acc)/\os.length=i/\(∀(j:Nat) o,os[j]?=some o->R j o)/\IsAll K M acc (os.filterMap id),⟨items.length,rfl,wH _,rfl,λ_ _=>rfl,F1,[],?_,F1D,zp0,rfl,λj o e=>by simp at e,.nil⟩,?_⟩
 ·exact(zr7 (xs:=[]) e1.fh hD).1
 rintro i m acc Y' H' ⟨rfl,hi',hl,hk,M,os,ex,fD,G,O,hRs,u⟩;obtain⟨go,stop,yld⟩:=wj M H' ex;by_cases S:i < items.length
 ·refine .inr ⟨go i S,λL Y2 H2=>i+1<=items.length/\Y2.length=(compY n ix Y).length/\(∀j,n<=j->Y2.getD j none=(compY n ix Y).getD j none)/\∃(M:Hp)(os:List (Option a6)),Ext F1 H1 M H2/\M D=none/\H2 D=some (.lst L)/\os.length=i+1/\(∀(j:Nat) o,os[j]?=some o->R j o)/\IsAll K M L (os.filterMap id),λL Y2 H2 p=>⟨items.length - (i+1),by lia,rfl,p⟩,λx H2 y=>?_⟩;have hit:items[i]?=some items[i]:=u5 S;obtain⟨F2,W,ix2⟩:=yld i x H2 _ hit y;have rv2:RV K F2 H2 Y' (cST n ix U):=RV.caps (rv1.ext (ex.trans W)) hl hk;have hRn:∀o,R i o->∀(j:Nat) o',(os++[o])[j]?=some o'->R j o':=λo ho j o' e=>by
   rcases uaJ j os.length with h|h|h
   ·rw[wU h]at e;exact hRs j o' e
   ·subst h;rw[wR (u7 _)]at e;simp at e;subst e;rw[O];exact ho
   ·rw[wR (yP h)]at e;cases q:j - os.length with
   |zero=>lia
   |succ z=>rw[q]at e;simp at e
  refine hg W.fh ix2 (hR i _ hit) λY2 U2 hd2 u2=>?_;have rv3:=u2.rv rv2;have kp:=u2.keep;have hl2:Y2.length=(compY n ix Y).length:=by rw[kp.1,hl]
  have hk2:∀j,n<=j->Y2.getD j none=(compY n ix Y).getD j none:=λj hj=>by rw[kp.2 j hj,hk j hj]
  refine ht W.fh rv3 hd2 λb B F4 H4 e4=>?_;have I:=W.trans e4;have hD4:H4 D=some (.lst acc):=I.h _ _ G;have fD4:F4 D=none:=I.nw D (by rw[G];simp) fD;cases b with
 |true =>
   rw[aF rfl]at B ⊢;refine he e4.fh (rv3.ext e4) B λr hr v F5 H5 e5 i5=>?_;have Z:=I.trans e5;have hD5:H5 D=some (.lst acc):=Z.h _ _ G;have fD5:F5 D=none:=Z.nw D (by rw[G];simp) fD;have hlen:acc.length<=i:=by
    rw[u.dlen,<- O];exact zZ _ _
   have e15:=ex.trans Z;refine⟨hD5,by lia,S,hl2,hk2,F5,os++[some r],⟨λb o B=>?_,e15.f,λb o B=>?_,e15.nw⟩,fD5,zp0,by simp[O],hRn _ hr,?_⟩
   ·have:b≠D:=λz=>by subst z;rw[hD]at B;cases B
    rw[zb1 this];exact e15.h b o B
   ·have:b≠D:=λz=>by subst z;rw[fD5]at B;cases B
    rw[zb1 this];exact e15.fh b o B
   ·rw[z7];exact(u.mono Z.f).dapp (.cons i5 .nil)
 |false =>
   rw[aA v3]at B ⊢;refine⟨S,hl2,hk2,F4,os++[none],ex.trans I,fD4,hD4,by simp[O],hRn _ B,?_⟩;rw[z7];have:uaK id [(none:Option a6)]=[]:=rfl;rw[this,wQ];exact u.mono I.f
 ·have e:i=items.length:=by lia
  refine .inl ⟨by rw[e];exact stop,k _ (hQ os (by lia) hRs) D acc M H' (e1.trans ex) ?_ G fD u⟩;exact zk2 e1 hD
end
theorem at_nat'{α:Type}{xs:List α}{i:Int}{x:α}(p:0<=i)(h:xs[i.toNat]?=some x):atI xs i=some x:=by
 have e:((i.toNat:Nat):Int)=i:=by lia
 have:=zpv (xs:=xs) (j:=i.toNat) (v:=x) h
 rwa [e]at this
inductive Stp where
|ix (j:Nat)|fl (f:Str)
abbrev Pth:=List Stp
def putA(f:Str)(t:T):List (Str×T)->List (Str×T)
|[]=>[(f,t)]
|(g,x) :: r=>if g=f then(g,t) :: r else(g,x) :: putA f t r
def setP:T->Pth->T->T
|_,[],u=>u
|.ls ts,.ix j :: p,u=>match ts[j]? with
 |some t=>.ls (ts.set j (setP t p u))
 |none=>.ls ts
|.tp ts,.ix j :: p,u=>match ts[j]? with
 |some t=>.tp (ts.set j (setP t p u))
 |none=>.tp ts
|.ob C fs,.fl f :: p,u=>match fs.lookup f with
 |some t=>.ob C (putA f (setP t p u) fs)
 |none=>.ob C fs
|t,_,_=>t
inductive At(H:Hp):V->T->Pth->V->T->Prop
|nil {v:V} {t:T}:At H v t [] v t
|ix {a:aE} {xs:List V} {ts:List T} {j:Nat} {x v:V} {t u:T} {p:Pth}:H a=some (.lst xs)->xs[j]?=some x->ts[j]?=some t->At H x t p v u->At H (.ref a) (.ls ts) (.ix j :: p) v u
|tx {a:aE} {xs:List V} {ts:List T} {j:Nat} {x v:V} {t u:T} {p:Pth}:H a=some (.tup xs)->xs[j]?=some x->ts[j]?=some t->At H x t p v u->At H (.ref a) (.tp ts) (.ix j :: p) v u
|fl {a C dx:aE} {fs:List (Str×V)} {ts:List (Str×T)} {f:Str} {x v:V} {t u:T} {p:Pth}:H a=some (.ins C dx fs)->fs.lookup f=some x->ts.lookup f=some t->At H x t p v u->At H (.ref a) (.ob C ts) (.fl f :: p) v u
theorem At.mono{H:Hp}(s:Same H H'){v G:V}{t t':T}{p:Pth}(h:At H v t p G t'):At H' v t p G t':=by
 induction h with
|nil=>exact .nil
|ix B z u _ q=>exact .ix (s _ _ B) z u q
|tx B z u _ q=>exact .tx (s _ _ B) z u q
|fl B z u _ q=>exact .fl (s _ _ B) z u q
theorem At.snoc_ix{H:Hp}{v y:V}{t u:T}{ts:List T}{j:Nat}{p:Pth}(h:At H v t p (.ref a) (.ls ts))(O:H a=some (.lst xs))(M:xs[j]?=some x)(L:ts[j]?=some u):At H v t (p++[.ix j]) x u:=by
 generalize e:V.ref a=w at h;generalize J:T.ls ts=z at h
 induction h with
|nil=>subst e J;exact .ix O M L .nil
|ix I G B _ q=>exact .ix I G B (q e J)
|tx I G B _ q=>exact .tx I G B (q e J)
|fl I G B _ q=>exact .fl I G B (q e J)
theorem At.snoc_tx{H:Hp}{v y:V}{t u:T}{ts:List T}{j:Nat}{p:Pth}(h:At H v t p (.ref a) (.tp ts))(O:H a=some (.tup xs))(M:xs[j]?=some x)(L:ts[j]?=some u):At H v t (p++[.ix j]) x u:=by
 generalize e:V.ref a=w at h;generalize J:T.tp ts=z at h
 induction h with
|nil=>subst e J;exact .tx O M L .nil
|ix I G B _ q=>exact .ix I G B (q e J)
|tx I G B _ q=>exact .tx I G B (q e J)
|fl I G B _ q=>exact .fl I G B (q e J)
theorem At.snoc_fl{H:Hp}{v:V}{t u:T}{ts:List (Str×T)}{fs:List (Str×V)}{p:Pth}(h:At H v t p (.ref a) (.ob C ts))(O:H a=some (.ins C dx fs))(M:fs.lookup f=some x)(L:ts.lookup f=some u):At H v t (p++[.fl f]) x u:=by
 generalize e:V.ref a=w at h;generalize J:T.ob C ts=z at h
 induction h with
|nil=>subst e J;exact .fl O M L .nil
|ix I G B _ q=>exact .ix I G B (q e J)
|tx I G B _ q=>exact .tx I G B (q e J)
|fl I G B _ q=>exact .fl I G B (q e J)
section
variable {K:Fg}
theorem RtAll.len{F H:Hp}:∀{xs:List V}{ts:List T}{fp:List aE},RtAll K F H xs ts fp->xs.length=ts.length
|_,_,_,.nil=>rfl
|_,_,_,.cons _ r=>congrArg (·+1) (RtAll.len r)
theorem RtAll.split{F H:Hp}:∀{xs:List V}{ts:List T}{fp:List aE}{j:Nat}{x:V}{t:T},RtAll K F H xs ts fp->xs[j]?=some x->ts[j]?=some t ->
  ∃fA fj fB,fp=fA++(fj++fB)/\Rt K F H x t fj/\∀{F2 H2:Hp}{u:T}{fq:List aE},Same F F2->(∀b∈fA++fB,H2 b=H b/\F2 b=none)->Rt K F2 H2 x u fq->RtAll K F2 H2 xs (ts.set j u) (fA++(fq++fB))
|_,_,_,_,_,_,.nil,e,_=>by simp at e
|_,_,_,0,x,t,.cons (fp:=fp) (fq:=fq) h r,q,e2=>by
  simp at q e2;subst q e2;exact⟨[],fp,fq,rfl,h,λs k g=>(by have z:=RtAll.cons g (r.frame s λb p=>k b (by simp[p]));exact z)⟩
|_,_,_,j+1,x,t,.cons (fp:=fp) (fq:=fq) h r,q,e2=>by
  obtain⟨fA,fj,fB,e,hr,g⟩:=RtAll.split (j:=j) r (by simpa using q) (by simpa using e2);refine⟨fp++fA,fj,fB,by rw[e,vW],hr,λs k B=>?_⟩;rw[vW];exact .cons (h.frame s λb p=>k b (by simp[p])) (g s (λb p=>k b (by rcases vV.mp p with z|z <;> simp[z])) B)
theorem RtFs.split{F H:Hp}:∀{xs:List (Str×V)}{ts:List (Str×T)}{fp:List aE}{f:Str}{x:V}{t:T},RtFs K F H xs ts fp->xs.lookup f=some x->ts.lookup f=some t ->
  ∃fA fj fB,fp=fA++(fj++fB)/\Rt K F H x t fj/\(∀{F2 H2:Hp}{u:T}{fq:List aE},Same F F2->(∀b∈fA++fB,H2 b=H b/\F2 b=none)->Rt K F2 H2 x u fq->RtFs K F2 H2 xs (putA f u ts) (fA++(fq++fB))) /\
   (∀{F2 H2:Hp}{y:V}{u:T}{fq:List aE},Same F F2->(∀b∈fA++fB,H2 b=H b/\F2 b=none)->Rt K F2 H2 y u fq->RtFs K F2 H2 (putF f y xs) (putA f u ts) (fA++(fq++fB)))
|_,_,_,_,_,_,.nil,e,_=>by cases e
|_,_,_,f,x,t,.cons (f:=g) (x:=x') (t:=t') (fp:=fp) (fq:=fq) h r,B,e2=>by
  by_cases G:f=g
  ·subst G;simp[xB]at B e2;subst B e2;refine⟨[],fp,fq,rfl,h,λs k u=>?_,λs k u=>?_⟩
   ·show RtFs K _ _ _ (putA f _ ((f,_) :: _)) _;rw[show putA f _ ((f,t') :: _)=(f,_) :: _ from aF rfl];have z:=RtFs.cons (f:=f) u (r.frame s λb p=>k b (by simp[p]));exact z
   ·rw[show putA f _ ((f,t') :: _)=(f,_) :: _ from aF rfl,show putF f _ ((f,x') :: _)=(f,_) :: _ from aF rfl];have z:=RtFs.cons (f:=f) u (r.frame s λb p=>k b (by simp[p]));exact z
  ·have p:(f == g)=false:=beq_eq_false_iff_ne.mpr G;simp only[xB,p]at B e2;obtain⟨fA,fj,fB,e,hr,J,I⟩:=RtFs.split r B e2;have q:¬g=f:=λz=>G z.symm;refine⟨fp++fA,fj,fB,by rw[e,vW],hr,λs k u=>?_,λs k u=>?_⟩
   ·rw[show putA f _ ((g,t') :: _)=(g,t') :: putA f _ _ from aA q,vW];exact .cons (h.frame s λb p=>k b (by simp[p])) (J s (λb p=>k b (by rcases vV.mp p with z|z <;> simp[z])) u)
   ·rw[show putA f _ ((g,t') :: _)=(g,t') :: putA f _ _ from aA q,show putF f _ ((g,x') :: _)=(g,x') :: putF f _ _ from aA q,vW];exact .cons (h.frame s λb p=>k b (by simp[p])) (I s (λb p=>k b (by rcases vV.mp p with z|z <;> simp[z])) u)
theorem RtFs.add{F H F2 H2:Hp}{y:V}{u:T}{fq:List aE}(s:Same F F2)(B:Rt K F2 H2 y u fq):∀{xs:List (Str×V)}{ts:List (Str×T)}{fp:List aE}{f:Str},RtFs K F H xs ts fp->ts.lookup f=none->(∀b∈fp,H2 b=H b/\F2 b=none)->RtFs K F2 H2 (putF f y xs) (putA f u ts) (fp++fq)
|_,_,_,f,.nil,_,_=>by
  show RtFs K F2 H2 [(f,y)] [(f,u)] fq;have:=RtFs.cons (f:=f) B (.nil (K:=K) (F:=F2) (H:=H2))
  rwa [wQ]at this
|_,_,_,f,.cons (f:=g) (x:=x') (t:=t') (fp:=fp) (fq:=fq') h r,e,k=>by
  have G:¬f=g:=λz=>by subst z;simp[xB]at e
  have p:(f == g)=false:=beq_eq_false_iff_ne.mpr G;simp only[xB,p]at e;have q:¬g=f:=λz=>G z.symm;rw[show putA f u ((g,t') :: _)=(g,t') :: putA f u _ from aA q,show putF f y ((g,x') :: _)=(g,x') :: putF f y _ from aA q,vW];exact .cons (h.frame s λb p=>k b (by simp[p])) (RtFs.add s B r e λb p=>k b (by simp[p]))
theorem RtFs.keys{F H:Hp}{xs:List (Str×V)}{ts:List (Str×T)}(f:Str)(h:RtFs K F H xs ts fp):(ts.lookup f=none->xs.lookup f=none)/\(∀t,ts.lookup f=some t->∃x,xs.lookup f=some x)/\xs.length=ts.length :=
 (Rt.ind (P:=λ_ _ _=>True) (Q:=λ_ _ _=>True) (R:=λxs ts _=>(ts.lookup f=none->xs.lookup f=none)/\(∀t,ts.lookup f=some t->∃x,xs.lookup f=some x)/\xs.length=ts.length)
  (λ_=>trivial) (λ_ _ _=>trivial) (λ_ _ _=>trivial) (λ_ _ _ _ _=>trivial) (λ_ _ _=>trivial) (λ_ _ _=>trivial) (λ_ _ _=>trivial) trivial (λ_ _=>trivial) ⟨λ_=>rfl,(λt e=>by cases e),rfl⟩
  λ{g x _ _ _ _ _} _ ⟨u,q,p⟩=>by
   rw[xA,xA,p,wC,wC];cases f == g with
  |true=>exact⟨(λe=>by cases e),λ_ _=>⟨x,rfl⟩,rfl⟩
  |false=>exact⟨u,q,rfl⟩).2.2 h
theorem mid0{fB:List aE}(nd:(pre++(fA++(fj++fB))).Nodup):fj.Nodup/\∀b,b∈pre \/ b∈fA \/ b∈fB->b ∉ fj:=by
 obtain⟨_,n2,J⟩:=wS.mp nd;obtain⟨_,u,I⟩:=wS.mp n2;obtain⟨q,_,G⟩:=wS.mp u;refine⟨q,λb B p=>?_⟩;rcases B with z|z|z
 ·exact J b z b (by simp[p]) rfl
 ·exact I b z b (by simp[p]) rfl
 ·exact G b p b z rfl
theorem mid{fB fq f2:List aE}(nd:(pre++(fA++(fj++fB))).Nodup)(sub:∀a∈fn,a∈fj)(M:∀b∈fq,b∈fn \/ b ∉ pre++(fA++(fj++fB)))(n2:f2.Nodup)(B:∀b∈f2,(b∈fj/\b ∉ fn) \/ b∈fq) :
  (pre++(fA++(f2++fB))).Nodup/\∀b∈pre++(fA++(f2++fB)),(b∈pre++(fA++(fj++fB))/\b ∉ fn) \/ b∈fq:=by
 have no:=(mid0 nd).2;have u:∀b,b∈pre \/ b∈fA \/ b∈fB->b ∉ f2:=λb p O=>by
  rcases B b O with z|z
  ·exact no b p z.1
  ·rcases M b z with y|y
   ·exact no b p (sub b y)
   ·exact y (by rcases p with w|w|w <;> simp[w])
 obtain⟨p1,p2,G⟩:=wS.mp nd;obtain⟨L,J,S⟩:=wS.mp p2;obtain⟨_,I,_⟩:=wS.mp J;refine⟨wS.mpr ⟨p1,wS.mpr ⟨L,wS.mpr ⟨n2,I,λa q b p e=>u b (.inr (.inr p)) (e ▸ q)⟩,λa q b p=>?_⟩,λa q b p=>?_⟩,λb p=>?_⟩
 ·rcases vV.mp p with y|y
  ·exact λe=>u a (.inr (.inl q)) (e ▸ y)
  ·exact S a q b (by simp[y])
 ·rcases vV.mp p with y|y
  ·exact G a q b (by simp[y])
  ·rcases vV.mp y with y|y
   ·exact λe=>u a (.inl q) (e ▸ y)
   ·exact G a q b (by simp[y])
 ·have out:b∈pre \/ b∈fA \/ b∈fB->(b∈pre++(fA++(fj++fB))/\b ∉ fn) \/ b∈fq:=λz=>.inl ⟨by rcases z with w|w|w <;> simp[w],λy=>no b z (sub b y)⟩;rcases vV.mp p with y|y
  ·exact out (.inl y)
  ·rcases vV.mp y with y|y
   ·exact out (.inr (.inl y))
   ·rcases vV.mp y with y|y
    ·exact(B b y).imp (λz=>⟨by simp[z.1],z.2⟩) id
    ·exact out (.inr (.inr y))
theorem zwb1{F H:Hp}{v:V}{t u:T}{p:Pth}(h:At H x t p v u):∀{fp:List aE},Rt K F H x t fp->fp.Nodup->∃fn,Rt K F H v u fn/\(∀a∈fn,a∈fp)/\fn.Nodup /\
  ∀{F2 H2:Hp}{u2:T}{fq:List aE},Same F F2->(∀b∈fp,b ∉ fn->H2 b=H b/\F2 b=none)->Rt K F2 H2 v u2 fq->fq.Nodup->(∀b∈fq,b∈fn \/ b ∉ fp)->∃fp2,Rt K F2 H2 x (setP t p u2) fp2/\fp2.Nodup/\∀b∈fp2,(b∈fp/\b ∉ fn) \/ b∈fq:=by
 induction h with
|nil =>
  intro fp hr nd;refine⟨fp,hr,λa z=>z,nd,λ{F2 H2 u2 fq} _ _ h2 n2 _=>⟨fq,?_,n2,λb q=>.inr q⟩⟩;cases u2 <;> exact h2
|@ix G xs0 ts0 j0 x0 v0 t0 u0 p0 W h2 S _ ih =>
  intro fp hr nd;cases hr with
 |ls Z g2 g3 =>
   rw[W]at Z;cases Z;obtain⟨fA,fj,fB,e,hj,rep⟩:=g3.split h2 S;subst e;obtain⟨J,no⟩:=mid0 (pre:=[G]) nd;obtain⟨fn,hn,sub,I,back⟩:=ih hj J;refine⟨fn,hn,λa ha=>by simp[sub a ha],I,λ{F2 H2 u2 fq} s k hu nq O=>?_⟩;obtain⟨f2,r2,n2,m2⟩:=back s (λb q L=>k b (by simp[q]) L) hu nq λb q=>(O b q).imp id λz y=>z (by simp[y]);have rA:=rep s (λb q=>k b (by rcases vV.mp q with z|z <;> simp[z]) λz=>no b (.inr (vV.mp q)) (sub b z)) r2;have B:=k _ wJ λz=>no G (.inl wJ) (sub _ z);obtain⟨m3,m4⟩:=mid (pre:=[G]) nd sub O n2 m2;exact⟨_,by unfold setP;rw[S];exact .ls (by rw[B.1];exact W) B.2 rA,m3,m4⟩
|@tx G xs0 ts0 j0 x0 v0 t0 u0 p0 W h2 S _ ih =>
  intro fp hr nd;cases hr with
 |tp Z g2 g3 =>
   rw[W]at Z;cases Z;obtain⟨fA,fj,fB,e,hj,rep⟩:=g3.split h2 S;subst e;obtain⟨J,no⟩:=mid0 (pre:=[G]) nd;obtain⟨fn,hn,sub,I,back⟩:=ih hj J;refine⟨fn,hn,λa ha=>by simp[sub a ha],I,λ{F2 H2 u2 fq} s k hu nq O=>?_⟩;obtain⟨f2,r2,n2,m2⟩:=back s (λb q L=>k b (by simp[q]) L) hu nq λb q=>(O b q).imp id λz y=>z (by simp[y]);have rA:=rep s (λb q=>k b (by rcases vV.mp q with z|z <;> simp[z]) λz=>no b (.inr (vV.mp q)) (sub b z)) r2;have B:=k _ wJ λz=>no G (.inl wJ) (sub _ z);obtain⟨m3,m4⟩:=mid (pre:=[G]) nd sub O n2 m2;exact⟨_,by unfold setP;rw[S];exact .tp (by rw[B.1];exact W) B.2 rA,m3,m4⟩
|@fl G C0 M fs0 ts0 f0 x0 v0 t0 u0 p0 W h2 S _ ih =>
  intro fp hr nd;cases hr with
 |ob Z g2 g3 g4 g5 =>
   rw[W]at Z;cases Z;obtain⟨fA,fj,fB,e,hj,rep,_⟩:=g5.split h2 S;subst e;obtain⟨J,no⟩:=mid0 (pre:=[G,M]) nd;obtain⟨fn,hn,sub,I,back⟩:=ih hj J;refine⟨fn,hn,λa ha=>by simp[sub a ha],I,λ{F2 H2 u2 fq} s k hu nq O=>?_⟩;obtain⟨f2,r2,n2,m2⟩:=back s (λb q L=>k b (by simp[q]) L) hu nq λb q=>(O b q).imp id λz y=>z (by simp[y]);have rA:=rep s (λb q=>k b (by rcases vV.mp q with z|z <;> simp[z]) λz=>no b (.inr (vV.mp q)) (sub b z)) r2;have B:=k _ wJ λz=>no G (.inl wJ) (sub _ z);have hx2:=k M (by simp) λz=>no M (.inl (by simp)) (sub _ z);obtain⟨m3,m4⟩:=mid (pre:=[G,M]) nd sub O n2 m2;exact⟨_,by unfold setP;rw[S];exact .ob (by rw[B.1];exact W) (by rw[hx2.1];exact g2) B.2 hx2.2 rA,m3,m4⟩
end
def AtS(H:Hp)(Y:_2.St)(U:DSt)(i:Nat)(p:Pth)(v:V)(u:T):Prop:=∃s t x,U[i]?=some s/\s.tree=some t/\Y.getD i none=some x/\At H x t p v u
abbrev DP:=DSt->(Nat->Pth->T->Prop)->Prop
def RfP(K:Fg)(q:TE)(z:DP):Prop:=∀⦃F H:Hp⦄⦃Y:_2.St⦄⦃U:DSt⦄⦃Qd:Nat->Pth->T->Prop⦄⦃Q:VK⦄,Same F H->RV K F H Y U->z U Qd->(∀i p u,Qd i p u->∀v B H',Ext F H B H'->AtS H' Y U i p v u->Q v H')->q Y H Q
section
variable {K:Fg}{te ti:TE}{dp:DP}{di:DE}
theorem zyf1{F H:Hp}{v:V}{t u:T}{p:Pth}(h:At H x t p v u):∀{fp:List aE},Rt K F H x t fp->∃fn,Rt K F H v u fn:=by
 induction h with
|nil=>intro fp hr;exact⟨fp,hr⟩
|ix J I G _ z =>
  intro fp hr;cases hr with
 |ls q M L =>
   rw[J]at q;cases q;obtain⟨fA,fj,fB,e,B,_⟩:=L.split I G;exact z B
|tx J I G _ z =>
  intro fp hr;cases hr with
 |tp q M L =>
   rw[J]at q;cases q;obtain⟨fA,fj,fB,e,B,_⟩:=L.split I G;exact z B
|fl J I G _ z =>
  intro fp hr;cases hr with
 |ob q M L S O =>
   rw[J]at q;cases q;obtain⟨fA,fj,fB,e,B,_⟩:=O.split I G;exact z B
theorem AtS.rt{F H:Hp}{Y:_2.St}{U:DSt}{i:Nat}{p:Pth}{v:V}{u:T}(h:AtS H Y U i p v u)(r:RV K F H Y U):∃fn,Rt K F H v u fn:=by
 obtain⟨s,t,x,G,B,z,q⟩:=h;obtain⟨y,fp,e,hr,_⟩:=(r.sl i s G).rt B;rw[z]at e;cases e;exact zyf1 q hr
theorem AtS.mono{H H':Hp}{Y:_2.St}{U:DSt}{i:Nat}{p:Pth}{v:V}{u:T}(s:Same H H')(h:AtS H Y U i p v u):AtS H' Y U i p v u:=by
 obtain⟨s',t,x,G,B,z,q⟩:=h;exact⟨s',t,x,G,B,z,q.mono s⟩
def pVar(i:Nat):DP:=λU Q=>pAt U i λt=>Q i [] t
theorem zv0(i:Nat):RfP K (tVar i) (pVar i):=by
 walk_at"24";obtain⟨sl,t,q,p,f⟩:=zmt h;obtain⟨x,fp,e,hr,_⟩:=(r.sl i _ q).rt p;exact⟨x,zmb (F:=F) (H:=H) (U:=U) e,k i [] t f x F H (Ext.refl s) ⟨sl,t,x,q,p,e,.nil⟩⟩
def nFld(f:Str)(u:T)(Q:T->Prop):Prop:=match u with
|.ob _ fs=>∃t,fs.lookup f=some t/\Q t
|_=>False
def nCls(C:aE)(u:T):Prop:=match u with
|.ob p _=>p=C
|_=>False
def pFld(C:aE)(f:Str)(dp:DP):DP:=λU Q=>dp U λi p u=>nCls C u/\nFld f u λt=>Q i (p++[.fl f]) t
theorem zq3(c:Cls K C)(O:NoAttr K C f)(h:RfP K te dp):RfP K (zcf1 K te f) (pFld C f dp):=by
 walk_at"34";refine h s r hd λi p u S v F1 H1 L B=>?_;obtain⟨z,W⟩:=S;obtain⟨fn,hr⟩:=B.rt (r.ext L);cases hr with
|ob G g2 g3 g4 Z =>
  cases (show _=C from z);obtain⟨t,J,q⟩:=W;obtain⟨y,I⟩:=(Z.keys f).2.1 t J;refine⟨_,_,_,_,y,rfl,G,c,O,I,k i _ t q y F1 H1 L ?_⟩;obtain⟨sl,M,x,a1,a2,a3,a4⟩:=B;exact⟨sl,M,x,a1,a2,a3,a4.snoc_fl G I J⟩
|fz _=>exact z.elim
|li _ _ _=>exact z.elim
|ls _ _ _=>exact z.elim
|dk _ _ _=>exact z.elim
|dt _ _ _=>exact z.elim
|tp _ _ _=>exact z.elim
def nIx(u:T)(k:D)(Q:Nat->T->Prop):Prop:=match u,k with
|.ls ts,.int z=>∃j t,ixN ts.length z=some j/\ts[j]?=some t/\Q j t
|.tp ts,.int z=>∃j t,ixN ts.length z=some j/\ts[j]?=some t/\Q j t
|_,_=>False
def pIx(dp:DP)(di:DE):DP:=λU Q=>dp U λi p u=>di U λk=>nIx u k λj t=>Q i (p++[.ix j]) t
theorem zs81{w:aR}(h:RfP K te dp)(hi:RfE K ti di):RfP K (tOp (rIxV w K) te ti) (pIx dp di):=by
 walk_at"34";refine h s r hd λi p u hu v F1 H1 e1 at1=>hi e1.fh (r.ext e1) hu λkd L kv F2 H2 e2 i2=>?_;have G:=e1.trans e2;have I:=at1.mono e2.h;obtain⟨fn,hr⟩:=I.rt (r.ext G);unfold nIx at L;split at L
 ·rename_i ts z
  obtain⟨j,t,Z,B,q⟩:=L;cases i2.int_inv;cases hr with
 |ls M g2 S =>
   have W:=S.len;have hj:j < ts.length:=by
    rcases wX j ts.length with y|y
    ·exact y
    ·rw[v8 y]at B;cases B
   rename_i a xs fp
   obtain⟨y,J⟩:∃y,xs[j]?=some y:=⟨xs[j]'(by lia),u5 _⟩
   refine .inl (.inl (.inl ⟨a,xs,z,y,rfl,rfl,SqL.of M,?_,k i _ t q _ F2 H2 G ?_⟩))
   ·unfold atI;rw[W,Z];exact J
   ·obtain⟨sl,O,x,a1,a2,a3,a4⟩:=I;exact⟨sl,O,x,a1,a2,a3,a4.snoc_ix (y:=x) M J B⟩
 ·rename_i ts z
  obtain⟨j,t,Z,B,q⟩:=L;cases i2.int_inv;cases hr with
 |tp M g2 S =>
   have W:=S.len;have hj:j < ts.length:=by
    rcases wX j ts.length with y|y
    ·exact y
    ·rw[v8 y]at B;cases B
   rename_i a xs fp
   obtain⟨y,J⟩:∃y,xs[j]?=some y:=⟨xs[j]'(by lia),u5 _⟩
   refine .inl (zwf1 (SqT.of M) (v:=y) ?_ (k i _ t q _ F2 H2 G ?_))
   ·unfold atI;rw[W,Z];exact J
   ·obtain⟨sl,O,x,a1,a2,a3,a4⟩:=I;exact⟨sl,O,x,a1,a2,a3,a4.snoc_tx (y:=x) M J B⟩
 ·exact L.elim
def dPV(dp:DP):DE:=λU Q=>dp U λ_ _ u=>vwT u Q
def dPE(dp:DP):DE:=λU Q=>dp U λ_ _ u=>fzT u Q
theorem RfP.v(h:RfP K te dp):RfV K te (dPV dp):=λ_ _ _ _ _ _ s r d k=>h s r d λi p u I v L J z q=>by
 obtain⟨fn,hr⟩:=q.rt (r.ext z);obtain⟨d,G,B⟩:=zaf1 hr I;exact k d G v L J z B
theorem RfP.e(h:RfP K te dp):RfE K te (dPE dp):=λ_ _ _ _ _ _ s r d k=>h s r d λi p u I v L J z q=>by
 obtain⟨fn,hr⟩:=q.rt (r.ext z);obtain⟨d,G,B⟩:=zi51 hr I;exact k d G v L J z B
end
structure Bs where
 F0:Hp
 H0:Hp
 G:List aE
def Sl.own:Sl->Bool
|.ow _=>true
|.io _ _=>true
|_=>false
def Sl.has:Sl->Bool
|.ow _=>true
|.io _ _=>true
|.bo _=>true
|_=>false
def Sl.wth:Sl->T->Sl
|.ow _,u=>.ow u
|.io a _,u=>.io a u
|s,_=>s
structure RS(K:Fg)(B:Bs)(F H:Hp)(Y:_2.St)(U:DSt)(fps:Nat->List aE):Prop where
 hh:∀b o,b ∉ B.G->B.H0 b=some o->H b=some o
 ff:Same B.F0 F
 fh:Same F H
 nw:∀b,B.H0 b≠none->B.F0 b=none->F b=none
 al:∀b,B.H0 b≠none->H b≠none
 len:Y.length=U.length
 sh:∀(i:Nat) d,U[i]?=some (.sh d)->∃x,Y.getD i none=some x/\Is K F x d
 rt:∀(i:Nat) s,U[i]?=some s->s.has=true->∃x t,Y.getD i none=some x/\s.tree=some t/\Rt K F H x t (fps i)/\(∀a u,s=.io a u->x=.ref a)/\(fps i).Nodup
 fr:∀(i:Nat) s,U[i]?=some s->s.own=true->∀a∈fps i,B.H0 a=none \/ (a∈B.G/\∀t,s≠.ow t)
 dj:∀(i j:Nat) s s',i≠j->U[i]?=some s->U[j]?=some s'->s.own=true->s'.has=true->∀a∈fps i,a ∉ fps j
section
variable {K:Fg}{B:Bs}{F H F' H':Hp}{Y:_2.St}{U:DSt}{fps:Nat->List aE}
theorem za9:∀{s:Sl},s.own=true->s.has=true
|.ow _,_=>rfl
|.io _ _,_=>rfl
|.un,e=>by cases e
|.sh _,e=>by cases e
|.bo _,e=>by cases e
theorem RS.rv(r:RS K B F H Y U fps):RV K F H Y U:=⟨r.len,λi s e=>by
 cases s with
|un=>trivial
|sh d=>exact r.sh i d e
|ow t =>
  obtain⟨x,t',z,u,q,G,p⟩:=r.rt i _ e rfl;cases u;exact⟨x,_,z,q,p⟩
|bo t =>
  obtain⟨x,t',z,u,q,G,p⟩:=r.rt i _ e rfl;cases u;exact⟨x,_,z,q,p⟩
|io a t =>
  obtain⟨x,t',z,u,q,G,p⟩:=r.rt i _ e rfl;cases u;cases G a t rfl;exact⟨_,z,q,p⟩⟩
theorem RS.grow(r:RS K B F H Y U fps)(e:Ext F H F' H'):RS K B F' H' Y U fps where
 hh:=λb o p I=>e.h b o (r.hh b o p I)
 ff:=r.ff.trans e.f
 fh:=e.fh
 nw:=λb p J=>e.nw b (r.al b p) (r.nw b p J)
 al:=λb p z=>by
  cases q:H b with
 |none=>exact r.al b p q
 |some o=>rw[e.h b o q]at z;cases z
 len:=r.len
 sh:=λi d h=>by obtain⟨x,G,u⟩:=r.sh i d h;exact⟨x,G,u.mono e.f⟩
 rt:=λi s G u=>by obtain⟨x,t,W,S,O,M,L⟩:=r.rt i s G u;exact⟨x,t,W,S,O.ext e,M,L⟩
 fr:=r.fr
 dj:=r.dj
theorem RS.setS(r:RS K B F H Y U fps){v:V}{d:D}(h:Is K F v d):RS K B F H (Y.set i (some v)) (U.set i (.sh d)) fps:=by
 have key:∀(j:Nat) s,(U.set i (.sh d))[j]?=some s->(j=i/\s=.sh d/\(Y.set i (some v)).getD j none=some v) \/ (j≠i/\U[j]?=some s/\(Y.set i (some v)).getD j none=Y.getD j none):=λj s e=>by
  rw[xX]at e;by_cases G:i=j
  ·subst G;by_cases hl:i < U.length
   ·simp[hl]at e;exact .inl ⟨rfl,e.symm,by rw[zi7,r.len,aF ⟨rfl,hl⟩]⟩
   ·simp[hl]at e
  ·simp[G]at e;exact .inr ⟨λz=>G z.symm,e,by rw[zi7,aA (by lia)]⟩
 refine⟨r.hh,r.ff,r.fh,r.nw,r.al,by rw[wN,wN];exact r.len,λj d' e=>?_,λj s e u=>?_,λj s e u=>?_,λj k s s' J W p I o2=>?_⟩
 ·rcases key j _ e with⟨_,p,q⟩|⟨_,p,q⟩
  ·cases p;exact⟨v,q,h⟩
  ·obtain⟨x,S,O⟩:=r.sh j d' p;exact⟨x,by rw[q];exact S,O⟩
 ·rcases key j _ e with⟨_,p,q⟩|⟨_,p,q⟩
  ·rw[p]at u;cases u
  ·rw[q];exact r.rt j s p u
 ·rcases key j _ e with⟨_,p,q⟩|⟨_,p,q⟩
  ·rw[p]at u;cases u
  ·exact r.fr j s p u
 ·rcases key j _ W with⟨_,z,_⟩|⟨_,M,_⟩
  ·rw[z]at I;cases I
  ·rcases key k _ p with⟨_,z,_⟩|⟨_,L,_⟩
   ·rw[z]at o2;cases o2
   ·exact r.dj j k s s' J M L I o2
theorem RS.byUpd(u:Upd K F n Y U Y' U')(r:RS K B F H Y U fps):RS K B F H Y' U' fps:=by
 induction u with
|refl=>exact r
|set hi q _ p=>exact p (r.setS q)
theorem RS.forget(r:RS K B F H Y U fps)(i:Nat):RS K B F H Y (U.set i .un) fps:=by
 have key:∀(j:Nat) s,(U.set i .un)[j]?=some s->s=.un \/ (j≠i/\U[j]?=some s):=λj s e=>by
  rw[xX]at e;by_cases q:i=j
  ·subst q;by_cases hl:i < U.length
   ·simp[hl]at e;exact .inl e.symm
   ·simp[hl]at e
  ·simp[q]at e;exact .inr ⟨λz=>q z.symm,e⟩
 refine⟨r.hh,r.ff,r.fh,r.nw,r.al,by rw[wN];exact r.len,λj d' e=>?_,λj s e p=>?_,λj s e p=>?_,λj k s s' G M L u o2=>?_⟩
 ·rcases key j _ e with z|⟨_,z⟩
  ·cases z
  ·exact r.sh j d' z
 ·rcases key j _ e with z|⟨_,z⟩
  ·rw[z]at p;cases p
  ·exact r.rt j s z p
 ·rcases key j _ e with z|⟨_,z⟩
  ·rw[z]at p;cases p
  ·exact r.fr j s z p
 ·rcases key j _ M with z|⟨_,J⟩
  ·rw[z]at u;cases u
  ·rcases key k _ L with z|⟨_,I⟩
   ·rw[z]at o2;cases o2
   ·exact r.dj j k s s' G J I u o2
def zn81(B:Bs)(U:DSt)(fps:Nat->List aE)(b:aE):Prop:=B.H0 b=none/\∀(j:Nat) s,U[j]?=some s->s.has=true->b ∉ fps j
theorem RS.newOk(r:RS K B F H Y U fps){b:aE}(h:H b=none):zn81 B U fps b:=by
 refine⟨?_,λj s u p q=>?_⟩
 ·by_cases z:B.H0 b=none
  ·exact z
  ·exact aN h (r.al b z)
 ·obtain⟨x,t,M,L,G,J,I⟩:=r.rt j s u p;exact(G.dom b q).1 h
theorem RS.upd2(r:RS K B F H Y U fps){s:Sl}{J:T}{M:List aE}{F2 H2:Hp}(hi:U[i]?=some s)(I:s.own=true)(hx:Y.getD i none=some x)
  (c1:∀b o,b ∉ fps i->H b=some o->H2 b=some o) (c2:Same F F2) (c3:Same F2 H2) (c4:∀b,H b≠none->F b=none->b ∉ fps i->F2 b=none) (c5:∀b,H b≠none->H2 b≠none)
  (h2:Rt K F2 H2 x J M) (n2:M.Nodup) (m2:∀b∈M,b∈fps i \/ zn81 B U fps b) (c6:∀b∈fps i,F2 b≠none->B.H0 b=none) :
  RS K B F2 H2 Y (U.set i (s.wth J)) (λj=>if j=i then M else fps j):=by
 have hlt:i < U.length:=by
  rcases wX i U.length with z|z
  ·exact z
  ·rw[v8 z]at hi;cases hi
 have hs:=za9 I;have wo:(s.wth J).own=true/\(s.wth J).has=true/\(s.wth J).tree=some J:=by
  cases s with
 |ow _=>exact⟨rfl,rfl,rfl⟩
 |io _ _=>exact⟨rfl,rfl,rfl⟩
 |un=>cases I
 |sh _=>cases I
 |bo _=>cases I
 have key:∀(j:Nat) s',(U.set i (s.wth J))[j]?=some s'->(j=i/\s'=s.wth J) \/ (j≠i/\U[j]?=some s'):=λj s' e=>by
  rw[xX]at e;by_cases W:i=j
  ·subst W;simp[hlt]at e;exact .inl ⟨rfl,e.symm⟩
  ·simp[W]at e;exact .inr ⟨λz=>W z.symm,e⟩
 have old:∀b∈fps i,H b≠none/\F b=none:=by
  obtain⟨x',t',a1,a2,a3,a4,a5⟩:=r.rt i s hi hs;exact a3.dom
 have S:=r.fr i s hi I;refine⟨λb o O h0=>?_,r.ff.trans c2,c3,λb O fb=>?_,λb O=>c5 b (r.al b O),by rw[wN];exact r.len,λj d e=>?_,λj s' e hs'=>?_,λj s' e ho' a G=>?_,λj k s1 s2 L e1 e2 o1 o2 a G=>?_⟩
 ·refine c1 b o (λz=>?_) (r.hh b o O h0);rcases S b z with y|y
  ·rw[y]at h0;cases h0
  ·exact O y.1
 ·by_cases hbi:b∈fps i
  ·cases z:F2 b with
  |none=>rfl
  |some o=>exact aN (c6 b hbi (by rw[z];simp)) O
  ·exact c4 b (r.al b O) (r.nw b O fb) hbi
 ·rcases key j _ e with⟨_,z⟩|⟨_,z⟩
  ·rw[<- z]at wo;cases wo.1
  ·obtain⟨y,h1,h2⟩:=r.sh j d z;exact⟨y,h1,h2.mono c2⟩
 ·rcases key j _ e with⟨p,z⟩|⟨p,z⟩
  ·subst p;rw[aF rfl];refine⟨x,J,hx,by rw[z];exact wo.2.2,h2,λa u e'=>?_,n2⟩;obtain⟨x',t',a1,a2,a3,a4,a5⟩:=r.rt j s hi hs;rw[hx]at a1;cases a1;cases s with
  |ow _=>rw[z]at e';cases e'
  |io a' u'=>rw[z]at e';cases e';exact a4 _ _ rfl
  |un=>cases I
  |sh _=>cases I
  |bo _=>cases I
  ·rw[aA p];obtain⟨y,t',a1,a2,a3,a4,a5⟩:=r.rt j s' z hs';refine⟨y,t',a1,a2,a3.frame c2 λa G=>?_,a4,a5⟩;obtain⟨d1,d2⟩:=a3.dom a G;have na:a ∉ fps i:=λw=>r.dj i j s s' (λq=>p q.symm) hi z I hs' a w G;cases q:H a with
  |none=>exact aN q d1
  |some o=>exact⟨c1 a o na q,c4 a d1 d2 na⟩
 ·rcases key j _ e with⟨p,z⟩|⟨p,z⟩
  ·rw[aF p]at G;rcases m2 a G with y|y
   ·rcases S a y with w|⟨w1,w2⟩
    ·exact .inl w
    ·refine .inr ⟨w1,λt et=>?_⟩;rw[z]at et;cases s with
    |ow t'=>exact w2 t' rfl
    |io _ _=>cases et
    |un=>cases I
    |sh _=>cases I
    |bo _=>cases I
   ·exact .inl y.1
  ·rw[aA p]at G;exact r.fr j s' z ho' a G
 ·rcases key j _ e1 with⟨p,z1⟩|⟨p,z1⟩ <;> rcases key k _ e2 with⟨Z,z2⟩|⟨Z,z2⟩
  ·exact aN (p.trans Z.symm) L
  ·rw[aF p]at G;rw[aA Z];subst p;rcases m2 a G with y|y
   ·exact r.dj j k s s2 L hi z2 I o2 a y
   ·exact y.2 k s2 z2 o2
  ·rw[aA p]at G;rw[aF Z];subst Z;intro w;rcases m2 a w with y|y
   ·exact r.dj j k s1 s L z1 hi o1 hs a G y
   ·exact y.2 j s1 z1 (za9 o1) G
  ·rw[aA p]at G;rw[aA Z];exact r.dj j k s1 s2 L z1 z2 o1 o2 a G
theorem RS.setT(r:RS K B F H Y U fps){v:V}{t:T}(h:Rt K F H v t fp)(nd:fp.Nodup)(hf:∀a∈fp,B.H0 a=none)(hd:∀(j:Nat) s,U[j]?=some s->s.has=true->∀a∈fps j,a ∉ fp) :
  RS K B F H (Y.set i (some v)) (U.set i (.ow t)) (λj=>if j=i then fp else fps j):=by
 have key:∀(j:Nat) s,(U.set i (.ow t))[j]?=some s->(j=i/\s=.ow t/\(Y.set i (some v)).getD j none=some v) \/ (j≠i/\U[j]?=some s/\(Y.set i (some v)).getD j none=Y.getD j none):=λj s e=>by
  rw[xX]at e;by_cases J:i=j
  ·subst J;by_cases hl:i < U.length
   ·simp[hl]at e;exact .inl ⟨rfl,e.symm,by rw[zi7,r.len,aF ⟨rfl,hl⟩]⟩
   ·simp[hl]at e
  ·simp[J]at e;exact .inr ⟨λz=>J z.symm,e,by rw[zi7,aA (by lia)]⟩
 refine⟨r.hh,r.ff,r.fh,r.nw,r.al,by rw[wN,wN];exact r.len,λj d' e=>?_,λj s e W=>?_,λj s e W a G=>?_,λj k s s' M e1 q Z o2 a G=>?_⟩
 ·rcases key j _ e with⟨_,q,I⟩|⟨_,q,I⟩
  ·cases q
  ·obtain⟨x,h1,h2⟩:=r.sh j d' q;exact⟨x,by rw[I];exact h1,h2⟩
 ·rcases key j _ e with⟨p,q,I⟩|⟨p,q,I⟩
  ·rw[aF p,I,q];exact⟨v,t,rfl,rfl,h,λa u z=>(by cases z),nd⟩
  ·rw[aA p,I];exact r.rt j s q W
 ·rcases key j _ e with⟨p,q,I⟩|⟨p,q,I⟩
  ·rw[aF p]at G;exact .inl (hf a G)
  ·rw[aA p]at G;exact r.fr j s q W a G
 ·rcases key j _ e1 with⟨p,S,_⟩|⟨p,S,_⟩ <;> rcases key k _ q with⟨L,O,_⟩|⟨L,O,_⟩
  ·exact aN (p.trans L.symm) M
  ·rw[aF p]at G;rw[aA L];exact λw=>hd k s' O o2 a w G
  ·rw[aA p]at G;rw[aF L];exact hd j s S (za9 Z) a G
  ·rw[aA p]at G;rw[aA L];exact r.dj j k s s' M S O Z o2 a G
theorem RS.put(r:RS K B F H Y U fps){s:Sl}{p:Pth}{v:V}{u:T}(hi:U[i]?=some s)(M:s.own=true)(ha:AtS H Y U i p v u) :
  ∃fn t,s.tree=some t/\Rt K F H v u fn/\fn.Nodup/\(∀a∈fn,a∈fps i)/\∀{F2 H2:Hp}{u2:T}{fq:List aE},
   (∀b o,b ∉ fn->H b=some o->H2 b=some o)->Same F F2->Same F2 H2->(∀b,H b≠none->F b=none->b ∉ fn->F2 b=none)->(∀b,H b≠none->H2 b≠none)->(∀b∈fn,F2 b≠none->B.H0 b=none) ->
   Rt K F2 H2 v u2 fq->fq.Nodup->(∀b∈fq,b∈fn \/ zn81 B U fps b)->∃I,RS K B F2 H2 Y (U.set i (s.wth (setP t p u2))) I/\(∀j,j≠i->I j=fps j)/\∀b∈I i,b∈fps i \/ b∈fq:=by
 obtain⟨s',t,x,h1,h2,h3,h4⟩:=ha;rw[hi]at h1;cases h1;obtain⟨x',t',a1,a2,W,a4,a5⟩:=r.rt i s hi (za9 M);rw[h3]at a1;cases a1;rw[h2]at a2;cases a2;obtain⟨fn,hn,sub,Z,back⟩:=zwb1 h4 W a5;refine⟨fn,t,h2,hn,Z,sub,λ{F2 H2 u2 fq} c1 c2 c3 S c5 c6 hu nq mq=>?_⟩;obtain⟨fp2,r2,n2,m2⟩:=back c2 (λb G J=>by
  obtain⟨L,O⟩:=W.dom b G;cases q:H b with
 |none=>exact aN q L
 |some o=>exact⟨c1 b o J q,S b L O J⟩) hu nq λb G=>by
   rcases mq b G with z|z
   ·exact .inl z
   ·exact .inr (z.2 i s hi (za9 M))
 refine⟨_,r.upd2 hi M h3 (λb o G=>c1 b o λz=>G (sub b z)) c2 c3 (λb G fb hbi=>S b G fb λz=>hbi (sub b z)) c5 r2 n2 (λb G=>?_) (λb G f2=>?_),λj hj=>aA hj,λb G=>?_⟩
 ·rcases m2 b G with⟨y,_⟩|y
  ·exact .inl y
  ·rcases mq b y with z|z
   ·exact .inl (sub b z)
   ·exact .inr z
 ·by_cases z:b∈fn
  ·exact c6 b z f2
  ·obtain⟨L,O⟩:=W.dom b G;exact aN (S b L O z) f2
 ·rw[aF rfl]at G;rcases m2 b G with⟨y,_⟩|y
  ·exact .inl y
  ·exact .inr y
end
structure Res(K:Fg)(B:Bs)(F H:Hp)(Y:_2.St)(U:DSt)(fps:Nat->List aE)(v:V)(r:T)(fpr:List aE):Prop where
 rs:RS K B F H Y U fps
 rt:Rt K F H v r fpr
 nd:fpr.Nodup
 fr:∀a∈fpr,B.H0 a=none
 dj:∀(j:Nat) s,U[j]?=some s->s.has=true->∀a∈fps j,a ∉ fpr
abbrev DC:=DSt->(T->DSt->Prop)->Prop
def RfC(K:Fg)(q:TE)(u:DC):Prop:=∀⦃B:Bs⦄⦃F H:Hp⦄⦃Y:_2.St⦄⦃U:DSt⦄⦃fps:Nat->List aE⦄⦃Qd:T->DSt->Prop⦄⦃Q:VK⦄,RS K B F H Y U fps->u U Qd->(∀r U',Qd r U'->∀v z H' p fpr,Res K B z H' Y U' p v r fpr->Q v H')->q Y H Q
structure DEnds where
 nx:DSt->Prop
 rt:T->DSt->Prop
 bk:DSt->Prop:=λ_=>False
 ct:DSt->Prop:=λ_=>False
abbrev DS:=DEnds->DSt->Prop
structure En(K:Fg)(B:Bs)(E:DEnds)(Z:Ends):Prop where
 nx:∀{F H:Hp}{Y:_2.St}{U:DSt}{fps:Nat->List aE},RS K B F H Y U fps->E.nx U->Z.nx Y H
 bk:∀{F H:Hp}{Y:_2.St}{U:DSt}{fps:Nat->List aE},RS K B F H Y U fps->E.bk U->Z.bk Y H
 ct:∀{F H:Hp}{Y:_2.St}{U:DSt}{fps:Nat->List aE},RS K B F H Y U fps->E.ct U->Z.ct Y H
 rt:∀{F H:Hp}{Y:_2.St}{U:DSt}{fps:Nat->List aE}{v:V}{r:T}{fpr:List aE},Res K B F H Y U fps v r fpr->E.rt r U->Z.rt v H
def RfS(K:Fg)(ts:TS)(ds:DS):Prop:=∀⦃B:Bs⦄⦃F H:Hp⦄⦃Y:_2.St⦄⦃U:DSt⦄⦃fps:Nat->List aE⦄⦃E:DEnds⦄⦃Z:Ends⦄,RS K B F H Y U fps->ds E U->En K B E Z->ts Z Y H
section
variable {K:Fg}{te ta ti:TE}{de da di:DE}{dc:DC}{tt:TT}{dt:DT}{t u tb:TS}{d e db:DS}{tA:TA}{dA:DF}{g:TG}{dg:DG}{n:Nat}{dp:DP}
def cE(de:DE):DC:=λU Q=>de U λd=>Q (.fz d) U
theorem RfE.c(h:RfE K te de):RfC K te (cE de):=by
 walk_at"9";exact h r.fh r.rv hd λd q v J I G z=>k _ _ q v J I fps [] ⟨r.grow G,.fz z,.nil,λa p=>by simp at p,λ_ _ _ _ a _ p=>by simp at p⟩
def cF(df:DF):DC:=λU Q=>df U λds=>Q (.li ds) U
theorem RfF.c(h:RfF K te df):RfC K te (cF df):=by
 walk_at"9";refine h r.fh r.rv hd λds q a xs F1 H1 W I O M L=>k _ _ q (.ref a) F1 H1 fps [a] ⟨r.grow W,.li O M L,by simp,λb G=>?_,λj s S J b G p=>?_⟩
 ·simp at G;subst G;by_cases z:B.H0 b=none
  ·exact z
  ·exact aN I (r.al b z)
 ·simp at p;subst p;obtain⟨x,t,a1,a2,Z,a4,a5⟩:=r.rt j s S J;exact(Z.dom b G).1 I
def slot:T->Sl
|.fz d=>.sh d
|t=>.ow t
theorem Res.set{B:Bs}{F H:Hp}{Y:_2.St}{U:DSt}{fps:Nat->List aE}{v:V}{r:T}{fpr:List aE}(h:Res K B F H Y U fps v r fpr)(i:Nat):∃p,RS K B F H (Y.set i (some v)) (U.set i (slot r)) p:=by
 cases r with
|fz d=>cases h.rt with
 |fz hi=>exact⟨_,h.rs.setS hi⟩
|li ds=>exact⟨_,h.rs.setT h.rt h.nd h.fr h.dj⟩
|ls ds=>exact⟨_,h.rs.setT h.rt h.nd h.fr h.dj⟩
|ob C ds=>exact⟨_,h.rs.setT h.rt h.nd h.fr h.dj⟩
|dk ds=>exact⟨_,h.rs.setT h.rt h.nd h.fr h.dj⟩
|dt ds=>exact⟨_,h.rs.setT h.rt h.nd h.fr h.dj⟩
|tp ds=>exact⟨_,h.rs.setT h.rt h.nd h.fr h.dj⟩
def znd1:DS:=λE U=>E.nx U
theorem zn1:RfS K zyd1 znd1:=λ_ _ _ _ _ _ _ _ r h k=>k.nx r h
def dSeq(a b:DS):DS:=λE U=>∃J:DSt->Prop,a { E with nx:=J } U/\∀U',J U'->b E U'
theorem zl0(L:RfS K t d)(I:RfS K u e):RfS K (tSeq t u) (dSeq d e):=by
 walk_at"3";obtain⟨J,G,z⟩:=h;exact L r G ⟨λp q=>I p (z _ q) k,k.bk,k.ct,k.rt⟩
def dAsg(de:DE)(dg:DG):DS:=λE U=>de U λd=>dg d U E.nx
theorem za1(I:RfE K te de)(G:RfG K n g dg):RfS K (tAsg te g) (dAsg de dg):=by
 walk_at"3";exact I r.fh r.rv h λd hd v L J p z=>G p.fh z hd λY' U' q u=>k.nx ((r.grow p).byUpd u) q
def dSet(i:Nat)(dc:DC):DS:=λE U=>dc U λr U'=>E.nx (U'.set i (slot r))
theorem ze6(I:RfC K te dc):RfS K (tAsg te (zos i)) (dSet i dc):=by
 walk_at"3";refine I r h λJ U' q v M L z fpr res=>?_;obtain⟨p,G⟩:=res.set i;exact k.nx G q
def zoe1(dc:DC):DS:=λE U=>dc U λ_ U'=>E.nx U'
theorem zp2(z:RfC K te dc):RfS K (zfd1 te) (zoe1 dc):=by
 walk_at"3";exact z r h λG U' q v J I p fpr res=>k.nx res.rs q
def dRet(dc:DC):DS:=λE U=>dc U E.rt
theorem zd1(z:RfC K te dc):RfS K (tRet te) (dRet dc):=by
 walk_at"3";exact z r h λG U' q v J I p fpr res=>k.rt res q
def zta1(i:Nat):DS:=λE U=>match U[i]? with
|some (.ow t)=>E.rt t (U.set i .un)
|some (.sh d)=>E.rt (.fz d) U
|_=>False
theorem zqc:RfS K (tRet (tVar i)) (zta1 i):=by
 walk_at"3";unfold zta1 at h;split at h
 ·rename_i t q
  obtain⟨x,t',a1,a2,W,a4,S⟩:=r.rt i _ q rfl;cases a2;refine⟨x,zmb (F:=F) (H:=H) (U:=U) a1,k.rt ⟨r.forget i,W,S,λa p=>(r.fr i _ q rfl a p).elim id λz=>aN rfl (z.2 t),λj s G J a p L=>?_⟩ h⟩;rw[xX]at G;by_cases I:i=j
  ·subst I;split at G
   ·split at G
    ·cases G;cases J
    ·cases G
   ·rename_i z;exact aN rfl z
  ·simp[I]at G;exact r.dj i j _ s I q G rfl J a L p
 ·rename_i d q
  obtain⟨x,O,M⟩:=r.sh i d q;exact⟨x,zmb (F:=F) (H:=H) (U:=U) O,k.rt ⟨r,.fz M,.nil,λa p=>by simp at p,λ_ _ _ _ a _ p=>by simp at p⟩ h⟩
 ·exact h.elim
def zwe1:DS:=λE U=>E.ct U
theorem zj71:RfS K zrd1 zwe1:=λ_ _ _ _ _ _ _ _ r h k=>k.ct r h
def dIf(dt:DT)(d e:DS):DS:=λE U=>dt U λb=>if b=true then d E U else e E U
theorem zj7(z:RfT K tt dt)(I:RfS K t d)(G:RfS K u e):RfS K (tIfS tt t u) (dIf dt d e):=by
 walk_at"3";refine z r.fh r.rv h λb p L J q=>?_;cases b with
|true=>rw[aF rfl]at p ⊢;exact I (r.grow q) p k
|false=>rw[aA v3]at p ⊢;exact G (r.grow q) p k
def dFor(di:DF)(dg:DG)(db:DS):DS:=λE U=>di U λitems=>∃W:Nat->DSt->Prop,W 0 U /\
 (∀i d U',items[i]?=some d->W i U'->dg d U' λp=>db { E with nx:=W (i+1),ct:=W (i+1),bk:=E.nx } p)/\∀U',W items.length U'->E.nx U'
def Bs.rem(B:Bs)(p:Hp):Bs:=⟨p,B.H0,B.G⟩
theorem RS.rem{B:Bs}{F H p:Hp}{Y:_2.St}{U:DSt}{fps:Nat->List aE}(r:RS K B F H Y U fps)(s0:Same B.F0 p)(s:Same p F):RS K (B.rem p) F H Y U fps :=
 ⟨r.hh,s,r.fh,λb G z=>r.nw b G (by
  cases q:B.F0 b with
 |none=>rfl
 |some o=>rw[show(B.rem p).F0 b=p b from rfl,s0 b o q]at z;cases z),r.al,r.len,r.sh,r.rt,r.fr,r.dj⟩
theorem RS.unrem{B:Bs}{F H p:Hp}(r:RS K (B.rem p) F H Y U fps)(s0:Same B.F0 p)(z:∀b,B.H0 b≠none->B.F0 b=none->p b=none):RS K B F H Y U fps :=
 ⟨r.hh,s0.trans r.ff,r.fh,λb q G=>r.nw b q (z b q G),r.al,r.len,r.sh,r.rt,r.fr,r.dj⟩
theorem zp7{wi:TI}{di:DF}(hi:RfI K wi di)(hg:RfG K n g dg)(hb:RfS K tb db):RfS K (tFor wi g tb) (dFor di dg db):=by
 walk_at"3";refine hi r.fh r.rv h λitems hx J F1 H1 e1 wj=>?_;obtain⟨W,w0,ws,we⟩:=hx;have r1:=r.grow e1;have s0:=r1.ff;have n0:=r1.nw;refine⟨λi m Y' H'=>m=items.length - i/\i<=items.length/\∃F' U' I,RS K (B.rem F1) F' H' Y' U' I/\W i U',⟨items.length,rfl,wH _,F1,U,fps,r1.rem s0 (λ_ _ z=>z),w0⟩,?_⟩;rintro i m Y' H' ⟨rfl,hi',F',U',I,r',w'⟩;obtain⟨go,stop,yld⟩:=wj F' H' r'.ff r'.fh;by_cases G:i < items.length
 ·refine .inr ⟨go i G,λY2 H2=>i+1<=items.length/\∃F2 U2 S,RS K (B.rem F1) F2 H2 Y2 U2 S/\W (i+1) U2,λY2 H2 p=>⟨_,by lia,rfl,p⟩,λx H2 y=>?_⟩;have M:items[i]?=some items[i]:=u5 G;obtain⟨F2,O,ix2⟩:=yld i x H2 _ M y;refine hg O.fh ix2 (ws i _ U' M w') λY2 U2 hd2 u2=>?_;refine hb ((r'.grow O).byUpd u2) hd2 ⟨λL q=>⟨G,_,_,_,L,q⟩,λL q=>k.nx (L.unrem s0 n0) q,λL q=>⟨G,_,_,_,L,q⟩,λres q=>k.rt ⟨res.rs.unrem s0 n0,res.rt,res.nd,res.fr,res.dj⟩ q⟩
 ·have e:i=items.length:=by lia
  subst e;exact .inl ⟨stop,k.nx (r'.unrem s0 n0) (we _ w')⟩
def zqb1(dt:DT)(db:DS):DS:=λE U=>∃W:Nat->DSt->Prop,(∃m,W m U)/\∀m U',W m U'->dt U' λb=>if b=true then db { E with nx:=λq=>∃p,p < m/\W p q,ct:=λq=>∃p,p < m/\W p q,bk:=E.nx } U' else E.nx U'
theorem zq9(ht:RfT K tt dt)(hb:RfS K tb db):RfS K (za71 tt tb) (zqb1 dt db):=by
 walk_at"3";obtain⟨W,⟨m0,w0⟩,ws⟩:=h;refine⟨λm Y' H'=>∃F' U' G,RS K B F' H' Y' U' G/\W m U',⟨m0,F,U,fps,r,w0⟩,?_⟩;rintro m Y' H' ⟨F',U',G,M,w'⟩;refine ht M.fh M.rv (ws m U' w') λb z F1 H1 e1=>?_;cases b with
|true =>
  rw[aF rfl]at z ⊢;refine⟨λY2 H2=>∃I,I < m/\∃F2 U2 L,RS K B F2 H2 Y2 U2 L/\W I U2,λY2 H2 p=>p,hb (M.grow e1) z ⟨λJ q=>?_,λJ q=>k.nx J q,λJ q=>?_,k.rt⟩⟩
  ·obtain⟨I,S,O⟩:=q;exact⟨I,S,_,_,_,J,O⟩
  ·obtain⟨I,S,O⟩:=q;exact⟨I,S,_,_,_,J,O⟩
|false =>
  rw[aA v3]at z ⊢;exact k.nx (M.grow e1) z
def mutS(U:DSt)(i:Nat)(p:Pth)(u:T)(N:DSt->Prop):Prop:=match U[i]? with
|some (.ow t)=>N (U.set i (.ow (setP t p u)))
|some (.io a t)=>N (U.set i (.io a (setP t p u)))
|_=>False
theorem RS.mut{B:Bs}{F H:Hp}{p:Pth}{v:V}{u u2:T}(r:RS K B F H Y U fps)(ha:AtS H Y U i p v u)(I:mutS U i p u2 N) :
  ∃fn,Rt K F H v u fn/\fn.Nodup/\(∀a∈fn,a∈fps i)/\∀{F2 H2:Hp}{fq:List aE},
   (∀b o,b ∉ fn->H b=some o->H2 b=some o)->Same F F2->Same F2 H2->(∀b,H b≠none->F b=none->b ∉ fn->F2 b=none)->(∀b,H b≠none->H2 b≠none)->(∀b∈fn,F2 b≠none->B.H0 b=none) ->
   Rt K F2 H2 v u2 fq->fq.Nodup->(∀b∈fq,b∈fn \/ zn81 B U fps b)->∃J G,RS K B F2 H2 Y J G/\N J/\(∀j,j≠i->G j=fps j/\J[j]?=U[j]?)/\(∀b∈G i,b∈fps i \/ b∈fq)/\(∃s,U[i]?=some s/\s.own=true):=by
 obtain⟨s,hi,L,hN⟩:∃s,U[i]?=some s/\s.own=true/\∀t,s.tree=some t->N (U.set i (s.wth (setP t p u2))):=by
  unfold mutS at I;split at I
  ·rename_i t q
   exact⟨_,q,rfl,λt' e=>by cases e;exact I⟩
  ·rename_i a t q
   exact⟨_,q,rfl,λt' e=>by cases e;exact I⟩
  ·exact I.elim
 obtain⟨fn,t,h1,h2,h3,h4,h5⟩:=r.put hi L ha;refine⟨fn,h2,h3,h4,λ{F2 H2 fq} c1 c2 c3 c4 c5 c6 hu W Z=>?_⟩;obtain⟨G,S,O⟩:=h5 c1 c2 c3 c4 c5 c6 hu W Z;refine⟨_,G,S,hN t h1,λj M=>⟨O.1 j M,?_⟩,O.2,s,hi,L⟩;rw[xS (λz=>M z.symm)]
theorem RS.one{B:Bs}{F H:Hp}{p:Pth}{u u2:T}{o2:HO}(r:RS K B F H Y U fps)(W:AtS H Y U i p (.ref a) u)(S:mutS U i p u2 N)(ho:H a=some o)
  (O:∀fn,Rt K F H (.ref a) u fn->fn=[a]) (Z:F a=none->Rt K F (upd H a o2) (.ref a) u2 [a]):∃I q,RS K B F (upd H a o2) Y I q/\N I/\(∀j,j≠i->q j=fps j/\I[j]?=U[j]?):=by
 obtain⟨fn,hr,nd,sub,back⟩:=r.mut W S;have e:=O fn hr;subst e;have J:F a=none:=(hr.dom a (by simp)).2;obtain⟨I,q,g1,g2,g3,_⟩:=back (F2:=F) (H2:=upd H a o2) (fq:=[a]) (λb M G L=>by rw[zb1 (λz=>G (by simp[z]))];exact L) (λ_ _ z=>z) (λb M z=>by
   have:b≠a:=λw=>by subst w;rw[J]at z;cases z
   rw[zb1 this];exact r.fh b M z) (λb _ fb _=>fb) (λb G=>by
   by_cases z:b=a
   ·rw[z,zp0];simp
   ·rw[zb1 z];exact G) (λb G f=>by simp at G;subst G;exact aN J f) (Z J) (by simp) (λb G=>.inl G)
 exact⟨I,q,g1,g2,g3⟩
abbrev FM:=T->List D->(T->D->Prop)->Prop
def MO(K:Fg)(r:V->List V->Hp->VK->Prop)(f:FM):Prop:=∀⦃F H:Hp⦄⦃v:V⦄⦃u:T⦄⦃fn:List aE⦄⦃vs:List V⦄⦃ds:List D⦄⦃Kd:T->D->Prop⦄⦃Q:VK⦄,Same F H->Rt K F H v u fn->IsAll K F vs ds->f u ds Kd ->
 ∃u2 d y o o2 a,Kd u2 d/\v=.ref a/\fn=[a]/\H a=some o/\Is K F y d/\Rt K F (upd H a o2) (.ref a) u2 [a]/\(Q y (upd H a o2)->r v vs H Q)
def tyN(T:String):_4.T->Prop
|.li _=>T = "list"
|.ls _=>T = "list"
|.dk _=>T = "dict"
|.dt _=>T = "dict"
|_=>False
theorem zhe1{F H:Hp}{T:String}{v:V}{u:_4.T}(h:Rt K F H v u fn)(k:tyN T u):tyV K T v H:=by
 cases h with
|fz _=>exact k.elim
|li p _ _=>exact .inl ⟨k,_,SqL.of p⟩
|ls p _ _=>exact .inl ⟨k,_,SqL.of p⟩
|ob _ _ _ _ _=>exact k.elim
|tp _ _ _=>exact k.elim
|dk p _ _=>exact .inr (.inr (.inl ⟨k,.inl ⟨_,p⟩⟩))
|dt p _ _=>exact .inr (.inr (.inl ⟨k,.inr ⟨_,p⟩⟩))
theorem zed1{F H:Hp}{v:V}{u:T}{fn:List aE}{r:V->List V->Hp->VK->Prop}{f:FM}(M:MO K r f){ds:List D}{Kd:T->D->Prop}{B:Bs}{p:Pth}{Qd:T->DSt->Prop}{Q:VK}
  (rs:RS K B F H Y U fps) (q:AtS H Y U i p v u) (L:IsAll K F vs ds) (O:f u ds λu2 d=>mutS U i p u2 λU'=>Qd (.fz d) U')
  (k:∀r U',Qd r U'->∀v F' H' G fpr,Res K B F' H' Y U' G v r fpr->Q v H'):r v vs H Q:=by
 obtain⟨fn,hr⟩:=q.rt rs.rv;obtain⟨u2,d,y,o,o2,a,Z,rfl,e2,h3,h4,h5,h6⟩:=M (Q:=Q) rs.fh hr L O;refine h6 ?_;obtain⟨U2,z,S,W,_⟩:=rs.one q Z h3 (λfn' I=>by
  obtain⟨_,_,_,_,_,a',_,e1,J,_⟩:=M (Q:=Q) rs.fh I L O;cases e1;exact J) (λ_=>h5)
 exact k _ _ W _ _ _ z [] ⟨S,.fz h4,.nil,λa q=>by simp at q,λ_ _ _ _ a _ q=>by simp at q⟩
def cBM(ty:String)(f:FM)(dp:DP)(dA:DF):DC:=λU Q=>dp U λi p u=>tyN ty u/\dA U λds=>f u ds λu2 d=>mutS U i p u2 λU'=>Q (.fz d) U'
theorem zcl{T:String}{r:V->List V->Hp->VK->Prop}{f:FM}(S:MO K r f)(O:RfP K te dp)(W:RfA K tA dA):RfC K (tBMU K T r te tA) (cBM T f dp dA):=by
 walk_at"17";refine O rs.fh rs.rv hd λi p u I v F1 Z L q=>?_;have z:=rs.grow L;obtain⟨fn,hr⟩:=q.rt z.rv;refine⟨zhe1 hr I.1,W L.fh z.rv I.2 λds G vs F2 H2 J M=>?_⟩;exact zed1 S (fn:=fn) (Kd:=λ_ _=>True) (z.grow J) (q.mono J.h) M G k
def cBM0(ty:String)(f:FM)(dp:DP):DC:=λU Q=>dp U λi p u=>tyN ty u/\f u [] λu2 d=>mutS U i p u2 λU'=>Q (.fz d) U'
theorem zby{T:String}{r:V->List V->Hp->VK->Prop}{f:FM}(J:MO K r f)(I:RfP K te dp):RfC K (zje1 K T r te) (cBM0 T f dp):=by
 walk_at"17";refine I rs.fh rs.rv hd λi p u G v O M L q=>?_;have z:=rs.grow L;obtain⟨fn,hr⟩:=q.rt z.rv;exact⟨zhe1 hr G.1,zed1 J (fn:=fn) (Kd:=λ_ _=>True) z q .nil G.2 k⟩
def mApp:FM:=λu ds N=>match u,ds with
|.li xs,[d]=>xs.length < sizeLine/\N (.li (xs++[d])) .none
|_,_=>False
theorem zii:MO K ztu mApp:=by
 intro F H v u fn vs ds Kd Q s hr I p;unfold mApp at p;cases u <;> first|exact p.elim|skip
 rcases ds with _|⟨d,_|⟨e,r⟩⟩ <;> first|exact p.elim|skip
 ·obtain⟨y,rfl,G⟩:=all1 I;cases hr with
 |li B J z =>
   have L:=z.dlen;exact⟨_,_,.non,_,.lst (_++[y]),_,p.2,rfl,rfl,B,.non,.li zp0 J (z.dapp (.cons G .nil)),λq=>⟨_,_,y,rfl,rfl,B,by lia,q⟩⟩
def mExt:FM:=λu ds N=>match u,ds with
|.li xs,[.list es]=>xs.length+es.length<=sizeLine/\N (.li (xs++es)) .none
|_,_=>False
theorem zzk:MO K (zkq K) mExt:=by
 walk_at"25";unfold mExt at p;cases u <;> first|exact p.elim|skip
 rcases ds with _|⟨d,_|⟨e,r⟩⟩ <;> first|exact p.elim|(cases d <;> first|exact p.elim|skip)
 ·obtain⟨y,rfl,I⟩:=all1 J;obtain⟨b,ys,rfl,M,G⟩:=I.list_inv;cases hr with
 |li B L z =>
   have S:=z.dlen;have O:=G.dlen;exact⟨_,_,.non,_,.lst (_++ys),_,p.2,rfl,rfl,B,.non,.li zp0 L (z.dapp G),λq=>⟨_,b,_,ys,rfl,rfl,B,s.seq M,by lia,q⟩⟩
def mPop:FM:=λu ds N=>match u,ds with
|.li xs,[]=>∃d,xs[xs.length - 1]?=some d/\N (.li xs.dropLast) d
|_,_=>False
theorem zdh{F:Hp}{ds:List D}(h:IsAll K F xs ds):IsAll K F xs.dropLast ds.dropLast:=by
 rw[uaL,uaL,h.dlen];exact h.dtake _
theorem zdx:MO K rPop mPop:=by
 walk_at"25";unfold mPop at p;cases u <;> first|exact p.elim|skip
 cases ds <;> first|exact p.elim|skip
 ·cases J;cases hr with
 |li G L z =>
   obtain⟨d,O,q⟩:=p;obtain⟨y,B,I⟩:=z.dget O;have M:=z.dlen;rw[<- M]at B;exact⟨_,_,y,_,.lst _,_,q,rfl,rfl,G,I,.li zp0 L (zdh z),λq=>⟨_,_,y,rfl,rfl,G,B,q⟩⟩
end
section
variable {K:Fg}{te ta ti tv:TE}{de da di dk:DE}{dc:DC}{tt:TT}{dt:DT}{t u tb:TS}{d e db:DS}{tA:TA}{dA:DF}{g:TG}{dg:DG}{n:Nat}{dp:DP}{w:aR}
def keyD:D->Option Key
|.int i=>some (.inl i)
|.str x=>some (.inr x)
|_=>none
theorem zgl{F:Hp}{v:V}{d:D}{k:Key}(h:Is K F v d)(e:keyD d=some k):v=kV k:=by
 cases h <;> simp[keyD]at e <;> subst e <;> rfl
def zbn:List D->Option (List Key)
|[]=>some []
|d :: ds=>match keyD d,zbn ds with
 |some k,some p=>some (k :: p)
 |_,_=>none
def keyT:D->Option (List Key)
|.tuple ds=>zbn ds
|_=>none
theorem zhb{F:Hp}:∀{xs:List V}{ds:List D}{k:List Key},IsAll K F xs ds->zbn ds=some k->xs=k.map kV/\ds.all zr71=true
|_,_,_,.nil,e=>by simp[zbn]at e;subst e;exact⟨rfl,rfl⟩
|_,_,_,.cons (d:=d) h r,e=>by
  unfold zbn at e;split at e
  ·rename_i k G p q
   cases e;obtain⟨B,z⟩:=zhb r q;have:=zgl h p;rw[v4,this,B,zH,z];refine⟨rfl,?_⟩;cases d <;> simp[keyD]at p <;> rfl
  ·cases e
theorem zjn{F:Hp}{v:V}{d:D}{k:List Key}(h:Is K F v d)(e:keyT d=some k):∃b,v=.ref b/\F b=some (.tup (k.map kV)):=by
 cases h with
|tup z p =>
  obtain⟨G,_⟩:=zhb p e;subst G;exact⟨_,rfl,z⟩
|tuc z p q =>
  obtain⟨_,B⟩:=zhb p e;rw[B]at q;cases q
|_=>simp[keyT]at e
def getA{κ:Type}[DecidableEq κ](kvs:List (κ×D))(k:κ):Option D:=(kvs.find? λkv=>decide (kv.1=k)).map (·.2)
def putD{κ:Type}[DecidableEq κ](kvs:List (κ×D))(k:κ)(d:D):List (κ×D) :=
 if(kvs.any λkv=>decide (kv.1=k))=true then kvs.map (λkv=>if kv.1=k then(kv.1,d)else kv)else kvs++[(k,d)]
theorem KvIs.len{F:Hp}{κ:Type}:∀{r:List (κ×V)}{s:List (κ×D)},KvIs K F r s->r.length=s.length
|_,_,.nil=>rfl
|_,_,.cons _ r=>congrArg (·+1) (KvIs.len r)
theorem KvIs.get{F:Hp}{κ:Type}[DecidableEq κ]{k:κ}:∀{r:List (κ×V)}{s:List (κ×D)},KvIs K F r s->(getA s k=none/\valV r k=none) \/ ∃d v,getA s k=some d/\valV r k=some v/\Is K F v d
|_,_,.nil=>.inl ⟨rfl,rfl⟩
|_,_,.cons (k:=B) (v:=v) (d:=d) h r=>by
  by_cases e:B=k
  ·exact .inr ⟨d,v,by simp[getA,e],by simp[valV,e],h⟩
  ·rcases KvIs.get (k:=k) r with⟨q,p⟩|⟨d',z,q,p,G⟩
   ·exact .inl ⟨by simp[getA,e];simpa[getA]using q,by simp[valV,e];simpa[valV]using p⟩
   ·refine .inr ⟨d',z,?_,?_,G⟩
    ·simp[getA,e];simpa[getA]using q
    ·simp[valV,e];simpa[valV]using p
theorem KvIs.any{F:Hp}{κ:Type}[DecidableEq κ]{k:κ}:∀{r:List (κ×V)}{s:List (κ×D)},KvIs K F r s->(r.any λkv=>decide (kv.1=k))=(s.any λkv=>decide (kv.1=k))
|_,_,.nil=>rfl
|_,_,.cons _ r=>by rw[xV,xV,KvIs.any r]
theorem KvIs.app{F:Hp}{κ:Type}:∀{r p:List (κ×V)}{s s':List (κ×D)},KvIs K F r s->KvIs K F p s'->KvIs K F (r++p) (s++s')
|_,_,_,_,.nil,h=>h
|_,_,_,_,.cons h r,h'=>.cons h (r.app h')
theorem KvIs.map{F:Hp}{κ:Type}[DecidableEq κ]{k:κ}{v:V}{d:D}(p:Is K F v d):∀{r:List (κ×V)}{s:List (κ×D)},KvIs K F r s->KvIs K F (r.map λkv=>if kv.1=k then(kv.1,v)else kv) (s.map λkv=>if kv.1=k then(kv.1,d)else kv)
|_,_,.nil=>.nil
|_,_,.cons (k:=q) h r=>by
  by_cases e:q=k
  ·simp only[v4,e,if_true];exact .cons p (r.map p)
  ·simp only[v4,e,if_false];exact .cons h (r.map p)
theorem KvIs.put{F:Hp}{κ:Type}[DecidableEq κ]{k:κ}{v:V}{d:D}(p:Is K F v d){r:List (κ×V)}{s:List (κ×D)}(h:KvIs K F r s):KvIs K F (putK r k v) (putD s k d):=by
 unfold putK putD;rw[h.any];split
 ·exact h.map p
 ·exact h.app (.cons p .nil)
def fPut(u:T)(k d:D)(N:T->Prop):Prop:=match u with
|.li ds=>match k with
 |.int z=>∃j,ixN ds.length z=some j/\N (.li (ds.set j d))
 |_=>False
|.dk kvs=>∃key,keyD k=some key/\kvs.length < sizeLine/\N (.dk (putD kvs key d))
|.dt kvs=>∃key,keyT k=some key/\kvs.length < sizeLine/\N (.dt (putD kvs key d))
|_=>False
theorem zd31{B:Bs}{F H:Hp}{p:Pth}{v:V}{u:T}{k d:D}{Q:Hp->Prop}(rs:RS K B F H Y U fps)(ha:AtS H Y U i p v u)(hk:Is K F kv k)(hy:Is K F y d)
  (I:fPut u k d λu2=>mutS U i p u2 N) (q:∀Z G H2,RS K B F H2 Y Z G->N Z->Q H2):zj81 v kv y H Q:=by
 obtain⟨fn,hr⟩:=ha.rt rs.rv;cases hr with
|li M h2 L =>
  simp only[fPut]at I;split at I
  ·rename_i z
   obtain⟨j,ej,S⟩:=I;cases hk.int_inv;have el:=L.dlen;obtain⟨Z,G,O,n2,_⟩:=rs.one (o2:=.lst (_)) ha S M (λfn' J=>by cases J;rfl) (λW=>.li zp0 W (L.dset hy j));exact .inl ⟨_,_,z,j,rfl,rfl,M,by rw[el];exact ej,q _ _ _ O n2⟩
  ·exact I.elim
|dk M h2 L =>
  simp only[fPut]at I;obtain⟨key,ek,hl,S⟩:=I;have:=zgl hk ek;subst this;have el:=L.len;obtain⟨Z,G,O,n2,_⟩:=rs.one (o2:=.dK _) ha S M (λfn' J=>by cases J;rfl) (λW=>.dk zp0 W (L.put (k:=key) hy));exact .inr ⟨_,_,rfl,DPut.k M (by lia),q _ _ _ O n2⟩
|fz _=>exact I.elim
|ls _ _ _=>exact I.elim
|ob _ _ _ _ _=>exact I.elim
|tp _ _ _=>exact I.elim
|dt M h2 L =>
  simp only[fPut]at I;obtain⟨key,ek,hl,S⟩:=I;obtain⟨kb,rfl,hb⟩:=zjn hk ek;have el:=L.len;obtain⟨Z,G,O,n2,_⟩:=rs.one (o2:=.dT _) ha S M (λfn' J=>by cases J;rfl) (λW=>.dt zp0 W (L.put (k:=key) hy));exact .inr ⟨_,_,rfl,DPut.t M (rs.fh _ _ hb) (by lia),q _ _ _ O n2⟩
def dPut(dp:DP)(dk de:DE):DS:=λE U=>de U λd=>dp U λi p u=>dk U λk=>fPut u k d λu2=>mutS U i p u2 E.nx
theorem zd61(he:RfE K te de)(hp:RfP K ta dp)(hk:RfE K ti dk):RfS K (tAsg te (gSub ta ti zj81)) (dPut dp dk de):=by
 walk_at"3";refine he r.fh r.rv h λd hd y F1 H1 e1 i1=>?_;have z:=r.grow e1;refine hp z.fh z.rv hd λi p u hu v F2 H2 L J=>?_;have q:=z.grow L;refine hk q.fh q.rv hu λkd I kv F3 H3 G W=>?_;exact zd31 (q.grow G) (J.mono G.h) W (i1.mono (L.f.trans G.f)) I λU2 M H4 O S=>k.nx O S
def fGet(u:T)(k:D)(Q:D->Prop):Prop:=match u with
|.li ds=>match k with
 |.int z=>0<=z/\∃d,ds[z.toNat]?=some d/\Q d
 |_=>False
|.dk kvs=>∃key d,keyD k=some key/\getA kvs key=some d/\Q d
|.dt kvs=>∃key d,keyT k=some key/\getA kvs key=some d/\Q d
|_=>False
theorem zy21{F H:Hp}{v:V}{u:T}{k:D}{Qd:D->Prop}{Q:VK}(s:Same F H)(hr:Rt K F H v u fn)(M:Is K F kv k)(p:fGet u k Qd)(q:∀d y,Qd d->Is K F y d->Q y H):zb91 K v kv H Q:=by
 cases hr with
|li L Z J =>
  simp only[fGet]at p;split at p
  ·rename_i z
   obtain⟨z0,d,B,I⟩:=p;cases M.int_inv;obtain⟨y,hy,iy⟩:=J.dget B;exact .inl ⟨_,_,z,y,rfl,rfl,z0,SqL.of L,hy,q d y I iy⟩
  ·exact p.elim
|dk L Z J =>
  simp only[fGet]at p;obtain⟨key,d,W,B,I⟩:=p;have:=zgl M W;subst this;rcases J.get (k:=key)with⟨G,_⟩|⟨d',y,G,S,O⟩
  ·rw[G]at B;cases B
  ·rw[G]at B;cases B;exact .inr ⟨_,y,rfl,by rw[<- S];exact DGet.k L,q d y I O⟩
|fz _=>exact p.elim
|ls _ _ _=>exact p.elim
|ob _ _ _ _ _=>exact p.elim
|tp _ _ _=>exact p.elim
|dt L Z J =>
  simp only[fGet]at p;obtain⟨key,d,W,B,I⟩:=p;obtain⟨kb,rfl,hb⟩:=zjn M W;rcases J.get (k:=key)with⟨G,_⟩|⟨d',y,G,S,O⟩
  ·rw[G]at B;cases B
  ·rw[G]at B;cases B;exact .inr ⟨_,y,rfl,by rw[<- S];exact DGet.t L (s _ _ hb),q d y I O⟩
def fII(f:Int->Int->Int)(x y:D)(Q:D->Prop):Prop:=match x,y with
|.int i,.int j=>Q (.int (f i j))
|_,_=>False
def zud1(f:Int->Int->Int)(dp:DP)(dk de:DE):DS:=λE U=>dp U λi p u=>dk U λk=>fGet u k λx=>de U λy=>fII f x y λz=>fPut u k z λu2=>mutS U i p u2 E.nx
theorem zew{f:Int->Int->Int}(hp:RfP K ta dp)(hk:RfE K ti dk)(he:RfE K te de):RfS K (zod1 ta ti te (zb91 K) (ipI f) zj81) (zud1 f dp dk de):=by
 walk_at"3";refine hp r.fh r.rv h λi p u hu v F1 H1 e1 M=>?_;have I:=r.grow e1;refine hk I.fh I.rv hu λkd L kv F2 H2 S O=>?_;have q:=I.grow S;have z:=M.mono S.h;obtain⟨fn,hr⟩:=z.rt q.rv;refine zy21 q.fh hr O L λx xv hx ix=>he q.fh q.rv hx λy G yv F3 H3 J i3=>?_;unfold fII at G;split at G
 ·cases ix.int_inv;cases i3.int_inv;refine⟨_,_,rfl,rfl,?_⟩;exact zd31 (q.grow J) (z.mono J.h) (O.mono J.f) (.int _) G λU2 W H4 r4 n4=>k.nx r4 n4
 ·exact G.elim
def dAug(i:Nat)(f:Int->Int->Int)(de:DE):DS:=λE U=>match U[i]? with
|some (.sh x)=>de U λy=>fII f x y λz=>E.nx (U.set i (.sh z))
|_=>False
theorem zse{f:Int->Int->Int}(G:RfE K te de):RfS K (tAug i te (ipI f)) (dAug i f de):=by
 walk_at"3";unfold dAug at h;split at h
 ·rename_i x q
  obtain⟨v,J,z⟩:=r.sh i _ q;refine⟨_,zmb (F:=F) (H:=H) (U:=U) J,G r.fh r.rv h λd hd L O M I p=>?_⟩;unfold fII at hd;split at hd
  ·cases z.int_inv;cases p.int_inv;exact⟨_,_,rfl,rfl,k.nx ((r.grow I).setS (.int _)) hd⟩
  ·exact hd.elim
 ·exact h.elim
def nGet(dp:DP)(dk:DE):DE:=λU Q=>dp U λ_ _ u=>dk U λk=>fGet u k Q
theorem zzm(Z:RfP K ta dp)(hk:RfE K ti dk):RfE K (tOp (rIxV w K) ta ti) (nGet dp dk):=by
 walk_at"0";refine Z s rv h λi p u W v F1 H1 B I=>hk B.fh (rv.ext B) W λkd G kv F2 H2 J S=>?_;have z:=B.trans J;obtain⟨fn,hr⟩:=(I.mono J.h).rt (rv.ext z);rcases zy21 (Q:=Q) z.fh hr S G λd y L O=>k d L y F2 H2 z O with⟨a,xs,j,y,rfl,rfl,M,h1,h2,q⟩|q
 ·exact .inl (.inl (.inl ⟨a,xs,j,y,rfl,rfl,h1,at_nat' M h2,q⟩))
 ·exact .inr q
theorem ztj{F H:Hp}{p:aE}(s:Same F H)(q:H p=none):Ext F H F (upd H p o) :=
 ⟨zs1 q _,λ_ _ z=>z,λb o z=>zs1 q _ b o (s b o z),λ_ _ z=>z⟩
def fHas(neg:Bool)(u:T)(k:D)(Q:D->Prop):Prop:=match u with
|.dk kvs=>∃key,keyD k=some key/\Q (.bool (if neg then !(getA kvs key).isSome else(getA kvs key).isSome))
|.dt kvs=>∃key,keyT k=some key/\Q (.bool (if neg then !(getA kvs key).isSome else(getA kvs key).isSome))
|_=>False
def nIn(neg:Bool)(dk:DE)(dp:DP):DE:=λU Q=>dk U λk=>dp U λ_ _ u=>fHas neg u k Q
theorem zj31{F H:Hp}{v:V}{u:T}{k:D}{Qd:D->Prop}(s:Same F H)(hr:Rt K F H v u fn)(L:Is K F kv k)(p:fHas neg u k Qd):∃a o,v=.ref a/\DGet H a kv o/\Qd (.bool (if neg then !o.isSome else o.isSome)):=by
 cases hr with
|dk G O I =>
  obtain⟨key,J,q⟩:=p;have:=zgl L J;subst this;rcases I.get (k:=key)with⟨B,z⟩|⟨d',y,B,z,S⟩
  ·rw[B]at q;exact⟨_,none,rfl,by rw[<- z];exact DGet.k G,q⟩
  ·rw[B]at q;exact⟨_,some y,rfl,by rw[<- z];exact DGet.k G,q⟩
|fz _=>exact p.elim
|li _ _ _=>exact p.elim
|ls _ _ _=>exact p.elim
|ob _ _ _ _ _=>exact p.elim
|tp _ _ _=>exact p.elim
|dt G O I =>
  obtain⟨key,J,q⟩:=p;obtain⟨W,rfl,M⟩:=zjn L J;rcases I.get (k:=key)with⟨B,z⟩|⟨d',y,B,z,S⟩
  ·rw[B]at q;exact⟨_,none,rfl,by rw[<- z];exact DGet.t G (s _ _ M),q⟩
  ·rw[B]at q;exact⟨_,some y,rfl,by rw[<- z];exact DGet.t G (s _ _ M),q⟩
theorem zy31(S:RfE K ti dk)(O:RfP K ta dp):RfE K (tOp (rInV w K) ti ta) (nIn false dk dp):=by
 walk_at"0";refine S s rv h λW G kv F1 Z B L=>O B.fh (rv.ext B) G λi p u M v F2 H2 J I=>?_;have z:=B.trans J;obtain⟨fn,hr⟩:=I.rt (rv.ext z);obtain⟨a,o,rfl,g,q⟩:=zj31 z.fh hr (L.mono J.f) M;exact .inr ⟨a,o,rfl,g,k _ q _ F2 H2 z (.bl _)⟩
theorem zxu(S:RfE K ti dk)(O:RfP K ta dp):RfE K (tOp (zgq w K) ti ta) (nIn true dk dp):=by
 walk_at"0";refine S s rv h λW G kv F1 Z B L=>O B.fh (rv.ext B) G λi p u M v F2 H2 J I=>?_;have z:=B.trans J;obtain⟨fn,hr⟩:=I.rt (rv.ext z);obtain⟨a,o,rfl,g,q⟩:=zj31 z.fh hr (L.mono J.f) M;exact .inr ⟨a,o,rfl,g,k _ q _ F2 H2 z (.bl _)⟩
def cDT:DC:=λU Q=>Q (.dt []) U
theorem zvf1:RfC K zl41 cDT:=by
 walk_at"9";intro p q;have fn:F p=none:=by
  cases e:F p with
 |none=>rfl
 |some o=>rw[r.fh p o e]at q;cases q
 refine k _ _ hd (.ref p) F _ fps [p] ⟨r.grow (ztj r.fh q),.dt zp0 fn .nil,by simp,λb I=>?_,λj s L J b I G=>?_⟩
 ·simp at I;subst I;by_cases z:B.H0 b=none
  ·exact z
  ·exact aN q (r.al b z)
 ·simp at G;subst G;obtain⟨x,t,Z,W,M,S,O⟩:=r.rt j s L J;exact(M.dom b I).1 q
abbrev DN:=DSt->(T->Prop)->Prop
def RfN(K:Fg)(te:TE)(q:DN):Prop:=∀⦃F H:Hp⦄⦃Y:_2.St⦄⦃U:DSt⦄⦃Qd:T->Prop⦄⦃Q:VK⦄,Same F H->RV K F H Y U->q U Qd->(∀r,Qd r->∀v p H' fp,Ext F H p H'->Rt K p H' v r fp->fp.Nodup->(∀a∈fp,H a=none)->Q v H')->te Y H Q
def nF(df:DF):DN:=λU Q=>df U λds=>Q (.li ds)
theorem RfF.new(h:RfF K te df):RfN K te (nF df):=λ_ _ _ _ _ _ s r d k=>h s r d λds q a xs J H' e z I G B=>k _ q (.ref a) J H' [a] e (.li I G B) (by simp) λb p=>by simp at p;subst p;exact z
def cN(p:DN):DC:=λU Q=>p U λr=>Q r U
theorem RfN.c{G:DN}(h:RfN K te G):RfC K te (cN G):=by
 walk_at"9";refine h r.fh r.rv hd λr2 q v Z W fp O hr nd fr=>k _ _ q v Z W fps fp ⟨r.grow O,hr,nd,λa L=>?_,λj s M I b J p=>?_⟩
 ·by_cases z:B.H0 a=none
  ·exact z
  ·exact aN (fr a L) (r.al a z)
 ·obtain⟨x,t,a1,a2,S,a4,a5⟩:=r.rt j s M I;exact(S.dom b J).1 (fr b p)
theorem RtAll.app{F H:Hp}:∀{xs ys:List V}{ts us:List T}{fp fq:List aE},RtAll K F H xs ts fp->RtAll K F H ys us fq->RtAll K F H (xs++ys) (ts++us) (fp++fq)
|_,_,_,_,_,_,.nil,h=>h
|_,_,_,_,_,_,.cons h r,h'=>by rw[vW];exact .cons h (r.app h')
def zbf1(di:DF)(n:Nat)(ix:List Nat)(dg:DG)(p:DN):DN:=λU Q=>di U λitems=>items.length<=sizeLine/\∃R:Nat->T->Prop,
 (∀i d,items[i]?=some d->dg d (cST n ix U) λU'=>p U' λr=>R i r)/\∀rs:List T,rs.length=items.length->(∀(j:Nat) r,rs[j]?=some r->R j r)->Q (.ls rs)
theorem zqv{wi:TI}{di:DF}{dn:DN}(hi:RfJ K wi di)(hg:RfG K n g dg)(he:RfN K te dn):RfN K (zy81 wi n ix g zlb1 te) (zbf1 di n ix dg dn):=by
 walk_at"2";refine hi s rv hd λitems hx J F1 H1 e1 wj D hD=>?_;obtain⟨hz,R,hR,hQ⟩:=hx;have rv1:=zo61 n ix (rv.ext e1);have F1D:F1 D=none:=by
  cases q:F1 D with
 |none=>rfl
 |some o=>rw[e1.fh D o q]at hD;cases hD
 refine⟨λi m acc Y' H'=>m=items.length - i/\i<=items.length/\Y'.length=(compY n ix Y).length/\(∀j,n<=j->Y'.getD j none=(compY n ix Y).getD j none)/\∃(W:Hp)(rs:List T)(B:List aE),Ext F1 H1 W H'/\W D=none/\H' D=some (.lst acc)/\rs.length=i/\(∀(j:Nat) r,rs[j]?=some r->R j r)/\RtAll K W H' acc rs B/\B.Nodup/\(∀a∈B,H1 a=none/\a≠D),
  ⟨items.length,rfl,wH _,rfl,λ_ _=>rfl,F1,[],[],?_,F1D,zp0,rfl,λj o e=>by simp at e,.nil,.nil,λa G=>by simp at G⟩,?_⟩
 ·exact(zr7 (xs:=[]) e1.fh hD).1
 rintro i m acc Y' H' ⟨rfl,hi',hl,hk,W,rs,B,ex,fD,hDD,hrs,hRs,I,ndA,frA⟩;obtain⟨go,stop,yld⟩:=wj W H' ex;by_cases hlt:i < items.length
 ·refine .inr ⟨go i hlt,λO Y2 H2=>i+1<=items.length/\Y2.length=(compY n ix Y).length/\(∀j,n<=j->Y2.getD j none=(compY n ix Y).getD j none)/\∃(W:Hp)(rs:List T)(B:List aE),Ext F1 H1 W H2/\W D=none/\H2 D=some (.lst O)/\rs.length=i+1/\(∀(j:Nat) r,rs[j]?=some r->R j r)/\RtAll K W H2 O rs B/\B.Nodup/\(∀a∈B,H1 a=none/\a≠D),λO Y2 H2 p=>⟨items.length - (i+1),by lia,rfl,p⟩,λx H2 y=>?_⟩;have hit:items[i]?=some items[i]:=u5 hlt;obtain⟨F2,L,ix2⟩:=yld i x H2 _ hit y;have rv2:RV K F2 H2 Y' (cST n ix U):=RV.caps (rv1.ext (ex.trans L)) hl hk;refine hg L.fh ix2 (hR i _ hit) λY2 U2 hd2 u2=>?_;have rv3:=u2.rv rv2;have kp:=u2.keep;have hl2:Y2.length=(compY n ix Y).length:=by rw[kp.1,hl]
  have hk2:∀j,n<=j->Y2.getD j none=(compY n ix Y).getD j none:=λj hj=>by rw[kp.2 j hj,hk j hj]
  show te Y2 H2 _;refine he L.fh rv3 hd2 λr hr v F5 H5 fp e5 i5 nd5 fr5=>?_;have M:=L.trans e5;have hD2:H2 D=some (.lst acc):=L.h _ _ hDD;have hD5:H5 D=some (.lst acc):=M.h _ _ hDD;have fD5:F5 D=none:=M.nw D (by rw[hDD];simp) fD;have hlen:acc.length<=i:=by rw[I.len,hrs];exact u7 _
  have e15:=ex.trans M;have S:RtAll K F5 H5 acc rs B:=I.frame M.f λa G=>by
   obtain⟨d1,d2⟩:=I.dom a G;cases q:H' a with
  |none=>exact aN q d1
  |some o=>exact⟨M.h a o q,M.nw a d1 d2⟩
  have frN:∀a∈fp,H1 a=none/\a≠D:=λa G=>⟨zk2 (ex.trans L) (fr5 a G),λz=>by subst z;rw[fr5 a G]at hD2;cases hD2⟩
  refine⟨hD5,by lia,hlt,hl2,hk2,F5,rs++[r],B++fp,⟨λb o Z=>?_,e15.f,λb o Z=>?_,e15.nw⟩,fD5,zp0,by simp[hrs],λj r' e=>?_,?_,?_,λa G=>?_⟩
  ·have:b≠D:=λz=>by subst z;rw[hD]at Z;cases Z
   rw[zb1 this];exact e15.h b o Z
  ·have:b≠D:=λz=>by subst z;rw[fD5]at Z;cases Z
   rw[zb1 this];exact e15.fh b o Z
  ·rcases uaJ j rs.length with h|h|h
   ·rw[wU h]at e;exact hRs j r' e
   ·subst h;rw[wR (u7 _)]at e;simp at e;subst e;rw[hrs];exact hr
   ·rw[wR (yP h)]at e;cases q:j - rs.length with
   |zero=>lia
   |succ z=>rw[q]at e;simp at e
  ·have z1:RtAll K F5 (upd H5 D (.lst (acc++[v]))) acc rs B:=S.frame (λ_ _ z=>z) λa G=>⟨zb1 (frA a G).2,(S.dom a G).2⟩
   have z2:Rt K F5 (upd H5 D (.lst (acc++[v]))) v r fp:=i5.frame (λ_ _ z=>z) λa G=>⟨zb1 (frN a G).2,(i5.dom a G).2⟩
   have:=z1.app (RtAll.cons z2 .nil)
   rwa [wQ]at this
  ·refine wS.mpr ⟨ndA,nd5,λa G b Z z=>?_⟩;subst z;have:=(I.dom a G).1;exact this (zk2 L (fr5 a Z))
  ·rcases vV.mp G with z|z
   ·exact frA a z
   ·exact frN a z
 ·have e:i=items.length:=by lia
  refine .inl ⟨by rw[e];exact stop,k _ (hQ rs (by lia) hRs) (.ref D) W H' (D :: B) (e1.trans ex) (.ls hDD fD I) (v9.mpr ⟨λz=>(frA D z).2 rfl,ndA⟩) λa G=>?_⟩;rcases vR.mp G with z|z
  ·rw[z];exact zk2 e1 hD
  ·exact zk2 e1 (frA a z).1
def nSet(f:Str)(u r:T)(N:T->Prop):Prop:=match u with
|.ob C fs=>fs.length < 1000/\N (.ob C (putA f r fs))
|_=>False
theorem Res.grow{B:Bs}{F H p H':Hp}{Y:_2.St}{U:DSt}{fps:Nat->List aE}{v:V}{r:T}{fpr:List aE}(h:Res K B F H Y U fps v r fpr)(e:Ext F H p H'):Res K B p H' Y U fps v r fpr :=
 ⟨h.rs.grow e,h.rt.ext e,h.nd,h.fr,h.dj⟩
theorem ztc1{B:Bs}{F H:Hp}{r:T}{p:Pth}{fs:List (Str×V)}{ts:List (Str×T)}  
  (res:Res K B F H Y U fps y r fpr) (ha:AtS H Y U i p (.ref a) (.ob C ts)) (hH:H a=some (.ins C dx fs)) (hm:mutS U i p (.ob C (putA f r ts)) N):∃U2 I,RS K B F (upd H a (.ins C dx (putF f y fs))) Y U2 I/\N U2:=by
 obtain⟨fn,hr,nd,sub,back⟩:=res.rs.mut ha hm;obtain⟨s,hs,ho⟩:∃s,U[i]?=some s/\s.own=true:=by
  unfold mutS at hm;split at hm
  ·rename_i t q;exact⟨_,q,rfl⟩
  ·rename_i a t q;exact⟨_,q,rfl⟩
  ·exact hm.elim
 have M:∀b∈fn,b ∉ fpr:=λb G=>res.dj i s hs (za9 ho) b (sub b G);cases hr with
|ob g1 g2 g3 g4 S =>
  rename_i dx' fs' fp
  rw[hH]at g1;cases g1;have J:=v9.mp nd;have nd2:=v9.mp J.2;have na:a ∉ fp:=λz=>J.1 (wA _ z);have nx:dx≠a:=λz=>J.1 (by rw[z];simp);have nxf:dx ∉ fp:=nd2.1;have L:∀b∈fp,b ∉ fpr:=λb G=>M b (by simp[G]);have ra:a ∉ fpr:=M a (by simp);have rx:dx ∉ fpr:=M dx (by simp);have hy:Rt K F (upd H a (.ins C dx (putF f y fs))) y r fpr:=res.rt.frame (λ_ _ z=>z) λb G=>⟨zb1 λz=>by subst z;exact ra G,(res.rt.dom b G).2⟩
  have W:∀b∈fp,upd H a (.ins C dx (putF f y fs)) b=H b/\F b=none:=λb G=>⟨zb1 λz=>by subst z;exact na G,(S.dom b G).2⟩
  obtain⟨fq,hq,ndq,mq⟩:∃fq,RtFs K F (upd H a (.ins C dx (putF f y fs))) (putF f y fs) (putA f r ts) fq/\fq.Nodup/\∀b∈fq,b∈fp \/ b∈fpr:=by
   cases q:ts.lookup f with
  |none =>
    refine⟨fp++fpr,RtFs.add (λ_ _ z=>z) hy S q W,wS.mpr ⟨nd2.2,res.nd,λb G c O z=>?_⟩,λb G=>vV.mp G⟩;subst z;exact L b G O
  |some t0 =>
    obtain⟨x0,ex⟩:=(S.keys f).2.1 t0 q;obtain⟨fA,fj,fB,e,hj,_,rep⟩:=S.split ex q;subst e;obtain⟨ndA,Z,djA⟩:=wS.mp nd2.2;obtain⟨ndj,ndB,djB⟩:=wS.mp Z;refine⟨fA++(fpr++fB),rep (λ_ _ z=>z) (λb G=>W b (by rcases vV.mp G with z|z <;> simp[z])) hy,wS.mpr ⟨ndA,wS.mpr ⟨res.nd,ndB,λb G c O z=>?_⟩,λb G c O z=>?_⟩,λb G=>?_⟩
    ·subst z;exact L b (by simp[O]) G
    ·subst z;rcases vV.mp O with z|z
     ·exact L b (by simp[G]) z
     ·exact djA b G b (by simp[z]) rfl
    ·rcases vV.mp G with z|z
     ·exact .inl (by simp[z])
     ·rcases vV.mp z with z|z
      ·exact .inr z
      ·exact .inl (by simp[z])
  obtain⟨U2,I,r2,n2,_⟩:=back (F2:=F) (H2:=upd H a (.ins C dx (putF f y fs))) (fq:=a :: dx :: fq) (λb o G hbo=>by rw[zb1 (λz=>G (by simp[z]))];exact hbo) (λ_ _ z=>z) (λb o z=>by
    have:b≠a:=λq=>by subst q;rw[g3]at z;cases z
    rw[zb1 this];exact res.rs.fh b o z) (λb _ fb _=>fb) (λb G=>by
    by_cases z:b=a
    ·rw[z,zp0];simp
    ·rw[zb1 z];exact G) (λb G hf=>by
    have:F b=none:=by
     rcases vR.mp G with z|z
     ·rw[z];exact g3
     ·rcases vR.mp z with z|z
      ·rw[z];exact g4
      ·exact(S.dom b z).2
    exact aN this hf) (.ob zp0 (by rw[zb1 nx];exact g2) g3 g4 hq) (v9.mpr ⟨λz=>by
    rcases vR.mp z with y|y
    ·exact nx y.symm
    ·rcases mq a y with y|y
     ·exact na y
     ·exact ra y,v9.mpr ⟨λz=>by
    rcases mq dx z with y|y
    ·exact nxf y
    ·exact rx y,ndq⟩⟩) (λb G=>by
    rcases vR.mp G with z|z
    ·exact .inl (by simp[z])
    ·rcases vR.mp z with z|z
     ·exact .inl (by simp[z])
     ·rcases mq b z with z|z
      ·exact .inl (by simp[z])
      ·exact .inr ⟨res.fr b z,λj s' ej hs' hbj=>res.dj j s' ej hs' b hbj z⟩)
  exact⟨U2,I,r2,n2⟩
def dFld(C:aE)(f:Str)(dc:DC)(dp:DP):DS:=λE U=>dc U λr q=>dp q λi p u=>nCls C u/\nSet f u r λu2=>mutS q i p u2 E.nx
theorem zvd(c:Cls K C)(W:NoAttr K C f)(hc:RfC K tv dc)(hp:RfP K ta dp):RfS K (sFld K ta tv f) (dFld C f dc dp):=by
 walk_at"3";refine hc r h λr2 U1 q y F1 H1 O fpr res=>hp res.rs.fh res.rs.rv q λi p u G v F2 H2 e2 I=>?_;have z:=res.grow e2;obtain⟨fn,hr⟩:=I.rt z.rs.rv;cases hr with
|ob L g2 g3 g4 g5 =>
  obtain⟨J,hl,hm⟩:=G;cases (show _=C from J);have len:=(g5.keys f).2.2;obtain⟨U2,M,S,n3⟩:=ztc1 z I L hm;exact⟨_,_,_,_,rfl,L,c,W,by lia,k.nx S n3⟩
|fz _=>exact G.1.elim
|li _ _ _=>exact G.1.elim
|ls _ _ _=>exact G.1.elim
|dk _ _ _=>exact G.1.elim
|dt _ _ _=>exact G.1.elim
|tp _ _ _=>exact G.1.elim
def znv:List T->Option (List (List D))
|[]=>some []
|.li ds :: r=>(znv r).map (ds :: ·)
|_ :: _=>none
def toD:T->Option D
|.fz d=>some d
|.li ds=>some (.list ds)
|.ls ts=>(znv ts).map λp=>.list (p.map v5)
|_=>none
theorem zav{F H:Hp}(s:Same F H):∀{xs:List V}{ts:List T}{fp:List aE}{G:List (List D)},RtAll K F H xs ts fp->znv ts=some G->fp.Nodup->∃F2,Same F F2/\Same F2 H/\(∀b,b ∉ fp->F2 b=F b)/\IsAll K F2 xs (G.map v5)
|_,_,_,_,.nil,e,_=>by cases e;exact⟨F,λ_ _ z=>z,s,λ_ _=>rfl,.nil⟩
|_,_,_,_,.cons (fp:=fp) (fq:=fq) h r,e,nd=>by
  cases h with
 |li h1 Z W =>
   rename_i a p ds0
   unfold znv at e;obtain⟨O,e1,rfl⟩:=w6.mp e;have B:=v9.mp nd;obtain⟨I,s1,s2,s3,S⟩:=zav s r e1 B.2;have fa:I a=none:=by rw[s3 a B.1];exact Z
   have J:Same I (upd I a (.lst p)):=zs1 fa _;refine⟨upd I a (.lst p),s1.trans J,λb o z=>?_,λb M=>?_,.cons (.lst (SqL.of zp0) (W.mono (s1.trans J))) (S.mono J)⟩
   ·by_cases q:b=a
    ·subst q;rw[zp0]at z;cases z;exact h1
    ·rw[zb1 q]at z;exact s2 b o z
   ·have L:b≠a:=λz=>M (by simp[z]);rw[zb1 L];exact s3 b λz=>M (by simp[z])
 |_=>cases e
theorem ztf1{F H:Hp}(s:Same F H){v:V}{t:T}{d:D}(h:Rt K F H v t fp)(e:toD t=some d)(nd:fp.Nodup):∃F2,Same F F2/\Same F2 H/\(∀b,b ∉ fp->F2 b=F b)/\Is K F2 v d:=by
 cases h with
|fz i=>cases e;exact⟨F,λ_ _ z=>z,s,λ_ _=>rfl,i⟩
|li M L J =>
  cases e
  rename_i a xs ds
  have p:=zs1 (H:=F) L (.lst xs);refine⟨_,p,λb o z=>?_,λb G=>zb1 λq=>G (by simp[q]),.lst (SqL.of zp0) (J.mono p)⟩;by_cases q:b=a
  ·subst q;rw[zp0]at z;cases z;exact M
  ·rw[zb1 q]at z;exact s b o z
|ls M L J =>
  rename_i a xs ts fp
  unfold toD at e;obtain⟨dss,Z,rfl⟩:=w6.mp e;have B:=v9.mp nd;obtain⟨I,s1,s2,s3,S⟩:=zav s J Z B.2;have W:I a=none:=by rw[s3 a B.1];exact L
  have p:Same I (upd I a (.lst xs)):=zs1 W _;refine⟨upd I a (.lst xs),s1.trans p,λb o z=>?_,λb G=>?_,.lst (SqL.of zp0) (S.mono p)⟩
  ·by_cases q:b=a
   ·subst q;rw[zp0]at z;cases z;exact M
   ·rw[zb1 q]at z;exact s2 b o z
  ·have O:b≠a:=λz=>G (by simp[z]);rw[zb1 O];exact s3 b λz=>G (by simp[z])
|ob _ _ _ _ _=>cases e
|dk _ _ _=>cases e
|dt _ _ _=>cases e
|tp _ _ _=>cases e
def getP:T->Pth->Option T
|t,[]=>some t
|.ls ts,.ix j :: p=>(ts[j]?).bind λt=>getP t p
|.tp ts,.ix j :: p=>(ts[j]?).bind λt=>getP t p
|.ob _ fs,.fl f :: p=>(fs.lookup f).bind λt=>getP t p
|_,_=>none
theorem zca1{F H:Hp}{p:Pth}:∀{x:V}{t u:T}{fp:List aE},Rt K F H x t fp->getP t p=some u->∃v,At H x t p v u:=by
 induction p with
|nil=>intro x t u fp _ e;unfold getP at e;cases e;exact⟨x,.nil⟩
|cons q p O =>
  intro x t u fp h e;cases h with
 |ls J Z G =>
   cases q with
  |ix j =>
    unfold getP at e;obtain⟨M,z,L⟩:=uaM.mp e
    rename_i xs ts S
    have el:=G.len;have hj:j < ts.length:=by
     rcases wX j ts.length with y|y
     ·exact y
     ·rw[v8 y]at z;cases z
    obtain⟨y,B⟩:∃y,xs[j]?=some y:=⟨xs[j]'(by lia),u5 _⟩
    obtain⟨fA,fj,fB,_,hr,_⟩:=G.split B z;obtain⟨v,I⟩:=O hr L;exact⟨v,.ix J B z I⟩
  |fl f=>cases e
 |tp J Z G =>
   cases q with
  |ix j =>
    unfold getP at e;obtain⟨M,z,L⟩:=uaM.mp e
    rename_i xs ts S
    have el:=G.len;have hj:j < ts.length:=by
     rcases wX j ts.length with y|y
     ·exact y
     ·rw[v8 y]at z;cases z
    obtain⟨y,B⟩:∃y,xs[j]?=some y:=⟨xs[j]'(by lia),u5 _⟩
    obtain⟨fA,fj,fB,_,hr,_⟩:=G.split B z;obtain⟨v,I⟩:=O hr L;exact⟨v,.tx J B z I⟩
  |fl f=>cases e
 |ob J Z G h4 W =>
   cases q with
  |fl f =>
    unfold getP at e;obtain⟨M,z,L⟩:=uaM.mp e;obtain⟨y,B⟩:=(W.keys f).2.1 M z;obtain⟨fA,fj,fB,_,hr,_⟩:=W.split B z;obtain⟨v,I⟩:=O hr L;exact⟨v,.fl J B z I⟩
  |ix j=>cases e
 |fz _=>cases q <;> cases e
 |li _ _ _=>cases q <;> cases e
 |dk _ _ _=>cases q <;> cases e
 |dt _ _ _=>cases q <;> cases e
def fzS(U:DSt)(i:Nat)(p:Pth)(N:DSt->Prop):Prop:=match U[i]? with
|some (.ow t)=>∃u d,getP t p=some u/\toD u=some d/\N (U.set i (slot (setP t p (.fz d))))
|some (.sh _)=>N U
|_=>False
def dFrz(i:Nat)(p:Pth)(d:DS):DS:=λE U=>fzS U i p λU'=>d E U'
theorem RS.frz{B:Bs}{F H:Hp}{Y:_2.St}{U:DSt}{fps:Nat->List aE}{i:Nat}{p:Pth}{N:DSt->Prop}(r:RS K B F H Y U fps)(h:fzS U i p N):∃F2 Z G,RS K B F2 H Y Z G/\N Z:=by
 unfold fzS at h;split at h
 ·rename_i t q
  obtain⟨u,d,eg,ed,J⟩:=h;obtain⟨x,t',a1,a2,a3,a4,a5⟩:=r.rt i _ q rfl;cases a2;obtain⟨v,hv⟩:=zca1 a3 eg;obtain⟨fn,t1,h1,h2,h3,h4,back⟩:=r.put q rfl ⟨_,_,x,q,rfl,a1,hv⟩;cases h1;obtain⟨F2,s1,s2,s3,s4⟩:=ztf1 r.fh h2 ed h3;obtain⟨G,I,_⟩:=back (F2:=F2) (H2:=H) (fq:=[]) (λ_ _ _ z=>z) s1 s2 (λb _ fb L=>by rw[s3 b L];exact fb) (λ_ z=>z) (λb L _=>(r.fr i _ q rfl b (h4 b L)).elim id λz=>aN rfl (z.2 t)) (.fz s4) .nil (λb L=>by simp at L);have hw:(Sl.ow t).wth (setP t p (.fz d))=.ow (setP t p (.fz d)):=rfl;rw[hw]at I
  -- a slot whose whole is frozen becomes a plain one
  cases hs:setP t p (.fz d)with
 |fz d' =>
   rw[hs]at I J;obtain⟨x',t'',b1,b2,b3,b4,b5⟩:=I.rt i _ (xG (by
    rcases wX i U.length with z|z
    ·exact z
    ·rw[v8 z]at q;cases q)) rfl
   cases b2;obtain⟨d2,W,hi⟩:=zi51 (Q:=λz=>z=d') b3 rfl;subst W
   ·have S:=I.setS (i:=i) hi;rw[List.set_set]at S;have eY:Y.set i (some x')=Y:=by
     apply yD;intro j;rw[xX];by_cases O:i=j
     ·subst O;have M:i < Y.length:=by
       rw[r.len];rcases wX i U.length with z|z
       ·exact z
       ·rw[v8 z]at q;cases q
      simp[M];have:=zmb (F:=F) (H:=H) (U:=U) b1;rw[u5 M]at this;exact(wY.inj this).symm
     ·simp[O]
    rw[eY]at S;exact⟨F2,_,G,S,J⟩
 |li _=>rw[hs]at I J;exact⟨F2,_,G,I,J⟩
 |ls _=>rw[hs]at I J;exact⟨F2,_,G,I,J⟩
 |ob _ _=>rw[hs]at I J;exact⟨F2,_,G,I,J⟩
 |dk _=>rw[hs]at I J;exact⟨F2,_,G,I,J⟩
 |dt _=>rw[hs]at I J;exact⟨F2,_,G,I,J⟩
 |tp _=>rw[hs]at I J;exact⟨F2,_,G,I,J⟩
 ·exact⟨F,U,fps,r,h⟩
 ·exact h.elim
theorem zki(i:Nat)(p:Pth)(h:RfS K t d):RfS K t (dFrz i p d):=by
 intro B F H Y U fps E Z r hd k;obtain⟨F2,I,q,z,G⟩:=r.frz hd;exact h z G k
end
set_option genInjectivity true in
inductive Arg where
|d (d:D)|b (t:T)|o (t:T)
inductive ArgP where
|d (d:D)|b (i:Nat) (p:Pth) (t:T)|o (i:Nat) (p:Pth) (t:T)
def ArgP.arg:ArgP->Arg
|.d x=>.d x
|.b _ _ x=>.b x
|.o _ _ x=>.o x
inductive ArgsR(K:Fg)(F H:Hp):List V->List Arg->List aE->Option (aE×List aE)->Prop
|nil:ArgsR K F H [] [] [] none
|d {v:V} {d:D} {vs:List V} {as:List Arg} {bf:List aE} {oo:Option (aE×List aE)}:Is K F v d->ArgsR K F H vs as bf oo->ArgsR K F H (v :: vs) (.d d :: as) bf oo
|b {v:V} {t:T} {fp:List aE} {vs:List V} {as:List Arg} {bf:List aE} {oo:Option (aE×List aE)}:Rt K F H v t fp->fp.Nodup->ArgsR K F H vs as bf oo->ArgsR K F H (v :: vs) (.b t :: as) (fp++bf) oo
|o {a:aE} {t:T} {fp:List aE} {vs:List V} {as:List Arg} {bf:List aE}:Rt K F H (.ref a) t fp->fp.Nodup->ArgsR K F H vs as bf none->ArgsR K F H (.ref a :: vs) (.o t :: as) bf (some (a,fp))
def ofp:Option (aE×List aE)->List aE
|none=>[]
|some x=>x.2
structure Post(K:Fg)(F H:Hp)(oo:Option (aE×List aE))(F' H':Hp)(v:V)(r:T)(fpr:List aE)(t':T)(fpo:List aE):Prop where
 hh:∀b o,b ∉ ofp oo->H b=some o->H' b=some o
 ff:Same F F'
 fh:Same F' H'
 nw:∀b,H b≠none->F b=none->F' b=none
 al:∀b,H b≠none->H' b≠none
 rt:Rt K F' H' v r fpr
 nd:fpr.Nodup
 fr:∀a∈fpr,H a=none
 io:∀a fp,oo=some (a,fp)->Rt K F' H' (.ref a) t' fpo/\fpo.Nodup/\(∀b∈fpo,b∈fp \/ H b=none)/\∀b∈fpo,b ∉ fpr
abbrev DSpT:=List Arg->(T->T->Prop)->Prop
def spT(K:Fg)(p:DSpT):Sp:=λvs H Q _=>∃F as bf q Qd,Same F H/\ArgsR K F H vs as bf q/\(∀b∈ofp q,b ∉ bf)/\p as Qd/\∀r t',Qd r t'->∀v z H' fpr u,Post K F H q z H' v r fpr t' u->Q v H'
section
variable {K:Fg}{te ta ti tv:TE}{de da di dk:DE}{dc:DC}{tt:TT}{dt:DT}{t u tb:TS}{d e db:DS}{tA:TA}{dA:DF}{g:TG}{dg:DG}{n:Nat}{dp:DP}{w:aR}
inductive ArgsP(K:Fg)(F H:Hp)(Y:_2.St)(U:DSt):List V->List ArgP->Prop
|nil:ArgsP K F H Y U [] []
|d {v:V} {d:D} {vs:List V} {as:List ArgP}:Is K F v d->ArgsP K F H Y U vs as->ArgsP K F H Y U (v :: vs) (.d d :: as)
|b {v:V} {i:Nat} {p:Pth} {t:T} {vs:List V} {as:List ArgP}:AtS H Y U i p v t->ArgsP K F H Y U vs as->ArgsP K F H Y U (v :: vs) (.b i p t :: as)
|o {v:V} {i:Nat} {p:Pth} {t:T} {vs:List V} {as:List ArgP}:AtS H Y U i p v t->ArgsP K F H Y U vs as->ArgsP K F H Y U (v :: vs) (.o i p t :: as)
abbrev DAT:=DSt->(List ArgP->Prop)->Prop
def RfAT(K:Fg)(ta:TA)(da:DAT):Prop:=∀⦃F H:Hp⦄⦃Y:_2.St⦄⦃U:DSt⦄⦃Qd:List ArgP->Prop⦄⦃Q:List V->Hp->Prop⦄,Same F H->RV K F H Y U->da U Qd->(∀as,Qd as->∀vs p H',Ext F H p H'->ArgsP K p H' Y U vs as->Q vs H')->ta Y H Q
variable {dA':DAT}
def aNil:DAT:=λ_ Q=>Q []
def aD(de:DE)(p:DAT):DAT:=λU Q=>de U λx=>p U λas=>Q (.d x :: as)
def aB(dp:DP)(q:DAT):DAT:=λU Q=>dp U λi p t=>q U λas=>Q (.b i p t :: as)
def aO(dp:DP)(q:DAT):DAT:=λU Q=>dp U λi p t=>q U λas=>Q (.o i p t :: as)
theorem zx8:RfAT K tNil aNil:=λ_ _ _ _ _ _ s rv h k=>k _ h _ _ _ (Ext.refl s) .nil
theorem at_d(I:RfE K ta da)(hr:RfAT K tA dA'):RfAT K (zkm ta tA) (aD da dA'):=by
 walk_at"0";refine I s rv h λx G v L J p B=>hr p.fh (rv.ext p) G λas has vs F2 H2 q z=>?_;exact k _ has _ F2 H2 (p.trans q) (.d (B.mono q.f) z)
theorem at_b(J:RfP K ta dp)(hr:RfAT K tA dA'):RfAT K (zkm ta tA) (aB dp dA'):=by
 walk_at"0";refine J s rv h λi p t I v M L q G=>hr q.fh (rv.ext q) I λas has vs F2 H2 z B=>?_;exact k _ has _ F2 H2 (q.trans z) (.b (G.mono z.h) B)
theorem at_o(J:RfP K ta dp)(hr:RfAT K tA dA'):RfAT K (zkm ta tA) (aO dp dA'):=by
 walk_at"0";refine J s rv h λi p t I v M L q G=>hr q.fh (rv.ext q) I λas has vs F2 H2 z B=>?_;exact k _ has _ F2 H2 (q.trans z) (.o (G.mono z.h) B)
def noO:List ArgP->Prop
|[]=>True
|.o _ _ _ :: _=>False
|.d _ :: r=>noO r
|.b _ _ _ :: r=>noO r
def noS(i:Nat):List ArgP->Prop
|[]=>True
|.b j _ _ :: r=>j≠i/\noS i r
|.d _ :: r=>noS i r
|.o _ _ _ :: r=>noS i r
def zgs:List ArgP->Option (Nat×Pth×T)
|[]=>none
|.o i p t :: _=>some (i,p,t)
|.d _ :: r=>zgs r
|.b _ _ _ :: r=>zgs r
def oneO(i:Nat):List ArgP->Prop
|[]=>False
|.o _ _ _ :: r=>noO r/\noS i r
|.d _ :: r=>oneO i r
|.b j _ _ :: r=>j≠i/\oneO i r
def zm21(U:DSt)(i:Nat):Prop:=match U[i]? with
|some (.ow _)=>True
|some (.io _ _)=>True
|_=>False
def zlv:T->Prop
|.fz _=>False
|_=>True
theorem zfk{F H:Hp}{Y:_2.St}{U:DSt}{fps:Nat->List aE}(rt:∀{i:Nat}{p:Pth}{v:V}{u:T},AtS H Y U i p v u->∃fn,Rt K F H v u fn/\fn.Nodup/\∀a∈fn,a∈fps i/\∃s,U[i]?=some s/\s.has=true):∀{vs:List V}{as:List ArgP},ArgsP K F H Y U vs as->noO as->∃bf,ArgsR K F H vs (as.map ArgP.arg) bf none/\∀i,noS i as->∀b∈bf,∃j,j≠i/\b∈fps j/\∃s,U[j]?=some s/\s.has=true
|_,_,.nil,_=>⟨[],.nil,λi _ b q=>by simp at q⟩
|_,_,.d h r,hn=>by
  obtain⟨bf,G,B⟩:=zfk rt r hn;exact⟨bf,.d h G,B⟩
|_,_,.b (i:=J) h r,hn=>by
  obtain⟨bf,G,B⟩:=zfk rt r hn;obtain⟨fn,M,L,I⟩:=rt h;refine⟨fn++bf,.b M L G,λi hi b q=>?_⟩;rcases vV.mp q with z|z
  ·exact⟨J,hi.1,(I b z).1,(I b z).2⟩
  ·exact B i hi.2 b z
|_,_,.o h r,hn=>hn.elim
theorem zjh{F H:Hp}{Y:_2.St}{U:DSt}{fps:Nat->List aE}(rt:∀{i:Nat}{p:Pth}{v:V}{u:T},AtS H Y U i p v u->∃fn,Rt K F H v u fn/\fn.Nodup/\∀a∈fn,a∈fps i/\∃s,U[i]?=some s/\s.has=true){i:Nat}{p:Pth}{u:T}:∀{vs:List V}{as:List ArgP},ArgsP K F H Y U vs as->zgs as=some (i,p,u)->oneO i as->zlv u ->
  ∃a,AtS H Y U i p (.ref a) u/\∀fn,Rt K F H (.ref a) u fn->fn.Nodup->∃bf,ArgsR K F H vs (as.map ArgP.arg) bf (some (a,fn))/\∀b∈bf,∃j,j≠i/\b∈fps j/\∃s,U[j]?=some s/\s.has=true
|_,_,.nil,e,_,_=>by cases e
|_,_,.d h r,e,G,hf=>by
  obtain⟨a,O,M⟩:=zjh rt r e G hf;refine⟨a,O,λfn L S=>?_⟩;obtain⟨bf,B,q⟩:=M fn L S;exact⟨bf,.d h B,q⟩
|_,_,.b (i:=Z) h r,e,G,hf=>by
  obtain⟨a,O,M⟩:=zjh rt r e G.2 hf;obtain⟨fb,L,S,W⟩:=rt h;refine⟨a,O,λfn B q=>?_⟩;obtain⟨bf,J,I⟩:=M fn B q;refine⟨fb++bf,.b L S J,λb hb=>?_⟩;rcases vV.mp hb with z|z
  ·exact⟨Z,G.1,(W b z).1,(W b z).2⟩
  ·exact I b z
|_,_,.o h r,e,G,hf=>by
  cases e;obtain⟨bf,J,I⟩:=zfk rt r G.1;obtain⟨fn0,L,_,_⟩:=rt h;cases L with
 |fz _=>exact hf.elim
 |li _ _ _=>exact⟨_,h,λfn B q=>⟨bf,.o B q J,I i G.2⟩⟩
 |ls _ _ _=>exact⟨_,h,λfn B q=>⟨bf,.o B q J,I i G.2⟩⟩
 |ob _ _ _ _ _=>exact⟨_,h,λfn B q=>⟨bf,.o B q J,I i G.2⟩⟩
 |dk _ _ _=>exact⟨_,h,λfn B q=>⟨bf,.o B q J,I i G.2⟩⟩
 |dt _ _ _=>exact⟨_,h,λfn B q=>⟨bf,.o B q J,I i G.2⟩⟩
 |tp _ _ _=>exact⟨_,h,λfn B q=>⟨bf,.o B q J,I i G.2⟩⟩
theorem RS.rtS{B:Bs}{F H:Hp}(r:RS K B F H Y U fps){p:Pth}{v:V}{u:T}(h:AtS H Y U i p v u):∃fn,Rt K F H v u fn/\fn.Nodup/\∀a∈fn,a∈fps i/\∃s,U[i]?=some s/\s.has=true:=by
 obtain⟨s,t,x,I,G,L,J⟩:=h;by_cases q:s.has=true
 ·obtain⟨x',t',S,O,a3,a4,a5⟩:=r.rt i s I q;rw[L]at S;cases S;rw[G]at O;cases O;obtain⟨fn,g1,Z,W,_⟩:=zwb1 J a3 a5;exact⟨fn,g1,W,λa z=>⟨Z a z,s,I,q⟩⟩
 ·cases s with
 |sh d =>
   cases G;obtain⟨y,M,b2⟩:=r.sh i d I;rw[L]at M;cases M;cases J;exact⟨[],.fz b2,.nil,λa z=>by simp at z⟩
 |un=>cases G
 |ow _=>exact aN rfl q
 |bo _=>exact aN rfl q
 |io _ _=>exact aN rfl q
theorem zwy{p:Pth}{u z:T}{s:Sl}(hi:U[i]?=some s)(q:s.own=true)(B:s.tree=some z)(h:mutS U i p u N):N (U.set i (s.wth (setP z p u))):=by
 unfold mutS at h;rw[hi]at h;cases s with
|ow t=>cases B;exact h
|io a t=>cases B;exact h
|un=>cases q
|sh _=>cases q
|bo _=>cases q
def zt61(p:DSpT)(U:DSt)(as:List ArgP)(Q:T->DSt->Prop):Prop:=match zgs as with
|some (i,q,t)=>zm21 U i/\oneO i as/\zlv t/\p (as.map ArgP.arg) λr z=>mutS U i q z λU'=>Q r U'
|none=>noO as/\p (as.map ArgP.arg) λr _=>Q r U
theorem zev{B:Bs}{F H:Hp}{p:DSpT}{as:List ArgP}{Qd:T->DSt->Prop}{Q:VK}(r:RS K B F H Y U fps)(ha:ArgsP K F H Y U vs as)(hc:zt61 p U as Qd)
  (k:∀r U',Qd r U'->∀v L H' fps' fpr,Res K B L H' Y U' fps' v r fpr->Q v H'):spT K p vs H Q E:=by
 unfold zt61 at hc;split at hc
 ·rename_i i q t0 eo
  obtain⟨ho,h1,hf,hp⟩:=hc;obtain⟨s,hs,I⟩:∃s,U[i]?=some s/\s.own=true:=by
   unfold zm21 at ho;split at ho
   ·rename_i q;exact⟨_,q,rfl⟩
   ·rename_i q;exact⟨_,q,rfl⟩
   ·exact ho.elim
  obtain⟨a,hat,S⟩:=zjh (λh=>r.rtS h) ha eo h1 hf;obtain⟨fn,t1,g1,g2,g3,g4,back⟩:=r.put hs I hat;obtain⟨bf,m1,m2⟩:=S fn g2 g3;refine⟨F,_,bf,some (a,fn),_,r.fh,m1,λb G hbf=>?_,hp,λr2 t2 q2 v L H' fpr W post=>?_⟩
  ·obtain⟨j,hj,hbj,sj,e1,hh⟩:=m2 b hbf;exact r.dj i j s sj (λz=>hj z.symm) hs e1 I hh b (g4 b G) hbj
  ·obtain⟨io1,io2,io3,io4⟩:=post.io a fn rfl;obtain⟨Z,r2',e2,e3⟩:=back (F2:=L) (H2:=H') (u2:=t2) (fq:=W) post.hh post.ff post.fh (λb G fb _=>post.nw b G fb) post.al (λb G f=>aN (post.nw b (g2.dom b G).1 (g2.dom b G).2) f) io1 io2 (λb G=>(io3 b G).elim .inl λz=>.inr (r.newOk z));have qd:=zwy hs I g1 q2;refine k _ _ qd v L H' Z fpr ⟨r2',post.rt,post.nd,λb G=>(r.newOk (post.fr b G)).1,λj s' ej M b G J=>?_⟩;have fresh:=post.fr b J;by_cases O:j=i
   ·subst O;rcases e3 b G with z|z
    ·obtain⟨x',t',a1,a2,a3,a4,a5⟩:=r.rt j s hs (za9 I);exact(a3.dom b z).1 fresh
    ·exact io4 b z J
   ·rw[e2 j O]at G;rw[xS (λz=>O z.symm)]at ej;exact(r.newOk fresh).2 j s' ej M G
 ·rename_i eo
  obtain⟨hn,hp⟩:=hc;obtain⟨bf,m1,_⟩:=zfk (λh=>r.rtS h) ha hn;refine⟨F,_,bf,none,_,r.fh,m1,λb G=>by simp[ofp]at G,hp,λr2 t2 q2 v L H' fpr W post=>?_⟩;have ex:Ext F H L H':=⟨λb o G=>post.hh b o (by simp[ofp]) G,post.ff,post.fh,post.nw⟩
  exact k _ _ q2 v L H' fps fpr ⟨r.grow ex,post.rt,post.nd,λb G=>(r.newOk (post.fr b G)).1,λj s' ej M b G J=>(r.newOk (post.fr b J)).2 j s' ej M G⟩
def noM(m:Str)(u:T):Prop:=match u with
|.ob _ fs=>fs.lookup m=none
|_=>False
def zff1(o:Bool)(C:aE)(m:Str)(p:DSpT)(dp:DP)(da:DAT):DC:=λU Q=>dp U λi q u=>nCls C u/\noM m u/\da U λas=>zt61 p U ((if o then .o i q u else .b i q u) :: as) Q
theorem zkj{F H:Hp}{v:V}{u:T}(hr:Rt K F H v u fn)(p:nCls C u)(q:noM m u):∃a dx fs,v=.ref a/\H a=some (.ins C dx fs)/\fs.lookup m=none:=by
 cases hr with
|ob B J I G z =>
  cases (show _=C from p);exact⟨_,_,_,rfl,B,(z.keys m).1 q⟩
|fz _=>exact p.elim
|li _ _ _=>exact p.elim
|ls _ _ _=>exact p.elim
|dk _ _ _=>exact p.elim
|dt _ _ _=>exact p.elim
|tp _ _ _=>exact p.elim
theorem zda{p:DSpT}(o:Bool)(O:RfP K ta dp)(h:RfAT K tA dA'):RfC K (zl21 C m (spT K p) [] E ta tA) (zff1 o C m p dp dA'):=by
 walk_at"9";refine O r.fh r.rv hd λi q u J v F1 H1 Z I=>?_;have z:=r.grow Z;obtain⟨fn,hr⟩:=I.rt z.rv;obtain⟨a,dx,fs,rfl,W,S⟩:=zkj hr J.1 J.2.1;refine⟨a,dx,fs,rfl,W,S,h z.fh z.rv J.2.2 λas has vs F2 H2 L M=>?_⟩;rw[wQ];have G:=I.mono L.h;cases o with
|true=>exact zev (z.grow L) (.o G M) has k
|false=>exact zev (z.grow L) (.b G M) has k
def zs21(p:DSpT)(as:List ArgP)(Q:T->Prop):Prop:=noO as/\p (as.map ArgP.arg) λr _=>Q r
theorem AtS.rtV{F H:Hp}(r:RV K F H Y U){p:Pth}{v:V}{u:T}(h:AtS H Y U i p v u):∃fn,Rt K F H v u fn/\fn.Nodup:=by
 obtain⟨s,t,x,G,B,z,q⟩:=h;obtain⟨y,fp,e,hr,nd⟩:=(r.sl i s G).rt B;rw[z]at e;cases e;obtain⟨fn,J,_,I,_⟩:=zwb1 q hr nd;exact⟨fn,J,I⟩
theorem zvj{F H:Hp}{Y:_2.St}{U:DSt}(r:RV K F H Y U):∀{vs:List V}{as:List ArgP},ArgsP K F H Y U vs as->noO as->∃bf,ArgsR K F H vs (as.map ArgP.arg) bf none
|_,_,.nil,_=>⟨[],.nil⟩
|_,_,.d h q,hn=>by
  obtain⟨bf,p⟩:=zvj r q hn;exact⟨bf,.d h p⟩
|_,_,.b h q,hn=>by
  obtain⟨bf,p⟩:=zvj r q hn;obtain⟨fn,B,z⟩:=h.rtV r;exact⟨fn++bf,.b B z p⟩
|_,_,.o h r,hn=>hn.elim
theorem zvq{F H:Hp}{p:DSpT}{as:List ArgP}{Qd:T->Prop}{Q:VK}(s:Same F H)(r:RV K F H Y U)(J:ArgsP K F H Y U vs as)(B:zs21 p as Qd)
  (k:∀r,Qd r->∀v q H' fp,Ext F H q H'->Rt K q H' v r fp->fp.Nodup->(∀a∈fp,H a=none)->Q v H'):spT K p vs H Q E:=by
 obtain⟨bf,I⟩:=zvj r J B.1;refine⟨F,_,bf,none,_,s,I,λb z=>by simp[ofp]at z,B.2,λO M G v q H' fpr L post=>?_⟩;exact k _ G v q H' fpr ⟨λb o z=>post.hh b o (by simp[ofp]) z,post.ff,post.fh,post.nw⟩ post.rt post.nd post.fr
def zld1(p:DSpT)(da:DAT):DN:=λU Q=>da U λas=>zs21 p as Q
def zgf1(C:aE)(m:Str)(p:DSpT)(dp:DP)(da:DAT):DN:=λU Q=>dp U λi q u=>nCls C u/\noM m u/\da U λas=>zs21 p (.b i q u :: as) Q
theorem zw71{p:DSpT}(h:RfAT K tA dA'):RfN K (zk21 (spT K p) [] E tA) (zld1 p dA'):=by
 walk_at"2";refine h s rv hd λas has vs W S z B=>?_;rw[wQ];exact zvq z.fh (rv.ext z) B has λr q v O H' fp M L J I=>k r q v O H' fp (z.trans M) L J λa G=>zk2 z (I a G)
theorem zj51{p:DSpT}(W:RfP K ta dp)(h:RfAT K tA dA'):RfN K (zl21 C m (spT K p) [] E ta tA) (zgf1 C m p dp dA'):=by
 walk_at"2";refine W s rv hd λi q u I v F1 H1 O G=>?_;have B:=rv.ext O;obtain⟨fn,hr⟩:=G.rt B;obtain⟨a,dx,fs,rfl,L,J⟩:=zkj hr I.1 I.2.1;refine⟨a,dx,fs,rfl,L,J,h O.fh B I.2.2 λas has vs F2 H2 M S=>?_⟩;rw[wQ];have z:=O.trans M;exact zvq M.fh (rv.ext z) (.b (G.mono M.h) S) has λr q v F' H' fp e3 L J h3=>k r q v F' H' fp (z.trans e3) L J λa Z=>zk2 z (h3 a Z)
def eN(p:DN):DE:=λU Q=>p U λr=>fzT r Q
theorem RfN.ex{p:DN}(h:RfN K te p):RfE K te (eN p):=λ_ _ _ _ _ _ s rv hd k=>h s rv hd λr q v I H' fp G B L J=>by
 obtain⟨d,z,i⟩:=zi51 B q;exact k d z v I H' G i
def zdf1(C:aE)(p:DSpT)(da:DAT):DN:=λU Q=>da U λas=>noO as/\p (.o (.ob C []) :: as.map ArgP.arg) λr q=>(match r with|.fz .none=>True|_=>False)/\Q q
theorem zdk{p:DSpT}(h:RfAT K tA dA'):RfN K (zr91 C (spT K p) [] E tA) (zdf1 C p dA'):=by
 walk_at"2";refine h s rv hd λas has vs L I O i1=>?_;intro x dx M B W;obtain⟨bf,m1⟩:=zvj (rv.ext O) i1 has.1;have hH:∀b,b≠x->b≠dx->upd (upd I dx (.own x)) x (.ins C dx []) b=I b:=λb J h2=>by rw[zb1 J,zb1 h2]
 have s2:Same I (upd (upd I dx (.own x)) x (.ins C dx [])):=λb o z=>by
  rw[hH b (λq=>by subst q;rw[M]at z;cases z) (λq=>by subst q;rw[B]at z;cases z)];exact z
 have fx:L x=none:=by
  cases q:L x with
 |none=>rfl
 |some o=>rw[O.fh x o q]at M;cases M
 have fdx:L dx=none:=by
  cases q:L dx with
 |none=>rfl
 |some o=>rw[O.fh dx o q]at B;cases B
 have m2:ArgsR K L (upd (upd I dx (.own x)) x (.ins C dx [])) vs (as.map ArgP.arg) bf none/\∀b∈bf,I b≠none:=by
  have key:∀{vs:List V}{as:List Arg}{bf:List aE}{Z:Option (aE×List aE)},ArgsR K L I vs as bf Z->Z=none->ArgsR K L (upd (upd I dx (.own x)) x (.ins C dx [])) vs as bf none/\∀b∈bf,I b≠none:=λ{vs as bf Z} hh=>by
   induction hh with
  |nil=>intro _;exact⟨.nil,λb G=>by simp at G⟩
  |d J _ S=>intro e;exact⟨.d J (S e).1,(S e).2⟩
  |b J h2 _ S =>
    intro e;refine⟨.b (J.frame (λ_ _ z=>z) λb G=>⟨?_,(J.dom b G).2⟩) h2 (S e).1,λb G=>?_⟩
    ·exact hH b (λq=>by subst q;exact(J.dom b G).1 M) (λq=>by subst q;exact(J.dom b G).1 B)
    ·rcases vV.mp G with z|z
     ·exact(J.dom b z).1
     ·exact(S e).2 b z
  |o _ _ _ _=>intro e;cases e
  exact key m1 rfl
 refine⟨L,_,bf,some (x,[x,dx]),_,O.fh.trans s2,.o (.ob zp0 (by rw[zb1 W,zp0]) fx fdx .nil) (by simp[Ne.symm W]) (by rw[wQ];exact m2.1),λb G hbf=>?_,has.2,λr t2 q2 v F' H' fpr fpo post=>?_⟩
 ·have:=m2.2 b hbf;simp[ofp]at G;rcases G with z|z
  ·exact this (by rw[z];exact M)
  ·exact this (by rw[z];exact B)
 ·obtain⟨q0,q1⟩:=q2;obtain⟨io1,io2,io3,io4⟩:=post.io x [x,dx] rfl;refine⟨?_,k _ q1 (.ref x) F' H' fpo (O.trans ⟨λb o z=>?_,post.ff,post.fh,λb G fb=>post.nw b (λz=>?_) fb⟩) io1 io2 λb G=>zk2 O ?_⟩
  ·split at q0
   ·cases post.rt with
   |fz i=>exact i.non_inv
   ·exact q0.elim
  ·refine post.hh b o (λw=>?_) (s2 b o z);simp[ofp]at w;rcases w with w|w
   ·rw[w,M]at z;cases z
   ·rw[w,B]at z;cases z
  ·cases q:I b with
  |none=>exact G q
  |some o=>rw[s2 b o q]at z;cases z
  ·rcases io3 b G with z|z
   ·simp at z;rcases z with z|z
    ·rw[z];exact M
    ·rw[z];exact B
   ·cases q:I b with
   |none=>rfl
   |some o=>rw[s2 b o q]at z;cases z
end
section
variable {P:aQ}{w:aR}{K:Fg}{mg:Str->Option aC}{base:aX}
def ztb1(a:aE):Arg->Sl
|.d x=>.sh x
|.b x=>.bo x
|.o x=>.io a x
def zrk(N:List Str)(a:aE)(as:List Arg):DSt:=as.map (ztb1 a)++vU (N.length - as.length) .un
def oIx:List Arg->Option Nat
|[]=>none
|.o _ :: _=>some 0
|.d _ :: r=>(oIx r).map (·+1)
|.b _ :: r=>(oIx r).map (·+1)
def exA(as:List Arg)(a:aE)(Qd:T->T->Prop)(r:T)(U:DSt):Prop:=match oIx as with
|none=>Qd r (.fz .none)
|some k=>∃t',U[k]?=some (.io a t')/\Qd r t'
def zo81(as:List Arg)(a:aE)(Qd:T->T->Prop):DEnds:={ nx:=exA as a Qd (.fz .none),rt:=exA as a Qd }
theorem zdf{F H:Hp}:∀{vs:List V}{as:List Arg}{bf:List aE}{M:Option (aE×List aE)},ArgsR K F H vs as bf M->vs.length=as.length/\∃fl:Nat->List aE,
  (∀(k:Nat) x,as[k]?=some (.d x)->∃v,vs[k]?=some v/\Is K F v x) /\
  (∀(k:Nat) x,as[k]?=some (.b x)->∃v,vs[k]?=some v/\Rt K F H v x (fl k)/\(fl k).Nodup/\∀b∈fl k,b∈bf) /\
  (∀(k:Nat) x,as[k]?=some (.o x)->∃a,vs[k]?=some (.ref a)/\M=some (a,fl k)/\Rt K F H (.ref a) x (fl k)/\(fl k).Nodup/\oIx as=some k)/\(M=none->oIx as=none)/\(∀a fp,M=some (a,fp)->∃k x,as[k]?=some (.o x)/\fl k=fp/\oIx as=some k)
|_,_,_,_,.nil=>⟨rfl,λ_=>[],λk x e=>by simp at e,λk x e=>by simp at e,λk x e=>by simp at e,λ_=>rfl,λa fp e=>by cases e⟩
|_,_,_,_,.d h r=>by
  obtain⟨hl,fl,J,I,G,S,O⟩:=zdf r;refine⟨by simp[hl],λk=>fl (k - 1),λk x e=>?_,λk x e=>?_,λk x e=>?_,λe=>?_,λa fp e=>?_⟩
  ·cases k with
  |zero=>simp at e;subst e;exact⟨_,rfl,h⟩
  |succ k=>obtain⟨v,q,p⟩:=J k x (by simpa using e);exact⟨v,by simpa using q,p⟩
  ·cases k with
  |zero=>simp at e
  |succ k=>obtain⟨v,q,p⟩:=I k x (by simpa using e);exact⟨v,by simpa using q,p⟩
  ·cases k with
  |zero=>simp at e
  |succ k=>obtain⟨v,q,p,u,z,W⟩:=G k x (by simpa using e);exact⟨v,by simpa using q,p,u,z,by simp[oIx,W]⟩
  ·simp[oIx,S e]
  ·obtain⟨k,x,q,p,u⟩:=O a fp e;exact⟨k+1,x,by simpa using q,p,by simp[oIx,u]⟩
|_,_,_,_,.b (fp:=fp) (bf:=bf) h nd r=>by
  obtain⟨hl,fl,J,I,G,S,O⟩:=zdf r;refine⟨by simp[hl],λk=>if k=0 then fp else fl (k - 1),λk x e=>?_,λk x e=>?_,λk x e=>?_,λe=>?_,λa L e=>?_⟩
  ·cases k with
  |zero=>simp at e
  |succ k=>obtain⟨v,q,p⟩:=J k x (by simpa using e);exact⟨v,by simpa using q,p⟩
  ·cases k with
  |zero=>simp at e;subst e;exact⟨_,rfl,h,nd,λb B=>by simp at B ⊢;exact .inl B⟩
  |succ k=>obtain⟨v,q,p,u,z⟩:=I k x (by simpa using e);exact⟨v,by simpa using q,p,u,λb B=>by have:=z b (by simpa using B);simp[this]⟩
  ·cases k with
  |zero=>simp at e
  |succ k=>obtain⟨v,q,p,u,z,W⟩:=G k x (by simpa using e);exact⟨v,by simpa using q,p,u,z,by simp[oIx,W]⟩
  ·simp[oIx,S e]
  ·obtain⟨k,x,q,p,u⟩:=O a L e;exact⟨k+1,x,by simpa using q,by simpa using p,by simp[oIx,u]⟩
|_,_,_,_,.o (a:=a) (fp:=fp) h nd r=>by
  obtain⟨hl,fl,J,I,G,S,O⟩:=zdf r;refine⟨by simp[hl],λk=>if k=0 then fp else fl (k - 1),λk x e=>?_,λk x e=>?_,λk x e=>?_,λe=>(by cases e),λZ L e=>?_⟩
  ·cases k with
  |zero=>simp at e
  |succ k=>obtain⟨v,q,p⟩:=J k x (by simpa using e);exact⟨v,by simpa using q,p⟩
  ·cases k with
  |zero=>simp at e
  |succ k=>obtain⟨v,q,p,u,z⟩:=I k x (by simpa using e);exact⟨v,by simpa using q,p,u,λb B=>z b (by simpa using B)⟩
  ·cases k with
  |zero=>simp at e;subst e;exact⟨a,rfl,rfl,h,nd,rfl⟩
  |succ k =>
    obtain⟨v,q,p,u,z,W⟩:=G k x (by simpa using e);cases p
  ·cases e;exact⟨0,_,rfl,rfl,rfl⟩
theorem zm8{N:List Str}{k:Nat}{p:DSpT}
  (body:∀(f:aE)(cdv:aC)(A:bB)(outer:List Env)(s:aH)(H:Hp)(E:XK),Room k (A.deeper (dJ qual (zh0 st) s.heap.objs.size f cdv))->∃t d,PSs (cxOf CX0 P w K mg base N qual (zh0 st) f cdv A outer s H E).nox (zw2 st) t/\RfS K t d/\∀as Qd a,p as Qd->d (zo81 as a Qd) (zrk N a as)) :
  zd8 P w K mg base qual st N k (spT K p):=by
 walk_at"14";obtain⟨F,as,bf,oo,Qd,sf,ha,hd,hp,hq⟩:=h;obtain⟨t,d,h1,h2,h3⟩:=body f cdv A outer s H E hr;obtain⟨hl,fl,a1,a2,a3,a4,a5⟩:=zdf ha;obtain⟨a,haa⟩:∃a:aE,∀I fp,oo=some (I,fp)->I=a:=by
  cases oo with
 |none=>exact⟨0,λI fp e=>by cases e⟩
 |some x=>exact⟨x.1,λI fp e=>by cases e;rfl⟩
 have slot:∀(i:Nat) sl,(zrk N a as)[i]?=some sl->(sl=.un/\as.length<=i) \/ ∃g,as[i]?=some g/\sl=ztb1 a g:=λi sl e=>by
  unfold zrk at e;by_cases hi:i < as.length
  ·rw[wU (by simpa using hi),u9]at e;obtain⟨g,h1,h2⟩:=w6.mp e;exact .inr ⟨g,h1,h2.symm⟩
  ·rw[wR (by simpa using hi),xH]at e;split at e
   ·cases e;exact .inl ⟨rfl,by lia⟩
   ·cases e
 have val:∀(i:Nat) v,vs[i]?=some v->(_2.start N vs).getD i none=some v:=λi v e=>by
  have hi:i < vs.length:=by
   rcases wX i vs.length with z|z
   ·exact z
   ·rw[v8 z]at e;cases e
  unfold _2.start;rw[wD,wU (by simpa using hi),u9,e];rfl
 have rs:RS K ⟨F,H,ofp oo⟩ F H (_2.start N vs) (zrk N a as) fl:=by
  refine⟨λb o _ z=>z,λ_ _ z=>z,sf,λb _ z=>z,λb z=>z,by simp[_2.start,zrk,hl],λi x e=>?_,λi sl e hs=>?_,λi sl e ho b Z=>?_,λi j sl sl' hij W G o1 o2 b Z hb2=>?_⟩
  ·rcases slot i _ e with⟨z,_⟩|⟨g,W,G⟩
   ·cases z
   ·cases g with
   |d B=>cases G;obtain⟨v,S,L⟩:=a1 i x W;exact⟨v,val i v S,L⟩
   |b _=>cases G
   |o _=>cases G
  ·rcases slot i _ e with⟨z,_⟩|⟨g,W,G⟩
   ·rw[z]at hs;cases hs
   ·cases g with
   |d B=>rw[G]at hs;cases hs
   |b B =>
     obtain⟨v,S,L,O,g4⟩:=a2 i B W;rw[G];exact⟨v,B,val i v S,rfl,L,λa u z=>(by cases z),O⟩
   |o B =>
     obtain⟨I,S,L,O,g4,g5⟩:=a3 i B W;have:=haa I _ L;subst this;rw[G];exact⟨_,B,val i _ S,rfl,O,λa u z=>(by cases z;rfl),g4⟩
  ·rcases slot i _ e with⟨z,_⟩|⟨g,W,G⟩
   ·rw[z]at ho;cases ho
   ·cases g with
   |d B=>rw[G]at ho;cases ho
   |b B=>rw[G]at ho;cases ho
   |o B =>
     obtain⟨I,S,L,O,g4,g5⟩:=a3 i B W;refine .inr ⟨?_,λt z=>?_⟩
     ·show b∈ofp oo;rw[L];exact Z
     ·rw[G]at z;cases z
  ·rcases slot i _ W with⟨z,_⟩|⟨g,f1,f2⟩
   ·rw[z]at o1;cases o1
   ·cases g with
   |d B=>rw[f2]at o1;cases o1
   |b B=>rw[f2]at o1;cases o1
   |o B =>
     obtain⟨I,S,L,O,g4,g5⟩:=a3 i B f1;rcases slot j _ G with⟨z,_⟩|⟨g',f1',f2'⟩
     ·rw[z]at o2;cases o2
     ·cases g' with
     |d M=>rw[f2']at o2;cases o2
     |b M =>
       obtain⟨v,k1,k2,k3,k4⟩:=a2 j M f1';exact hd b (by rw[L];exact Z) (k4 b hb2)
     |o M =>
       obtain⟨a'',k1,k2,k3,k4,k5⟩:=a3 j M f1';rw[g5]at k5;exact hij (wY.inj k5)
 have fin:∀{F' H':Hp}{Y':_2.St}{U':DSt}{J:Nat->List aE}{v:V}{r:T}{fpr:List aE},Res K ⟨F,H,ofp oo⟩ F' H' Y' U' J v r fpr->exA as a Qd r U'->Q v H':=λ{F' H' Y' U' J v r fpr} res ex=>by
  unfold exA at ex;split at ex
  ·rename_i eo
   refine hq r (.fz .none) ex v F' H' fpr [] ⟨res.rs.hh,res.rs.ff,res.rs.fh,res.rs.nw,res.rs.al,res.rt,res.nd,res.fr,λI fp e=>?_⟩;obtain⟨k,x,S,L,O⟩:=a5 I fp e;rw[eo]at O;cases O
  ·rename_i ko eo
   obtain⟨t',et,qd⟩:=ex;obtain⟨B,t'',b1,b2,b3,b4,b5⟩:=res.rs.rt ko _ et rfl;cases b2;have:=b4 a t' rfl;subst this;refine hq r t' qd v F' H' fpr (J ko) ⟨res.rs.hh,res.rs.ff,res.rs.fh,res.rs.nw,res.rs.al,res.rt,res.nd,res.fr,λI fp e=>?_⟩;have ea:=haa I fp e;subst ea;refine⟨b3,b5,λb Z=>?_,λb Z=>res.dj ko _ et rfl b Z⟩;rcases res.rs.fr ko _ et rfl b Z with z|⟨z,_⟩
   ·exact .inr z
   ·have:b∈ofp oo:=z;rw[e]at this;exact .inl this
 refine⟨t,h1,h2 rs (h3 as Qd a hp) ⟨λr q=>fin ⟨r,.fz .non,.nil,λa ha=>by simp at ha,λ_ _ _ _ a _ ha=>by simp at ha⟩ q,λ_ z=>z.elim,λ_ z=>z.elim,λres q=>fin res q⟩⟩
theorem zfy{F H:Hp}{as:List Arg}{bf:List aE}{p:Option (aE×List aE)}(h:ArgsR K F H vs as bf p):vs.length=as.length:=(zdf h).1
theorem zti{p:DSpT}(h:∀as Qd,p as Qd->as.length=ps.length):∀vs H Q E,spT K p vs H Q E->vs.length=ps.length:=λvs H Q E z=>by
 obtain⟨F,as,bf,B,Qd,_,u,_,q,_⟩:=z;rw[zfy u];exact h as Qd q
def zrd(N:List Str)(ds:List D):DSt:=ds.map Sl.sh++vU (N.length - ds.length) .un
def rD(Qd:D->Prop)(r:T)(_:DSt):Prop:=match r with
|.fz d=>Qd d
|.li ds=>Qd (.list ds)
|.ls ts=>∃d,toD (.ls ts)=some d/\Qd d
|_=>False
theorem zc81{Qd:D->Prop}{r:T}(h:rD Qd r U):∃d,toD r=some d/\Qd d:=by
 cases r with
|fz d=>exact⟨d,rfl,h⟩
|li ds=>exact⟨_,rfl,h⟩
|ls ts=>exact h
|ob _ _=>exact h.elim
|dk _=>exact h.elim
|dt _=>exact h.elim
|tp _=>exact h.elim
theorem zin{F H:Hp}{N:List Str}{ds:List D}(s:Same F H)(h:IsAll K F vs ds):RS K ⟨F,H,[]⟩ F H (_2.start N vs) (zrd N ds) (λ_=>[]):=by
 have I:=h.dlen;have no:∀(i:Nat) sl,(zrd N ds)[i]?=some sl->sl.has=true->False:=λi sl e p=>by
  unfold zrd at e;by_cases hi:i < ds.length
  ·rw[wU (by simpa using hi),u9]at e;obtain⟨x,_,z⟩:=w6.mp e;subst z;cases p
  ·rw[wR (by simpa using hi),xH]at e;split at e
   ·cases e;cases p
   ·cases e
 refine⟨λb o _ z=>z,λ_ _ z=>z,s,λb _ z=>z,λb z=>z,by simp[_2.start,zrd,I],λi x e=>?_,λi sl e p=>(no i sl e p).elim,λi sl e G=>(no i sl e (za9 G)).elim,λi j sl J _ e _ o _=>(no i sl e (za9 o)).elim⟩;unfold zrd at e;unfold _2.start;by_cases hi:i < ds.length
 ·rw[wU (by simpa using hi),u9]at e;obtain⟨y,u,z⟩:=w6.mp e;cases z;obtain⟨v,B,q⟩:=h.dget u;refine⟨v,?_,q⟩;rw[wD,wU (by simp;lia),u9,B];rfl
 ·rw[wR (by simpa using hi),xH]at e;split at e <;> cases e
theorem zrf1{u q F H:Hp}{v:V}{r:T}{d:D}(res:Res K ⟨u,q,[]⟩ F H Y U fps v r fpr)(e:toD r=some d):∃B,Ext u q B H/\Is K B v d:=by
 obtain⟨F2,s1,s2,s3,G⟩:=ztf1 res.rs.fh res.rt e res.nd;refine⟨F2,⟨λb o z=>res.rs.hh b o (by simp) z,res.rs.ff.trans s1,s2,λb p I=>?_⟩,G⟩;have:b ∉ fpr:=λz=>p (res.fr b z);rw[s3 b this];exact res.rs.nw b p I
theorem zo2{N:List Str}{k:Nat}{p:DSp}
  (body:∀(f:aE)(cdv:aC)(A:bB)(outer:List Env)(s:aH)(H:Hp)(E:XK),Room k (A.deeper (dJ qual (zh0 st) s.heap.objs.size f cdv))->∃t d,PSs (cxOf CX0 P w K mg base N qual (zh0 st) f cdv A outer s H E).nox (zw2 st) t/\RfS K t d/\∀ds Qd,p ds Qd->d { nx:=λ_=>Qd .none,rt:=rD Qd } (zrd N ds)) :
  zd8 P w K mg base qual st N k (spD K p):=by
 walk_at"14";obtain⟨F,ds,Qd,B,i,G,u⟩:=h;obtain⟨t,d,L,J,I⟩:=body f cdv A outer s H E hr;refine⟨t,L,J (zin B i) (I ds Qd G) ⟨λr q=>u _ q _ _ _ ⟨λb o z=>r.hh b o (by simp) z,r.ff,r.fh,r.nw⟩ .non,λ_ z=>z.elim,λ_ z=>z.elim,λres q=>?_⟩⟩;obtain⟨d',O,M⟩:=zc81 (U:=[]) q;obtain⟨S,ex,is⟩:=zrf1 res O;exact u _ M _ _ _ ex is
theorem za61{F:Hp}{ds:List D}(h:IsAll K F vs ds):vs.length=ds.length:=h.dlen
theorem zba{p:DSp}(h:∀ds Qd,p ds Qd->ds.length=ps.length):∀vs H Q E,spD K p vs H Q E->vs.length=ps.length:=λvs H Q E z=>by
 obtain⟨F,ds,Qd,_,i,q,_⟩:=z;rw[za61 i];exact h ds Qd q
theorem zxv{F:Hp}:∀ns:List Int,IsAll K F (ns.map V.int) (ns.map u6)
|[]=>.nil
|n :: r=>.cons (.int n) (zxv r)
theorem zsg1{N:List Str}{k:Nat}{B:aE}(M:Md K mg)(T:TopDef K "law" st)(p:mg "law"=some (.ref B))(S:FnScope N ["script"] (zh0 st))(J:zta "law" "law" st ["script"])
  (body:∀base:aX,K.In base->base.Ns aT mg->∀(f:aE)(cdv:aC)(A:bB)(outer:List Env)(s:aH)(H:Hp)(E:XK),Room k (A.deeper (dJ "law" (zh0 st) s.heap.objs.size f cdv)) ->
   ∃t d,PSs (cxOf CX0 P w K mg base N "law" (zh0 st) f cdv A outer s H E).nox (zw2 st) t/\RfS K t d/\∀(ns:List Int)(Qd:D->Prop),ns.length<=63->Qd (.bool true)->d { nx:=λ_=>Qd .none,rt:=rD Qd } (zrd N [.list (ns.map .int)])) :
  ∃u:cZ,(∀(s:aH)(v:aC),e7 s u ⟨[v],[]⟩ [("script",v)])/\∀base:aX,K.In base->base.Ns aT mg->FnOk P w K mg base CX0 (k+1) B u ["script"] (zh81 K):=by
 refine zh91 M T p S J (λvs H Q E h=>by obtain⟨a,ns,rfl,_⟩:=h;rfl) λbase G nb=>?_;walk_at"14";obtain⟨a,ns,rfl,L,hl,I⟩:=h;obtain⟨t,d,Z,W,O⟩:=body base G nb f cdv A outer s H E hr;refine⟨t,Z,W (zin (F:=H) (λ_ _ z=>z) (.cons (.lst L (zxv ns)) .nil)) (O ns (λd=>d=.bool true) hl rfl) ⟨λr q=>(by cases q),λ_ z=>z.elim,λ_ z=>z.elim,λres q=>?_⟩⟩;obtain⟨d',e1,e2⟩:=zc81 (U:=[]) q;obtain⟨F',ex,is⟩:=zrf1 res e1;subst e2;cases is;exact I _
end
variable {E:DEnds}{U:DSt}{a b:DS}{de:DE}{dg:DG}{ix:List Nat}{n:Nat}
section
variable {K:Fg}{tA:TA}{dA:DF}
def zzc1:List D->(D->Prop)->Prop
|[.int i,.int j],Q=>Q (.int (if j < i then j else i))
|_,_=>False
theorem zqa1:CB K (λxs H Q=>∃i j,xs=[V.int i,V.int j]/\Q (V.int (if j < i then j else i)) H) zzc1:=by
 intro F H vs ds Qd Q s p h k;unfold zzc1 at h;split at h
 ·obtain⟨v,u,rfl,z,q⟩:=vw2 p;cases z.int;cases q.int;exact⟨_,_,rfl,k _ h _ F H (Ext.refl s) (.int _)⟩
 ·exact h.elim
end
theorem e_dF(df:DF)(U:DSt)(Q:D->Prop):dF df U Q=( df U λds=>Q (.list ds)):=rfl
theorem e_dC(d:D)(p:DSt)(Q:D->Prop):dC d p Q=( Q d):=rfl
theorem zob1(f:D->D->(D->Prop)->Prop)(q p:DE)(U:DSt)(Q:D->Prop):dOp f q p U Q=( q U λx=>p U λy=>f x y Q):=rfl
theorem zqy(df:DF)(p:DE)(U:DSt)(Q:List D->Prop):dRep df p U Q=( df U λds=>p U λy=>fRep ds y Q):=rfl
theorem zf91(f:D->(D->Prop)->Prop)(p:DE)(U:DSt)(Q:D->Prop):dUn f p U Q=( p U λx=>f x Q):=rfl
theorem zqq(p:DE)(U:DSt)(Q:D->Prop):zsd1 p U Q=( p U λx=>fB x λb=>Q (.bool (!b))):=rfl
theorem zpo(q p:DE)(U:DSt)(Q:D->Prop):zkf1 q p U Q=( q U λx=>fB x λb=>if b=true then p U Q else Q (.bool false)):=rfl
theorem zum(de:DE)(U:DSt)(Q:Bool->Prop):zof1 de U Q=( de U λd=>fB d Q):=rfl
theorem zvy(de:DE)(U:DSt)(Q:Bool->Prop):dTru de U Q=( de U λd=>fTru d Q):=rfl
theorem za11(dt p:DT)(U:DSt)(Q:Bool->Prop):dAnd dt p U Q=( dt U λb=>if b=true then p U Q else Q false):=rfl
theorem zmc1(dt p:DT)(U:DSt)(Q:Bool->Prop):dOr dt p U Q=( dt U λb=>if b=true then Q true else p U Q):=rfl
theorem zfx(dt:DT)(U:DSt)(Q:Bool->Prop):dNot dt U Q=( dt U λb=>Q (!b)):=rfl
theorem zv01(dt:DT)(q p:DE)(U:DSt)(Q:D->Prop):dIfE dt q p U Q=( dt U λb=>if b=true then q U Q else p U Q):=rfl
theorem zhz(p:DSt)(Q:List D->Prop):dNil p Q=( Q []):=rfl
theorem zzr(q:DE)(p:DF)(U:DSt)(Q:List D->Prop):zv81 q p U Q=( q U λx=>p U λxs=>Q (x :: xs)):=rfl
theorem zty(p:DF)(U:DSt)(Q:D->Prop):dTup p U Q=( p U λxs=>xs.length<=sizeLine/\Q (.tuple xs)):=rfl
theorem zmy(p:DF)(U:DSt)(Q:List D->Prop):dLst p U Q=( p U λxs=>xs.length<=sizeLine/\Q xs):=rfl
theorem zyo(p:DSp)(q:DF)(U:DSt)(Q:D->Prop):zae1 p q U Q=( q U λds=>p ds Q):=rfl
theorem zla1(f:List D->(D->Prop)->Prop)(p:DF)(U:DSt)(Q:D->Prop):dCB f p U Q=( p U λds=>f ds Q):=rfl
theorem zga1(f:List D->(List D->Prop)->Prop)(p:DF)(U:DSt)(Q:List D->Prop):dCF f p U Q=( p U λds=>f ds Q):=rfl
theorem zua1(T:String)(p:DE)(U:DSt)(Q:D->Prop):dIs T p U Q=( p U λd=>(∀kvs,d≠.dict kvs)/\Q (.bool (isT T d))):=rfl
theorem zbe(p:DSt)(Q:Option Int->Prop):zjw p Q=( Q none):=rfl
theorem znm(de:DE)(U:DSt)(Q:Option Int->Prop):zlf1 de U Q=( de U λd=>match d with
|.int i=>Q (some i)
|_=>False):=rfl
theorem zdc1(de:DE)(dl p:DO)(U:DSt)(Q:D->Prop):dSl de dl p U Q=( de U λd=>dl U λlo=>p U λhi=>fSl d lo hi Q):=rfl
theorem zq01(de:DE)(dl p dk:DO)(U:DSt)(Q:List D->Prop):dSl3 de dl p dk U Q=( de U λd=>dl U λlo=>p U λhi=>dk U λst=>match d with
|.list ds=>st≠some 0/\Q (zzn ds lo hi st)
|_=>False):=rfl
theorem zha1(de:DE)(U:DSt)(Q:List D->Prop):dIt de U Q=( de U λd=>zg21 d Q):=rfl
theorem zsn(p:DF)(U:DSt)(Q:List D->Prop):zwd1 p U Q=( p U λds=>match ds with
|[.int j]=>-(2 ^ 62)<=j/\j < 2 ^ 62/\Q (rngD 0 j.toNat)
|_=>False):=rfl
theorem zxp(p:DF)(U:DSt)(Q:List D->Prop):zzd1 p U Q=( p U λds=>match ds with
|[.int i,.int j]=>(-(2 ^ 62)<=i/\i < 2 ^ 62/\-(2 ^ 62)<=j/\j < 2 ^ 62)/\Q (rngD i (j - i).toNat)
|_=>False):=rfl
theorem zpy(p:DF)(U:DSt)(Q:List D->Prop):dZip p U Q=( p U λds=>fZip ds Q):=rfl
theorem zcp(p:DF)(U:DSt)(Q:List D->Prop):zo91 p U Q=( p U λds=>match ds with
|[.list a]=>Q (zqs a)
|_=>False):=rfl
theorem e_gN(i:Nat)(d:D)(U:DSt)(G:DSt->Prop):gN i d U G=( G (U.set i (.sh d))):=rfl
theorem zgp(ds:List D)(U:DSt)(G:DSt->Prop):zkb1 ds U G=( match ds with
|[]=>G U
|_=>False):=rfl
theorem zgh(g:DG)(gs:DGs)(ds:List D)(U:DSt)(G:DSt->Prop):zcx g gs ds U G=( match ds with
|d :: r=>g d U λU'=>gs r U' G
|[]=>False):=rfl
theorem e_gT(n:Nat)(gs:DGs)(d:D)(U:DSt)(G:DSt->Prop):gT n gs d U G=( match d with
|.tuple ds=>ds.length=n/\gs ds U G
|_=>False):=rfl
theorem zjm(p:DSt)(Q:Bool->Prop):zu81 p Q=( Q true):=rfl
theorem zcz(C:aE)(f:Str)(q:DP)(U:DSt)(Q:Nat->Pth->T->Prop):pFld C f q U Q=( q U λi p u=>nCls C u/\nFld f u λt=>Q i (p++[.fl f]) t):=rfl
theorem zea1(q:DP)(di:DE)(U:DSt)(Q:Nat->Pth->T->Prop):pIx q di U Q=( q U λi p u=>di U λk=>nIx u k λj t=>Q i (p++[.ix j]) t):=rfl
theorem zwc1(p:DP)(U:DSt)(Q:D->Prop):dPV p U Q=( p U λ_ _ u=>vwT u Q):=rfl
theorem zw91(p:DP)(U:DSt)(Q:D->Prop):dPE p U Q=( p U λ_ _ u=>fzT u Q):=rfl
theorem e_cE(de:DE)(U:DSt)(Q:T->DSt->Prop):cE de U Q=( de U λd=>Q (.fz d) U):=rfl
theorem e_cF(df:DF)(U:DSt)(Q:T->DSt->Prop):cF df U Q=( df U λds=>Q (.li ds) U):=rfl
theorem zas(E:DEnds)(U:DSt):znd1 E U=( E.nx U):=rfl
theorem zzz(de:DE)(dg:DG)(E:DEnds)(U:DSt):dAsg de dg E U=( de U λd=>dg d U E.nx):=rfl
theorem zz11(i:Nat)(p:DC)(E:DEnds)(U:DSt):dSet i p E U=( p U λr U'=>E.nx (U'.set i (slot r))):=rfl
theorem zrr(p:DC)(E:DEnds)(U:DSt):zoe1 p E U=( p U λ_ U'=>E.nx U'):=rfl
theorem ziy(p:DC)(E:DEnds)(U:DSt):dRet p E U=( p U E.rt):=rfl
theorem ziq(i:Nat)(E:DEnds)(U:DSt):zta1 i E U=( match U[i]? with
|some (.ow t)=>E.rt t (U.set i .un)
|some (.sh d)=>E.rt (.fz d) U
|_=>False):=rfl
theorem zol(E:DEnds)(U:DSt):zwe1 E U=( E.ct U):=rfl
theorem zt91(dt:DT)(d e:DS)(E:DEnds)(U:DSt):dIf dt d e E U=( dt U λb=>if b=true then d E U else e E U):=rfl
theorem zfa1(ty:String)(f:FM)(q:DP)(z:DF)(U:DSt)(Q:T->DSt->Prop):cBM ty f q z U Q=( q U λi p u=>tyN ty u/\z U λds=>f u ds λu2 d=>mutS U i p u2 λU'=>Q (.fz d) U'):=rfl
theorem zc11(ty:String)(f:FM)(q:DP)(U:DSt)(Q:T->DSt->Prop):cBM0 ty f q U Q=( q U λi p u=>tyN ty u/\f u [] λu2 d=>mutS U i p u2 λU'=>Q (.fz d) U'):=rfl
theorem zgz(q:DP)(dk de:DE)(E:DEnds)(U:DSt):dPut q dk de E U=( de U λd=>q U λi p u=>dk U λk=>fPut u k d λu2=>mutS U i p u2 E.nx):=rfl
theorem zdn(f:Int->Int->Int)(q:DP)(dk de:DE)(E:DEnds)(U:DSt):zud1 f q dk de E U=( q U λi p u=>dk U λk=>fGet u k λx=>de U λy=>fII f x y λz=>fPut u k z λu2=>mutS U i p u2 E.nx):=rfl
theorem zdy(i:Nat)(f:Int->Int->Int)(de:DE)(E:DEnds)(U:DSt):dAug i f de E U=( match U[i]? with
|some (.sh x)=>de U λy=>fII f x y λz=>E.nx (U.set i (.sh z))
|_=>False):=rfl
theorem zly(p:DP)(dk:DE)(U:DSt)(Q:D->Prop):nGet p dk U Q=( p U λ_ _ u=>dk U λk=>fGet u k Q):=rfl
theorem zhb1(neg:Bool)(dk:DE)(p:DP)(U:DSt)(Q:D->Prop):nIn neg dk p U Q=( dk U λk=>p U λ_ _ u=>fHas neg u k Q):=rfl
theorem zj91(U:DSt)(Q:T->DSt->Prop):cDT U Q=( Q (.dt []) U):=rfl
theorem e_nF(df:DF)(U:DSt)(Q:T->Prop):nF df U Q=( df U λds=>Q (.li ds)):=rfl
theorem e_cN(p:DN)(U:DSt)(Q:T->DSt->Prop):cN p U Q=( p U λr=>Q r U):=rfl
theorem zwx(C:aE)(f:Str)(z:DC)(q:DP)(E:DEnds)(U:DSt):dFld C f z q E U=( z U λr B=>q B λi p u=>nCls C u/\nSet f u r λu2=>mutS B i p u2 E.nx):=rfl
theorem zex(i:Nat)(p:Pth)(d:DS)(E:DEnds)(U:DSt):dFrz i p d E U=( fzS U i p λU'=>d E U'):=rfl
theorem zm11(p:DSt)(Q:List ArgP->Prop):aNil p Q=( Q []):=rfl
theorem e_aD(de:DE)(p:DAT)(U:DSt)(Q:List ArgP->Prop):aD de p U Q=( de U λx=>p U λas=>Q (.d x :: as)):=rfl
theorem e_aB(u:DP)(q:DAT)(U:DSt)(Q:List ArgP->Prop):aB u q U Q=( u U λi p t=>q U λas=>Q (.b i p t :: as)):=rfl
theorem e_aO(u:DP)(q:DAT)(U:DSt)(Q:List ArgP->Prop):aO u q U Q=( u U λi p t=>q U λas=>Q (.o i p t :: as)):=rfl
theorem zem(o:Bool)(C:aE)(m:Str)(p:DSpT)(z:DP)(B:DAT)(U:DSt)(Q:T->DSt->Prop):zff1 o C m p z B U Q=( z U λi q u=>nCls C u/\noM m u/\B U λas=>zt61 p U ((if o then .o i q u else .b i q u) :: as) Q):=rfl
theorem zdp(p:DSpT)(q:DAT)(U:DSt)(Q:T->Prop):zld1 p q U Q=( q U λas=>zs21 p as Q):=rfl
theorem zpp(C:aE)(m:Str)(p:DSpT)(z:DP)(B:DAT)(U:DSt)(Q:T->Prop):zgf1 C m p z B U Q=( z U λi q u=>nCls C u/\noM m u/\B U λas=>zs21 p (.b i q u :: as) Q):=rfl
theorem e_eN(p:DN)(U:DSt)(Q:D->Prop):eN p U Q=( p U λr=>fzT r Q):=rfl
theorem zkn(C:aE)(p:DSpT)(q:DAT)(U:DSt)(Q:T->Prop):zdf1 C p q U Q=( q U λas=>noO as/\p (.o (.ob C []) :: as.map ArgP.arg) λr u=>(match r with|.fz .none=>True|_=>False)/\Q u):=rfl
theorem zky(i:Nat)(U:DSt)(Q:D->Prop):dVar i U Q=pAt U i λt=>fzT t Q:=rfl
theorem zuo(i:Nat)(U:DSt)(Q:D->Prop):znf1 i U Q=pAt U i λt=>vwT t Q:=rfl
theorem znw(i:Nat)(U:DSt)(Q:Nat->Pth->T->Prop):pVar i U Q=pAt U i λt=>Q i [] t:=rfl
theorem zj01(s:Sl)(U:DSt)(N:T->Prop):pAt (s :: U) 0 N=slT s N:=rfl
theorem zl11(i:Nat)(s:Sl)(U:DSt)(N:T->Prop):pAt (s :: U) (i+1) N=pAt U i N:=rfl
theorem zn11(U:DSt)(i:Nat)(p:Pth)(u:T)(N:DSt->Prop):mutS U i p u N=(match U[i]? with
|some (.ow t)=>N (U.set i (.ow (setP t p u)))
|some (.io a t)=>N (U.set i (.io a (setP t p u)))
|_=>False):=rfl
theorem zja1(U:DSt)(i:Nat)(p:Pth)(N:DSt->Prop):fzS U i p N=(match U[i]? with
|some (.ow t)=>∃u d,getP t p=some u/\toD u=some d/\N (U.set i (slot (setP t p (.fz d))))
|some (.sh _)=>N U
|_=>False):=rfl
theorem zyp(U:DSt)(i:Nat):zm21 U i=(match U[i]? with
|some (.ow _)=>True
|some (.io _ _)=>True
|_=>False):=rfl
theorem zvv(t u:T):setP t [] u=u:=by cases t <;> rfl
theorem zv31(ds:List D):tyN "list" (.li ds)=True:=by simp[tyN]
theorem zr41(ds:List T):tyN "list" (.ls ds)=True:=by simp[tyN]
theorem zh61(ds:List (Key×D)):tyN "dict" (.dk ds)=True:=by simp[tyN]
theorem zg61(ds:List (List Key×D)):tyN "dict" (.dt ds)=True:=by simp[tyN]
theorem zrc1(Qd:D->Prop)(d:D)(U:DSt):rD Qd (.fz d) U=Qd d:=rfl
theorem zcc1(Qd:D->Prop)(d:List D)(U:DSt):rD Qd (.li d) U=Qd (.list d):=rfl
theorem zaa1(Qd:D->Prop)(d:List T)(U:DSt):rD Qd (.ls d) U=∃e,toD (.ls d)=some e/\Qd e:=rfl
theorem zxr(p:DSpT)(U:DSt)(as:List ArgP)(Q:T->DSt->Prop):zt61 p U as Q=(match zgs as with
|some (i,q,t)=>zm21 U i/\oneO i as/\zlv t/\p (as.map ArgP.arg) λr u=>mutS U i q u λU'=>Q r U'
|none=>noO as/\p (as.map ArgP.arg) λr _=>Q r U):=rfl
theorem zan(p:DSpT)(as:List ArgP)(Q:T->Prop):zs21 p as Q=(noO as/\p (as.map ArgP.arg) λr _=>Q r):=rfl
def zf51(items:List D)(n:Nat)(ix:List Nat)(dg:DG)(p:DN)(U:DSt)(Q:T->Prop):Prop:=items.length<=sizeLine/\∃R:Nat->T->Prop,
 (∀i d,items[i]?=some d->dg d (cST n ix U) λU'=>p U' λr=>R i r)/\∀rs:List T,rs.length=items.length->(∀(j:Nat) r,rs[j]?=some r->R j r)->Q (.ls rs)
theorem zjo(di:DF)(n:Nat)(ix:List Nat)(dg:DG)(p:DN)(U:DSt)(Q:T->Prop):zbf1 di n ix dg p U Q=di U λitems=>zf51 items n ix dg p U Q:=rfl
theorem zk71{α:Type}{xs:List α}{enc:α->D}(f:α->T){u:DN}{Q:T->Prop}(hz:xs.length<=sizeLine)
  (h:∀x∈xs,dg (enc x) (cST n ix U) λU'=>u U' λr=>r=f x) (q:Q (.ls (xs.map f))):zf51 (xs.map enc) n ix dg u U Q:=by
 refine⟨by rw[u4];exact hz,λi r=>∀x,xs[i]?=some x->r=f x,λi d e=>?_,λrs hl G=>?_⟩
 ·rw[u9]at e;obtain⟨x,z,rfl⟩:=w6.mp e;have p:(λr=>∀y,xs[i]?=some y->r=f y)=λr=>r=f x:=by funext r;rw[z];simp
  show dg (enc x) (cST n ix U) λU'=>u U' λr=>∀y,xs[i]?=some y->r=f y;rw[p];exact h x (wK z)
 ·rw[u4]at hl;have:rs=xs.map f:=by
   apply yD;intro i;rw[u9];by_cases hi:i < rs.length
   ·have p:rs[i]?=some rs[i]:=u5 hi;have B:xs[i]?=some (xs[i]'(by lia)):=u5 _;rw[p,B,G i _ p _ B];rfl
   ·rw[v8 (by lia),v8 (by lia)];rfl
  rw[this];exact q
def zk81(items:List D)(n:Nat)(ix:List Nat)(dg:DG)(dt:DT)(de:DE)(U:DSt)(Q:List D->Prop):Prop:=items.length<=sizeLine/\∃R:Nat->Option D->Prop,
 (∀i d,items[i]?=some d->dg d (cST n ix U) λU'=>dt U' λb=>if b=true then de U' λr=>R i (some r)else R i none) /\
 ∀os:List (Option D),os.length=items.length->(∀(j:Nat) o,os[j]?=some o->R j o)->Q (os.filterMap id)
theorem zqx(di:DF)(n:Nat)(ix:List Nat)(dg:DG)(dt:DT)(de:DE)(U:DSt)(Q:List D->Prop):zcd1 di n ix dg dt de U Q=di U λitems=>zk81 items n ix dg dt de U Q:=rfl
def ForB(items:List D)(dg:DG)(p:DS)(E:DEnds)(U:DSt):Prop:=∃W:Nat->DSt->Prop,W 0 U /\
 (∀i d U',items[i]?=some d->W i U'->dg d U' λq=>p { E with nx:=W (i+1),ct:=W (i+1),bk:=E.nx } q)/\∀U',W items.length U'->E.nx U'
theorem ze91(di:DF)(dg:DG)(p:DS)(E:DEnds)(U:DSt):dFor di dg p E U=di U λitems=>ForB items dg p E U:=rfl
theorem zls{b:DS}{U:DSt}(h:a { E with nx:=b E } U):dSeq a b E U:=⟨b E,h,λ_ z=>z⟩
theorem znd{b:DS}{U:DSt}(J:DSt->Prop)(h:a { E with nx:=J } U)(p:∀U',J U'->b E U'):dSeq a b E U:=⟨J,h,p⟩
theorem zf0{U:DSt}(h:∀J:DSt->Prop,(∀U',b E U'->J U')->a { E with nx:=J } U):dSeq a b E U:=⟨b E,h (b E) λ_ z=>z,λ_ z=>z⟩
theorem zkd1{α:Type}{f:α->Option D}:∀{xs:List α}{os:List (Option D)},os.length=xs.length->(∀(j:Nat) o x,os[j]?=some o->xs[j]?=some x->o=f x)->os.filterMap id=xs.filterMap f
|[],[],_,_=>rfl
|x :: xs,o :: os,hl,h=>by
  have e:o=f x:=h 0 o x rfl rfl;have u:=zkd1 (f:=f) (xs:=xs) (os:=os) (by simpa using hl) λj q p B z=>h (j+1) q p (by simpa using B) (by simpa using z);rw[w8,w8,e,u];rfl
theorem zo21{α:Type}{xs:List α}{enc:α->D}(f:α->Option D){dt:DT}{Q:List D->Prop}(hz:xs.length<=sizeLine)
  (h:∀x∈xs,dg (enc x) (cST n ix U) λU'=>dt U' λb=>if b=true then de U' λr=>some r=f x else none=f x) (q:Q (xs.filterMap f)):zk81 (xs.map enc) n ix dg dt de U Q:=by
 refine⟨by rw[u4];exact hz,λi o=>∀x,xs[i]?=some x->o=f x,λi d e=>?_,λos hl u=>?_⟩
 ·rw[u9]at e;obtain⟨x,p,rfl⟩:=w6.mp e;have:=h x (wK p);have I:(λr=>∀y,xs[i]?=some y->some r=f y)=λr=>some r=f x:=by
   funext r;rw[p];simp
  have G:(∀y,xs[i]?=some y->(none:Option D)=f y)=(none=f x):=by rw[p];simp
  show dg (enc x) (cST n ix U) λU'=>dt U' λb=>if b=true then de U' λr=>∀y,xs[i]?=some y->some r=f y else ∀y,xs[i]?=some y->(none:Option D)=f y
  rw[I,G];exact this
 ·rw[u4]at hl;rw[zkd1 hl λj o x B z=>u j o B x z];exact q
theorem zes{α:Type}{xs:List α}{enc:α->D}(g:α->D){Q:List D->Prop}(hz:xs.length<=sizeLine)
  (h:∀x∈xs,dg (enc x) (cST n ix U) λU'=>de U' λr=>r=g x) (q:Q (xs.map g)):zk81 (xs.map enc) n ix dg zu81 de U Q:=by
 refine zo21 (λx=>some (g x)) hz (λx p=>?_) ?_
 ·have:=h x p;have e:(λr=>some r=some (g x))=λr=>r=g x:=by funext r;simp
  show dg (enc x) (cST n ix U) λU'=>if true=true then de U' λr=>some r=some (g x)else none=some (g x)
  rw[e];simp only[if_true];exact this
 ·rw[show xs.filterMap (λx=>some (g x))=xs.map g from congrFun List.filterMap_eq_map' xs];exact q
theorem zn3{α:Type}{xs:List α}{enc:α->D}(W:Nat->DSt->Prop){p:DS}(B:W 0 U)
  (u:∀(i:Nat) x U',xs[i]?=some x->W i U'->dg (enc x) U' λG=>p { E with nx:=W (i+1),ct:=W (i+1),bk:=E.nx } G) (z:∀U',W xs.length U'->E.nx U'):ForB (xs.map enc) dg p E U:=by
 refine⟨W,B,λi d U' e w=>?_,λU' w=>z U' (by rw[u4]at w;exact w)⟩;rw[u9]at e;obtain⟨x,q,rfl⟩:=w6.mp e;exact u i x U' q w
theorem two{c:Prop}[Decidable c]{A B:Prop}(q:c->A)(p:¬c->B):if c then A else B:=by
 by_cases h:c
 ·rw[aF h];exact q h
 ·rw[aA h];exact p h
def cutG{α:Type}(xs:List α)(lo hi:Option Int):List α:=(xs.drop (HT.sIx xs.length 0 lo)).take (HT.sIx xs.length xs.length hi - HT.sIx xs.length 0 lo)
theorem zai{α:Type}(f:α->D)(xs:List α)(lo hi:Option Int):cutD (xs.map f) lo hi=(cutG xs lo hi).map f:=by
 unfold cutD cutG;rw[u4,z8,List.map_drop]
theorem za21{α β:Type}(f:α->D)(g:β->D)(xs:List α)(ys:List β):zipD (xs.map f) (ys.map g)=(xs.zip ys).map λp=>.tuple [f p.1,g p.2]:=by
 unfold zipD;rw[List.zipWith_map,List.zip_eq_zipWith,List.map_zipWith]
theorem zk5{α:Type}(f:α->D)(xs:List α):zqs (xs.map f)=(xs.mapIdx λi x=>(i,x)).map λp=>.tuple [.int (p.1:Nat),f p.2]:=by
 unfold zqs;apply yD;intro i;rw[xQ,u9,u9,xQ];cases xs[i]? <;> rfl
theorem zie{α:Type}{xs:List α}{i:Int}{x:α}(p:0<=i)(h:xs[i.toNat]?=some x):atI xs i=some x:=by
 have e:((i.toNat:Nat):Int)=i:=by lia
 have:=zpv (xs:=xs) (j:=i.toNat) (v:=x) h
 rwa [e]at this
section
variable (K:Fg)
def RfH(p:TE)(de:DE):Prop:=∀⦃F H:Hp⦄⦃Y:_2.St⦄⦃U:DSt⦄⦃Qd:D->Prop⦄⦃Q:VK⦄,Same F H->RV K F H Y U->de U Qd->(∀d,Qd d->∀v q H',Ext F H q H'->Is K H' v d->Q v H')->p Y H Q
def RfAH(p:TA)(q:DF):Prop:=∀⦃F H:Hp⦄⦃Y:_2.St⦄⦃U:DSt⦄⦃Qd:List D->Prop⦄⦃Q:List V->Hp->Prop⦄,Same F H->RV K F H Y U->q U Qd->(∀ds,Qd ds->∀vs u H',Ext F H u H'->IsAll K H' vs ds->Q vs H')->p Y H Q
end
section
variable {K:Fg}{te ta tb:TE}{de da db:DE}{tA:TA}{dA:DF}
theorem RfV.h(h:RfV K te de):RfH K te de:=λ_ _ _ _ _ _ s r d k=>h s r d λx q v p H' e i=>k x q v p H' e (i.is e.fh)
theorem zjl:RfAH K tNil dNil:=λ_ _ _ _ _ _ s rv h k=>k _ h _ _ _ (Ext.refl s) .nil
theorem zv7(I:RfH K ta da)(hr:RfAH K tA dA):RfAH K (zkm ta tA) (zv81 da dA):=by
 walk_at"0";refine I s rv h λx G v L J p B=>hr p.fh (rv.ext p) G λxs q vs F2 H2 u z=>?_;exact k _ q _ F2 H2 (p.trans u) (.cons (B.mono u.h) z)
theorem zon{F H:Hp}{p:aE}{o:HO}(s:Same F H)(q:H p=none):Ext F H F (upd H p o) :=
 ⟨zs1 q _,λ_ _ z=>z,λb o z=>zs1 q _ b o (s b o z),λ_ _ z=>z⟩
theorem zrq(h:RfAH K tA dA):RfH K (zq91 tA) (dTup dA):=by
 walk_at"2";refine h s rv hd λxs u vs I G B q=>⟨by rw[q.dlen];exact u.1,λp z=>?_⟩
 exact k _ u.2 _ _ _ (B.trans (zon B.fh z)) (.tup zp0 (q.mono (zs1 z _)))
theorem zyc1(h:RfAH K tA dA):RfH K (zab1 tA) (dF (dLst dA)):=by
 walk_at"2";refine h s rv hd λxs u vs I G B q=>⟨by rw[q.dlen];exact u.1,λp z=>?_⟩
 exact k _ u.2 _ _ _ (B.trans (zon B.fh z)) (.lst (SqL.of zp0) (q.mono (zs1 z _)))
def R2H(K:Fg)(r:R2)(f:D->D->(D->Prop)->Prop):Prop:=∀⦃F H:Hp⦄⦃x y:V⦄⦃d e:D⦄⦃Qd:D->Prop⦄⦃Q:VK⦄,Same F H->Is K H x d->Is K H y e->f d e Qd->(∀z,Qd z->∀v p H',Ext F H p H'->Is K p v z->Q v H')->r x y H Q
theorem zz1{r:R2}{f:D->D->(D->Prop)->Prop}(hr:R2H K r f)(O:RfH K ta da)(M:RfH K tb db):RfE K (tOp r ta tb) (dOp f da db):=by
 walk_at"0";refine O s rv h λx L v F1 H1 q I=>M q.fh (rv.ext q) L λy J u F2 H2 p G=>?_;exact hr p.fh (I.mono p.h) G J λz hz w Z W S B=>k z hz w Z W ((q.trans p).trans S) B
theorem q_eq:R2H K (rEqU K) fEq:=by
 walk_at"6";unfold fEq at h;split at h
 ·cases q.int_inv;cases p.int_inv;refine .inl ⟨rfl,k _ h _ F H (Ext.refl s) ?_⟩;rw[zhf];exact .bl _
 ·cases q.str_inv;cases p.str_inv;refine .inl ⟨rfl,k _ h _ F H (Ext.refl s) ?_⟩;rw[znf];exact .bl _
 ·cases q.bl_inv;cases p.bl_inv;refine .inl ⟨rfl,k _ h _ F H (Ext.refl s) ?_⟩;rw[zym];exact .bl _
 ·exact .inr ⟨_,_,q,p,h.1,h.2.1,k _ h.2.2 _ F H (Ext.refl s) (.bl _)⟩
theorem q_ne:R2H K (rNeU K) fNe:=by
 walk_at"6";unfold fNe at h;split at h
 ·cases q.int_inv;cases p.int_inv;refine .inl ⟨rfl,k _ h _ F H (Ext.refl s) ?_⟩;rw[zhf];exact .bl _
 ·cases q.str_inv;cases p.str_inv;refine .inl ⟨rfl,k _ h _ F H (Ext.refl s) ?_⟩;rw[znf];exact .bl _
 ·cases q.bl_inv;cases p.bl_inv;refine .inl ⟨rfl,k _ h _ F H (Ext.refl s) ?_⟩;rw[zym];exact .bl _
 ·exact .inr ⟨_,_,q,p,h.1,h.2.1,k _ h.2.2 _ F H (Ext.refl s) (.bl _)⟩
end
theorem zn01(i:Int):isT "int" (.int i)=true:=rfl
theorem zu51(i:Int):isT "bool" (.int i)=false:=by simp[isT,tyD]
theorem zrx(i:List D):isT "list" (.list i)=true:=rfl
theorem ze21(i:List D):isT "tuple" (.tuple i)=true:=rfl
theorem zpx(i:Str):isT "str" (.str i)=true:=rfl
theorem zt41(i:Int):(∀kvs,u6 i≠.dict kvs)=True:=by simp
theorem zyu(i:List D):(∀kvs,v5 i≠.dict kvs)=True:=by simp
theorem zp31(i:List D):(∀kvs,xC i≠.dict kvs)=True:=by simp
theorem zw41(i:Str):(∀kvs,wI i≠.dict kvs)=True:=by simp
theorem zke1(i:Bool):(∀kvs,wT i≠.dict kvs)=True:=by simp
theorem zg31:(∀kvs,y4≠.dict kvs)=True:=by simp
theorem eqv_refl{d:D}(h:Fit n d):xD d d=true:=h.eqv
theorem zow(ns:List Int) :Fit (n+1) (.list (ns.map .int)):=Fit.lst λd h=>by
 obtain⟨i,_,rfl⟩:=vQ.mp h;exact Fit.int i
theorem zgw{α:Type}{xs:List α}{f:α->D}(h:∀x∈xs,Fit n (f x)):Fit (n+1) (.list (xs.map f)):=Fit.lst λd hd=>by
 obtain⟨x,p,rfl⟩:=vQ.mp hd;exact h x p
end _4
namespace _3
open PySem PySem.Spec PyProof.Rows _2
section
variable {X:Cx}
theorem zct{C:aE}{m:Str}{k:Nat}{ps:List Str}{sp:Sp}{o:aZ}{q:TE}{p pos:Pos}{pl:Sem Bool}(d:MethD X.prog X.w X.K X.mg X.base C m k ps sp)(hr:Room k X.A)(B:PE X o q)
  (z:bD (.Call (.Attribute o m p) [] [] pos) X.env=(do
   let u <- bD o X.env
   eW p.atName
   let (f,first) <- dN [u] (eE u m pl)
   gQ pos f first (b7 pos (aW [] X.env)) (e8 pos (dP [] X.env))):=by rfl) :
  PE X (.Call (.Attribute o m p) [] [] pos) (zl21 C m sp [] E0 q tNil):=by
 obtain⟨f,G,c,M,F,b⟩:=d;exact zkz B c M F hr b .nil zp21 z
def zxd1(K:Fg)(le:Int->Int->Prop):List V->Hp->VK->Prop:=λvs H Q=>∃(a:aE)(ns:List Int),vs=[.ref a]/\SqL K H a (ns.map V.int)/\ns≠[]/\∀M∈ns,(∀x∈ns,le M x)->Q (.int M) H
theorem zvs{K:Fg}(h:X.K=K)(hc:X.calm=true):CallR X (.builtin "min") (zxd1 K λM x=>M<=x):=by
 subst h;walk_at"4";obtain⟨a,ns,rfl,S,J,q⟩:=h;obtain⟨u,rfl,O⟩:=zry r;cases O;obtain⟨its,rv,p,hz⟩:=I.list S;have hi:cI its ns:=znb rv;obtain⟨ys,L⟩:=hi.allInts.items;have hl:s.heap.IsList a (intItems ys):=L ▸ p.isList;have G:ns=ys.toList.map (·.1):=by
  rw[<- nums_intItems,<- L];exact(show numsOf its.toArray.toList=ns from hi.numsOf).symm
 have hsz:0 < ys.size:=by
  rcases ubB ys.size with z|z
  ·exact aN (by rw[G];exact List.map_eq_nil_iff.mpr (uaN (by simpa using z))) J
  ·exact z
 refine min_intList (I.ok.hd hc) hl hsz λv h' tk W Z=>?_;obtain⟨t,rfl⟩:=intItems_at W;obtain⟨h1,h2⟩:=argBest_lt (numAt ys) (ys.size - 1);refine⟨.int _,H,I.kept Z,⟨_,rfl⟩,q _ ?_ λx B=>?_⟩
 ·rw[numAt_eq,G];exact getD_mem (by rw[u4,xT];lia)
 ·rw[G]at B;obtain⟨j,hj,rfl⟩:=mem_getD B;rw[u4,xT]at hj;rw[<- numAt_eq];exact h2 j (by lia)
end
end _3
namespace _4
open PySem PySem.Spec PyProof.Rows _2 _3
section
variable {K:Fg}{te ta ti tv tk tb:TE}{de da di dk db:DE}{dc:DC}{tA:TA}{dA:DF}
abbrev fXor:=fI0 λi j=>.int (fC i j)
theorem zge1:R2E K (rI0 λi j=>V.int (fC i j)) fXor:=r_I0 λ_ _ _=>.int _
theorem zcw(x:Int):fC x 1=x+1 - 2 * (x % 2):=by
 rw[lZ,l4]
def zhc1:List D->(D->Prop)->Prop
|[.list ds],Q=>∃ns,zfj ds=some ns/\ns≠[]/\∀M∈ns,(∀x∈ns,M<=x)->Q (.int M)
|_,_=>False
theorem zpa1:CB K (zxd1 K λM x=>M<=x) zhc1:=by
 intro F H vs ds Qd Q s G h k;unfold zhc1 at h;split at h
 ·obtain⟨v,rfl,hw⟩:=vw1 G;obtain⟨p,xs,rfl,J,z⟩:=hw.list s;obtain⟨ns,e,u,q⟩:=h;have:=zwh z e;subst this;exact⟨p,ns,rfl,J,u,λM I B=>k _ (q M I B) _ F H (Ext.refl s) (.int _)⟩
 ·exact h.elim
def cDK1(dk de:DE):DC:=λU Q=>dk U λk=>de U λv=>∃key,keyD k=some key/\Q (.dk [(key,v)]) U
theorem zi11(dk de:DE)(U:DSt)(Q:T->DSt->Prop):cDK1 dk de U Q=(dk U λk=>de U λv=>∃key,keyD k=some key/\Q (.dk [(key,v)]) U):=rfl
theorem zma1(hk:RfE K tk dk)(he:RfE K tv de):RfC K (zze1 [(tk,tv)]) (cDK1 dk de):=by
 intro B F H Y U fps Qd Q r hd k p u;have S:=r.grow (ztj (o:=.dK []) r.fh u);have fp:F p=none:=by
  cases e:F p with
 |none=>rfl
 |some o=>rw[r.fh p o e]at u;cases u
 show tk Y _ _;refine hk S.fh S.rv hd λkd hkd kv F1 H1 W i1=>he W.fh (S.grow W).rv hkd λv hv L F2 H2 e2 i2=>?_;obtain⟨key,ek,q⟩:=hv;have:=zgl i1 ek;subst this;have G:=W.trans e2;have Z:H2 p=some (.dK []):=G.h _ _ zp0;have J:F2 p=none:=G.nw p (by rw[zp0];simp) fp;refine⟨Z,[(key,L)],rfl,by simp,?_⟩;have ex:Ext F H F2 (upd H2 p (.dK (zrg [] [(key,L)]))):=by
  have O:=(ztj (o:=.dK []) r.fh u).trans G;refine⟨λb o z=>?_,O.f,λb o z=>?_,O.nw⟩
  ·have:b≠p:=λy=>by subst y;rw[u]at z;cases z
   rw[zb1 this];exact O.h b o z
  ·have:b≠p:=λy=>by subst y;rw[J]at z;cases z
   rw[zb1 this];exact O.fh b o z
 have hm:zrg [] [(key,L)]=[(key,L)]:=rfl;rw[hm]at ex ⊢;refine k _ _ q (.ref p) F2 _ fps [p] ⟨r.grow ex,.dk zp0 J (.cons i2 .nil),by simp,λb M=>?_,λj s ej hs b M I=>?_⟩
 ·simp at M;subst M;exact(r.newOk u).1
 ·simp at I;subst I;exact(r.newOk u).2 j s ej hs M
def zgd1(de:DE)(f:D->D->(D->Prop)->Prop)(dc:DC)(db:DE):DC:=λU Q=>de U λx=>dc U λr p=>fzT r λy=>db p λz=>f y z λw=>fIx x w λd=>Q (.fz d) p
theorem zcn(de:DE)(f:D->D->(D->Prop)->Prop)(dc:DC)(db:DE)(U:DSt)(Q:T->DSt->Prop):zgd1 de f dc db U Q=(de U λx=>dc U λr p=>fzT r λy=>db p λz=>f y z λw=>fIx x w λd=>Q (.fz d) p):=rfl
theorem zk41{w:aR}{r:R2}{f:D->D->(D->Prop)->Prop}(he:RfE K te de)(hr:R2E K r f)(hc:RfC K ta dc)(hb:RfE K tb db):RfC K (tOp (rIxV w K) te (tOp r ta tb)) (zgd1 de f dc db):=by
 walk_at"17";refine he rs.fh rs.rv hd λx hx xv J H1 e1 i1=>?_;have u:=rs.grow e1
 -- what is frozen stays: the base remembers J
 have s0:=u.ff;have S:=u.nw;refine hc (u.rem s0 (λ_ _ z=>z)) hx λt U1 ht yv F2 H2 q fpr res=>?_;obtain⟨y,hy,W⟩:=zi51 res.rt ht;refine hb res.rs.fh res.rs.rv hy λz hz zv F3 H3 I i3=>?_;refine hr I.fh (.inl (W.mono I.f)) (.inl i3) hz λwd hw wv F4 H4 M i4=>?_;have p:=I.trans M;have O:Same J F4:=(show Same J F2 from res.rs.ff).trans p.f;refine r_ix (w:=w) M.fh (.inl (i1.mono O)) (.inl i4) hw λd L v F5 H5 e5 Z=>?_;refine k _ _ L v F5 H5 q [] ⟨((res.rs.grow (p.trans e5)).unrem s0 S),.fz Z,.nil,λa G=>by simp at G,λ_ _ _ _ a _ G=>by simp at G⟩
end
end _4
namespace _5
open PySem PySem.W PyProof.Rows
variable {a b:Array bN}{i lo n:Nat}
section
variable {prog:aQ}{w:aR}{A:bB}{E:aC->aH->Prop}{s:aH}{κ:eC}{a₀:Array bN}{st:bJ}
def Cmp(prog:aQ)(w:aR)(A:bB)(s:aH)(κ:eC)(a₀:Array bN):Prop:=∀x y,x∈a₀.toList->y∈a₀.toList->∃b:Bool,∀Q:Bool->aH->Prop,Q b s->aL (aM prog w) A (keyLt' κ x.1 y.1) Q (λ_ _=>False) s
structure PB(κ:eC)(a₀:Array bN)(st:bJ):Prop where
 perm:(arrOf st).Perm a₀
 kind:kindOf st=κ
 failed:eB st=none
theorem PB.size(h:PB κ a₀ st):(arrOf st).size=a₀.size:=h.perm.size_eq
theorem PB.mem(h:PB κ a₀ st){x:bN}(p:x∈(arrOf st).toList):x∈a₀.toList:=(uaO.mp h.perm).mem_iff.mp p
theorem zc71(B:Cmp prog w A s κ a₀)(u:kindOf st=κ){x y:bN}(q:x∈a₀.toList)(p:y∈a₀.toList){Q:Option Bool->bJ->Prop}(h:∀b,Q (some b) st):wpS (aM prog w) A E s (lt' x y) Q st:=by
 obtain⟨b,G⟩:=B x y q p;rw[lt'_eq];refine aI (dE ?_);refine aI (eA (gV ?_));rw[u];exact cA (G _ ⟨rfl,aJ (h b)⟩) (λ_ _ z=>z) λ_ _ z=>z.elim
theorem zh1{arr:Array bN}(hi:i < arr.size){Q:bN->bJ->Prop}(h:Q arr[i] st):wpS (aM prog w) A E s (elem' arr i) Q st:=by
 rw[elem'_eq,z9 hi];exact aJ h
theorem zaa(q:Cmp prog w A s κ a₀)(hB:PB κ a₀ st){j:Nat}(hi:i < a₀.size)(p:j < a₀.size){Q:Option Bool->bJ->Prop}(h:∀b,Q (some b) st):wpS (aM prog w) A E s (ltAt' i j) Q st:=by
 rw[ltAt'_eq];have z:i < (arrOf st).size:=by rw[hB.size];exact hi
 have u:j < (arrOf st).size:=by rw[hB.size];exact p
 exact aI (dE (aI (zh1 z (aI (zh1 u (zc71 q hB.kind (hB.mem (by simp)) (hB.mem (by simp)) h))))))
theorem zje{j:Nat}(hB:PB κ a₀ st){Q:Unit->bJ->Prop}(h:∀p,PB κ a₀ p->aS p=aS st->Q () p):wpS (aM prog w) A E s (reverseSlice' i j) Q st:=by
 rw[reverseSlice'_eq];exact bW (h _ ⟨(mirror_perm _ _ _ _).trans hB.perm,hB.kind,hB.failed⟩ rfl)
theorem zs51{j:Nat}(hB:PB κ a₀ st){Q:Unit->bJ->Prop}(h:∀p,PB κ a₀ p->aS p=aS st->Q () p):wpS (aM prog w) A E s (moveDown' i j) Q st:=by
 rw[moveDown'_eq];exact bW (h _ ⟨(bubble_perm _ _ _).trans hB.perm,hB.kind,hB.failed⟩ rfl)
theorem zp91(J:Cmp prog w A s κ a₀)(hB:PB κ a₀ st){ok:Nat}(hn:lo+n<=a₀.size){Q:Bool->bJ->Prop}(h:∀p,PB κ a₀ p->aS p=aS st->Q true p):wpS (aM prog w) A E s (binarySort' lo n ok) Q st:=by
 rw[binarySort'_eq];refine aI (bR (bG (I:=λ_ c p=>c=(none,())/\PB κ a₀ p/\aS p=aS st) (Q:=λc p=>c=(none,())/\PB κ a₀ p/\aS p=aS st) ?step (λc p z=>z) ⟨rfl,hB,rfl⟩) ?post)
 case post =>
  rintro c p ⟨rfl,u,B⟩;exact aJ (h p u B)
 case step =>
  rintro k c q Z W ⟨rfl,u,B⟩;refine aI (bR (bG (I:=λ_ c p=>p=q/\∃l r,c=(none,l,r)/\r<=k) (Q:=λc p=>p=q/\∃l r,c=(none,l,r)/\r<=k) ?s2 (λc p z=>z) ⟨rfl,0,k,rfl,u7 _⟩) ?p2)
  case p2 =>
   rintro c G ⟨rfl,l,r,rfl,hr⟩;exact aI (zs51 u λO M L=>aJ ⟨rfl,M,L.trans B⟩)
  case s2 =>
   rintro x c G _ _ ⟨rfl,l,r,rfl,hr⟩;dsimp only;split
   ·exact aJ ⟨rfl,l,r,rfl,hr⟩
   ·rename_i S
    refine aI (zaa J u (by lia) (by lia) λb=>?_);cases b
    ·exact aJ ⟨rfl,_,_,rfl,hr⟩
    ·exact aJ ⟨rfl,_,_,rfl,by lia⟩
theorem zgy(S:Cmp prog w A s κ a₀)(hB:PB κ a₀ st){z:Nat}(h1:1<=z)(hn:lo+z<=a₀.size){Q:Option Nat->bJ->Prop}(h:∀m u,1<=m->m<=z->PB κ a₀ u->aS u=aS st->Q (some m) u):wpS (aM prog w) A E s (countRun' lo z) Q st:=by
 rw[countRun'_eq];refine aI (bR (bG (I:=λx c u=>u=st/\c=(none,x)) (Q:=λc u=>u=st/\∃m,c=(none,m)/\1<=m/\m<=z) ?s1 ?f1 ⟨rfl,rfl⟩) ?p1)
 case f1 =>
  rintro c u ⟨rfl,rfl⟩;exact⟨rfl,_,rfl,by lia,by lia⟩
 case s1 =>
  rintro x c u O hx2 ⟨rfl,rfl⟩;dsimp only;refine aI (zaa S hB (by lia) (by lia) λb=>?_);cases b
  ·exact aJ ⟨rfl,rfl⟩
  ·exact aJ ⟨rfl,x,rfl,O,by lia⟩
 case p1 =>
  rintro c u ⟨rfl,m,rfl,m1,m2⟩;dsimp only;have last:∀{L:bJ}{k:Nat},PB κ a₀ L->aS L=aS u->1<=k->k<=z->wpS (aM prog w) A E s (forIn [k:z] ((none,k):Option (Option Nat)×Nat) λ_ r=>do
    let y <- ltAt' (lo+r.snd) (lo+r.snd - 1)
    match y with
   |some b=>if b=true then pure (ForInStep.done (none,r.snd))else pure (ForInStep.yield (none,r.snd+1))
   |_=>pure (ForInStep.done (some none,r.snd))) (λc p=>∃M,c=(none,M)/\1<=M/\M<=z/\PB κ a₀ p/\aS p=aS u) L:=λ{L k} b1 b2 k1 k2=>by
   refine bG (I:=λx c p=>p=L/\c=(none,x)) ?s5 ?f5 ⟨rfl,rfl⟩
   case f5 =>
    rintro c p ⟨rfl,rfl⟩;exact⟨_,rfl,by lia,by lia,b1,b2⟩
   case s5 =>
    rintro x c p O hx2 ⟨rfl,rfl⟩;dsimp only;refine aI (zaa S b1 (by lia) (by lia) λb=>?_);cases b
    ·exact aJ ⟨rfl,rfl⟩
    ·exact aJ ⟨x,rfl,by lia,by lia,b1,b2⟩
  by_cases e:m=z
  ·rw[aF (by simp[e])];exact aJ (h m u m1 m2 hB rfl)
  rw[aA (by simp[e])];split
  ·refine aI (zaa S hB (by lia) (by lia) λb=>?_);cases b
   ·refine aI (zje hB λL b1 b2=>?_);refine aI (eA (cK ⟨rfl,?_⟩));refine aI (bR (bG (I:=λx c p=>∃q,c=(none,x,q)/\PB κ a₀ p/\aS p=aS u) (Q:=λc p=>∃k q,c=(none,k,q)/\1<=k/\k<=z/\PB κ a₀ p/\aS p=aS u) ?s2 ?f2 ⟨0,rfl,b1,b2⟩) ?p2)
    case f2 =>
     rintro c p ⟨q,rfl,B,G⟩;exact⟨_,q,rfl,by lia,by lia,B,G⟩
    case s2 =>
     rintro x c p O hx2 ⟨q,rfl,B,G⟩;dsimp only;refine aI (zaa S B (by lia) (by lia) λb=>?_);cases b
     ·refine aI (zaa S B (by lia) (by lia) λb=>?_);cases b
      ·exact aJ ⟨_,rfl,B,G⟩
      ·exact aJ ⟨x,q,rfl,by lia,by lia,B,G⟩
     ·dsimp only;rw[aF rfl];split
      ·exact aI (zje B λst4 d1 d2=>aJ ⟨_,rfl,d1,d2.trans G⟩)
      ·exact aJ ⟨_,rfl,B,G⟩
    case p2 =>
     rintro c p ⟨k,q,rfl,k1,k2,B,G⟩;dsimp only;split
     ·refine aI (zje B λst4 d1 d2=>aI (zje d1 λst5 e1 e2=>aI (bR (last e1 (e2.trans (d2.trans G)) k1 k2) ?_)));rintro c J ⟨M,rfl,g1,g2,Z,W⟩;exact aJ (h M J g1 g2 Z W)
     ·refine aI (zje B λst5 e1 e2=>aI (bR (last e1 (e2.trans G) k1 k2) ?_));rintro c J ⟨M,rfl,g1,g2,Z,W⟩;exact aJ (h M J g1 g2 Z W)
   ·exact aJ (h m u m1 m2 hB rfl)
  ·have b1:=hB;have b2:aS u=aS u:=rfl;refine aI (eA (cK ⟨rfl,?_⟩));refine aI (bR (bG (I:=λx c p=>∃q,c=(none,x,q)/\PB κ a₀ p/\aS p=aS u) (Q:=λc p=>∃k q,c=(none,k,q)/\1<=k/\k<=z/\PB κ a₀ p/\aS p=aS u) ?s2 ?f2 ⟨0,rfl,b1,b2⟩) ?p2)
   case f2 =>
    rintro c p ⟨q,rfl,B,G⟩;exact⟨_,q,rfl,by lia,by lia,B,G⟩
   case s2 =>
    rintro x c p O hx2 ⟨q,rfl,B,G⟩;dsimp only;refine aI (zaa S B (by lia) (by lia) λb=>?_);cases b
    ·refine aI (zaa S B (by lia) (by lia) λb=>?_);cases b
     ·exact aJ ⟨_,rfl,B,G⟩
     ·exact aJ ⟨x,q,rfl,by lia,by lia,B,G⟩
    ·dsimp only;rw[aF rfl];split
     ·exact aI (zje B λst4 d1 d2=>aJ ⟨_,rfl,d1,d2.trans G⟩)
     ·exact aJ ⟨_,rfl,B,G⟩
   case p2 =>
    rintro c p ⟨k,q,rfl,k1,k2,B,G⟩;dsimp only;split
    ·refine aI (zje B λst4 d1 d2=>aI (zje d1 λst5 e1 e2=>aI (bR (last e1 (e2.trans (d2.trans G)) k1 k2) ?_)));rintro c J ⟨M,rfl,g1,g2,Z,W⟩;exact aJ (h M J g1 g2 Z W)
    ·refine aI (zje B λst5 e1 e2=>aI (bR (last e1 (e2.trans G) k1 k2) ?_));rintro c J ⟨M,rfl,g1,g2,Z,W⟩;exact aJ (h M J g1 g2 Z W)
end
def gal(left:Bool)(key:bN)(arr:Array bN)(base n hint:Nat):StateT bJ Sem (Option Nat):=(sortPriv% PySem.Builtin.gallop) left key arr base n hint
section
variable {prog:aQ}{w:aR}{A:bB}{E:aC->aH->Prop}{s:aH}{κ:eC}{a₀:Array bN}{st:bJ}
theorem zof(W:Cmp prog w A s κ a₀)(S:kindOf st=κ){left:Bool}{key:bN}{arr:Array bN}{base hint:Nat}(G:key∈a₀.toList)(ha:∀x∈arr.toList,x∈a₀.toList)(hb:base+n<=arr.size)(Z:hint < n){Q:Option Nat->bJ->Prop}(h:∀k,k<=n->Q (some k) st):wpS (aM prog w) A E s (gal left key arr base n hint) Q st:=by
 have B:∀i,i < n->∀{R:Option Bool->bJ->Prop},(∀b,R (some b) st)->wpS (aM prog w) A E s (elem' arr (base+i) >>= λx=>if left=true then lt' x key else lt' key x >>= λr=>pure (r.map λz=>!z)) R st:=λi hi R q=>by
  have L:base+i < arr.size:=by lia
  refine aI (zh1 L ?_);have O:=ha arr[base+i] (by simp);split
  ·exact zc71 W S O G q
  ·exact aI (zc71 W S G O λb=>aJ (q _))
 have J:∀(lo hi:Nat),hi<=n->∀{R:Option (Option Nat)×Nat×Nat->bJ->Prop},(∀l k,k<=n->R (none,l,k) st)->wpS (aM prog w) A E s (forIn [0:n] ((none,lo,hi):Option (Option Nat)×Nat×Nat) λ_ c=>if c.2.1 ≥ c.2.2 then pure (ForInStep.done (none,c.2.1,c.2.2))else(elem' arr (base+(c.2.1+(c.2.2 - c.2.1) / 2)) >>= λx=>if left=true then lt' x key else lt' key x >>= λr=>pure (r.map λz=>!z)) >>= λy=>match y with
   |some b=>if b=true then pure (ForInStep.yield (none,c.2.1+(c.2.2 - c.2.1) / 2+1,c.2.2))else pure (ForInStep.yield (none,c.2.1,c.2.1+(c.2.2 - c.2.1) / 2))
   |_=>pure (ForInStep.done (some none,c.2.1,c.2.2))) R st:=λlo hi M R q=>by
  refine bG (I:=λ_ c p=>p=st/\∃l k,c=(none,l,k)/\k<=n) ?s ?f ⟨rfl,lo,hi,rfl,M⟩
  case f =>
   rintro c p ⟨rfl,l,k,rfl,u⟩;exact q l k u
  case s =>
   rintro x c p _ _ ⟨rfl,l,k,rfl,u⟩;dsimp only;split
   ·exact aJ (q l k u)
   ·rename_i hlk
    refine aI (B _ (by lia) λb=>?_);cases b
    ·exact aJ ⟨rfl,_,_,rfl,by lia⟩
    ·exact aJ ⟨rfl,_,_,rfl,u⟩
 unfold gal;refine aI (B hint Z λb=>?_);cases b
 ·dsimp only;rw[aA v3];refine aI (bR (bG (I:=λ_ c p=>p=st/\∃l o,c=(none,l,o)) (Q:=λc p=>p=st/\∃l o,c=(none,l,o)) ?s1 (λc p z=>z) ⟨rfl,0,1,rfl⟩) ?p1)
  case s1 =>
   rintro x c p _ _ ⟨rfl,l,o,rfl⟩;dsimp only;split
   ·exact aJ ⟨rfl,_,_,rfl⟩
   ·refine aI (B _ (by lia) λb=>?_);cases b
    ·exact aJ ⟨rfl,_,_,rfl⟩
    ·exact aJ ⟨rfl,_,_,rfl⟩
  case p1 =>
   rintro c p ⟨rfl,l,o,rfl⟩;exact aI (J _ _ (by lia) λ_ k u=>aJ (h k u))
 ·dsimp only;rw[aF rfl];refine aI (bR (bG (I:=λ_ c p=>p=st/\∃l o,c=(none,l,o)) (Q:=λc p=>p=st/\∃l o,c=(none,l,o)) ?s1 (λc p z=>z) ⟨rfl,0,1,rfl⟩) ?p1)
  case s1 =>
   rintro x c p _ _ ⟨rfl,l,o,rfl⟩;dsimp only;split
   ·exact aJ ⟨rfl,_,_,rfl⟩
   ·refine aI (B _ (by lia) λb=>?_);cases b
    ·exact aJ ⟨rfl,_,_,rfl⟩
    ·exact aJ ⟨rfl,_,_,rfl⟩
  case p1 =>
   rintro c p ⟨rfl,l,o,rfl⟩;exact aI (J _ _ (by lia) λ_ k u=>aJ (h k u))
end
def mlo(a b:Array bN):StateT bJ Sem (Array bN):=(sortPriv% PySem.Builtin.mergeLo) a b
def mhi(a b:Array bN):StateT bJ Sem (Array bN):=(sortPriv% PySem.Builtin.mergeHi) a b
structure Sm(st st':bJ):Prop where
 arr:arrOf st'=arrOf st
 pend:aS st'=aS st
 kind:kindOf st'=kindOf st
 failed:eB st'=eB st
def Mg(a b out:Array bN)(i j:Nat):Prop:=out.toList.Perm (a.toList.take i++b.toList.take j)
section
variable {a b out:Array bN}{i j k:Nat}
theorem zhj(h:i < a.size):a.toList.take (i+1)=a.toList.take i++[a[i]]:=by
 rw[xI,y3,z9 h];rfl
theorem Mg.pushA(m:Mg a b out i j)(h:i < a.size):Mg a b (out.push a[i]) (i+1) j:=by
 unfold Mg at m ⊢;rw[yK,zhj h,vW];refine(m.append_right _).trans ?_;rw[vW];exact List.Perm.append_left _ yE
theorem Mg.pushB(m:Mg a b out i j)(h:j < b.size):Mg a b (out.push b[j]) i (j+1):=by
 unfold Mg at m ⊢;rw[yK,zhj h,<- vW];exact m.append_right _
theorem zud(h:i+k<=a.size):a.toList.take (i+k)=a.toList.take i++(a.extract i (i+k)).toList:=by
 rw[y6,y8,zN,List.take_add]
theorem Mg.appA(m:Mg a b out i j)(h:i+k<=a.size):Mg a b (out++a.extract i (i+k)) (i+k) j:=by
 unfold Mg at m ⊢;rw[xJ,zud h,vW];refine(m.append_right _).trans ?_;rw[vW];exact List.Perm.append_left _ yE
theorem Mg.appB(m:Mg a b out i j)(h:j+k<=b.size):Mg a b (out++b.extract j (j+k)) i (j+k):=by
 unfold Mg at m ⊢;rw[xJ,zud h,<- vW];exact m.append_right _
theorem zou(a:Array bN)(i:Nat):a.toList=a.toList.take i++(a.extract i a.size).toList:=by
 rw[y6,y8,yC (l:=a.toList.drop i) (by simp),yF]
theorem zsf1(p q r t:List bN):(p++r++q++t).Perm (p++q++(r++t)):=by
 simp only[vW];refine List.Perm.append_left _ ?_;rw[<- vW,<- vW];exact List.Perm.append_right _ yE
theorem Mg.done(m:Mg a b out i j):(out++a.extract i a.size++b.extract j b.size).toList.Perm (a.toList++b.toList):=by
 unfold Mg at m;rw[xJ,xJ]
 conv=>rhs;rw[zou a i,zou b j]
 exact((m.append_right _).append_right _).trans (zsf1 _ _ _ _)
theorem Mg.last(m:Mg a b out i j):(out++b.extract j b.size++a.extract i a.size).toList.Perm (a.toList++b.toList):=by
 have:=m.done;rw[xJ,xJ]at this ⊢;rw[vW]at this ⊢;exact(List.Perm.append_left _ yE).trans this
end
section
variable {prog:aQ}{w:aR}{A:bB}{E:aC->aH->Prop}{s:aH}{κ:eC}{a₀:Array bN}{st:bJ}
theorem zj2{α:Type}{c:Prop}[Decidable c]{m n:StateT bJ Sem α}{Q:α->bJ->Prop}(q:c->wpS (aM prog w) A E s m Q st)(p:¬c->wpS (aM prog w) A E s n Q st):wpS (aM prog w) A E s (if c then m else n) Q st:=by
 by_cases z:c
 ·rw[aF z];exact q z
 ·rw[aA z];exact p z
theorem via{K G:Prop}(h:K)(u:K->G):G:=u h
theorem zx1{α:Type}{x y:Nat}{m n:StateT bJ Sem α}{Q:α->bJ->Prop}(q:x=y->wpS (aM prog w) A E s m Q st)(p:¬x=y->wpS (aM prog w) A E s n Q st):wpS (aM prog w) A E s (if(x == y)=true then m else n) Q st:=zj2 (λz=>q (by simpa using z)) λz=>p (by simpa using z)
theorem zx91(hc:Cmp prog w A s κ a₀)(hk:kindOf st=κ)(ha:∀x∈a.toList,x∈a₀.toList)(hb:∀x∈b.toList,x∈a₀.toList)(na:1<=a.size)(nb:1<=b.size){Q:Array bN->bJ->Prop}(h:∀r q,r.toList.Perm (a.toList++b.toList)->Sm st q->Q r q):wpS (aM prog w) A E s (mlo a b) Q st:=by
 unfold mlo;refine aI (eA (cK ⟨rfl,?_⟩));refine aI (zh1 nb ?_);have m0:Mg a b #[b[0]] 0 1:=by
  have:Mg a b #[] 0 0:=by unfold Mg;simp
  exact this.pushB nb
 refine zx1 (λ_=>aJ (h _ _ m0.done ⟨rfl,rfl,rfl,rfl⟩)) λz1=>zx1 (λ_=>aJ (h _ _ m0.last ⟨rfl,rfl,rfl,rfl⟩)) λz2=>?_;refine aI (dE ?_);have mem1:∀i,(hi:i < a.size)->a[i]∈a₀.toList:=λi hi=>ha _ (by simp);have mem2:∀i,(hi:i < b.size)->b[i]∈a₀.toList:=λi hi=>hb _ (by simp);refine aI (bR (bG (I:=λx c q=>Sm st q/\∃out i j g,c=(none,out,i,j,g)/\Mg a b out i j/\i+1 < a.size/\j < b.size/\x+1<=i+j) (Q:=λc q=>Sm st q/\∃r y,c=(some r,y)/\r.toList.Perm (a.toList++b.toList)) ?so ?fo ⟨⟨rfl,rfl,rfl,rfl⟩,_,_,_,_,rfl,m0,by lia,by lia,by lia⟩) ?po)
 case po =>
  rintro c q ⟨sm,r,y,rfl,hr⟩;exact aJ (h r q hr sm)
 case fo =>
  rintro c q ⟨sm,out,i,j,g,rfl,mg,h1,h2,h3⟩;lia
 case so =>
  rintro x c st1 _ hx ⟨sm,out,i,j,g,rfl,mg,h1,h2,h3⟩;have hk1:kindOf st1=κ:=sm.kind.trans hk;refine aI (bR (bG (I:=λy c q=>q=st1/\∃G S O ac bc,c=(none,G,S,O,ac,bc)/\Mg a b G S O/\S+1 < a.size/\O < b.size/\S+O=i+j+y) (Q:=λc q=>q=st1/\((∃r y,c=(some r,y)/\r.toList.Perm (a.toList++b.toList)) \/ ∃G S O ac bc,c=(none,G,S,O,ac,bc)/\Mg a b G S O/\S+1 < a.size/\O < b.size/\i+j < S+O)) ?s1 ?f1 ⟨rfl,out,i,j,0,0,rfl,mg,h1,h2,rfl⟩) ?p1)
  case f1 =>
   rintro c q ⟨rfl,G,S,O,ac,bc,rfl,Z,g1,g2,g3⟩;lia
  case s1 =>
   rintro y c q _ hy ⟨rfl,G,S,O,ac,bc,rfl,Z,g1,g2,g3⟩;dsimp only;refine aI (zh1 g2 (aI (zh1 (by lia) (aI (zc71 hc hk1 (mem2 _ _) (mem1 _ _) λb=>?_)))));cases b
   ·refine aI (zh1 (by lia) ?_);have mA:=Z.pushA (by lia);exact zx1 (λ_=>aJ ⟨rfl,.inl ⟨_,_,rfl,mA.last⟩⟩) λz=>zj2 (λ_=>aJ ⟨rfl,.inr ⟨_,_,_,_,_,rfl,mA,by lia,by lia,by lia⟩⟩) λ_=>aJ ⟨rfl,_,_,_,_,_,rfl,mA,by lia,by lia,by lia⟩
   ·refine aI (zh1 g2 ?_);have mB:=Z.pushB g2;exact zx1 (λ_=>aJ ⟨rfl,.inl ⟨_,_,rfl,mB.done⟩⟩) λz=>zj2 (λ_=>aJ ⟨rfl,.inr ⟨_,_,_,_,_,rfl,mB,by lia,by lia,by lia⟩⟩) λ_=>aJ ⟨rfl,_,_,_,_,_,rfl,mB,by lia,by lia,by lia⟩
  case p1 =>
   rintro c q ⟨rfl,⟨r,y,rfl,hr⟩|⟨G,S,O,ac,bc,rfl,Z,g1,g2,g3⟩⟩
   ·exact aJ ⟨sm,_,_,rfl,hr⟩
   ·refine aI (eA (cK ⟨rfl,?_⟩));refine aI (bR (bG (I:=λy c q=>Sm st q/\∃B L J g2 ac bc,c=(none,B,L,J,g2,ac,bc)/\Mg a b B L J/\L+1 < a.size/\J < b.size/\S+O+y<=L+J) (Q:=λc q=>Sm st q/\((∃r y,c=(some r,y)/\r.toList.Perm (a.toList++b.toList)) \/ ∃B L J g2 ac bc,c=(none,B,L,J,g2,ac,bc)/\Mg a b B L J/\L+1 < a.size/\J < b.size/\S+O<=L+J)) ?s2 ?f2 ⟨sm,G,S,O,_,_,_,rfl,Z,g1,g2,u7 _⟩) ?p2)
    case f2 =>
     rintro c q ⟨p,B,L,J,g3,ac2,bc2,rfl,W,k1,k2,k3⟩;lia
    case p2 =>
     rintro c q ⟨p,⟨r,y,rfl,hr⟩|⟨B,L,J,g3,ac2,bc2,rfl,W,k1,k2,k3⟩⟩
     ·exact aJ ⟨p,_,_,rfl,hr⟩
     ·exact aI (bW (aJ ⟨⟨p.arr,p.pend,p.kind,p.failed⟩,B,L,J,_,rfl,W,k1,k2,by lia⟩))
    case s2 =>
     apply via
     case u =>
      intro hK;rintro y c st2 _ hy ⟨p,B,L,J,g3,ac2,bc2,rfl,W,k1,k2,k3⟩;dsimp only;refine zj2 (λc=>?_) λc=>?_
      rotate_left
      ·refine aI (bW ?_);clear c
       revert y st2 B L J g3 ac2 bc2
       exact hK
      ·refine aI (bW ?_);apply hK <;> assumption
     intro y st2 _ hy p B L J g3 ac2 bc2 W k1 k2 k3;refine aI (zh1 k2 ?_);refine aI (zof (base:=L) (n:=a.size - L) (hint:=0) hc (by exact p.kind.trans hk) (mem2 _ _) ha (by lia) (by lia) λk hk2=>?_);refine zj2 (λkp=>?_) λkp=>?_
     ·have m3:=W.appA (k:=k) (by lia);refine zx1 (λ_=>aJ ⟨⟨p.arr,p.pend,p.kind,p.failed⟩,.inl ⟨_,_,rfl,m3.last⟩⟩) λz1=>zx1 (λ_=>aJ ⟨⟨p.arr,p.pend,p.kind,p.failed⟩,.inl ⟨_,_,rfl,m3.done⟩⟩) λz2=>?_;refine aI (zh1 k2 ?_);have m4:=m3.pushB k2;refine zx1 (λ_=>aJ ⟨⟨p.arr,p.pend,p.kind,p.failed⟩,.inl ⟨_,_,rfl,m4.done⟩⟩) λz3=>?_;refine aI (zh1 (by lia) ?_);refine aI (zof (base:=J+1) (n:=b.size - (J+1)) (hint:=0) hc (by exact p.kind.trans hk) (mem1 _ _) hb (by lia) (by lia) λk' hk3=>?_);refine zj2 (λkp2=>?_) λkp2=>?_
      ·have m5:=m4.appB (k:=k') (by lia);refine zx1 (λ_=>aJ ⟨⟨p.arr,p.pend,p.kind,p.failed⟩,.inl ⟨_,_,rfl,m5.done⟩⟩) λz4=>?_;refine aI (zh1 (by lia) ?_);have M:=m5.pushA (by lia);exact zx1 (λ_=>aJ ⟨⟨p.arr,p.pend,p.kind,p.failed⟩,.inl ⟨_,_,rfl,M.last⟩⟩) λz5=>zj2 (λ_=>aJ ⟨⟨p.arr,p.pend,p.kind,p.failed⟩,.inr ⟨_,_,_,_,_,_,rfl,M,by lia,by lia,by lia⟩⟩) λ_=>aJ ⟨⟨p.arr,p.pend,p.kind,p.failed⟩,_,_,_,_,_,_,rfl,M,by lia,by lia,by lia⟩
      ·refine aI (zh1 (by lia) ?_);have M:=m4.pushA (by lia);exact zx1 (λ_=>aJ ⟨⟨p.arr,p.pend,p.kind,p.failed⟩,.inl ⟨_,_,rfl,M.last⟩⟩) λz5=>zj2 (λ_=>aJ ⟨⟨p.arr,p.pend,p.kind,p.failed⟩,.inr ⟨_,_,_,_,_,_,rfl,M,by lia,by lia,by lia⟩⟩) λ_=>aJ ⟨⟨p.arr,p.pend,p.kind,p.failed⟩,_,_,_,_,_,_,rfl,M,by lia,by lia,by lia⟩
     ·refine aI (zh1 k2 ?_);have m4:=W.pushB k2;refine zx1 (λ_=>aJ ⟨⟨p.arr,p.pend,p.kind,p.failed⟩,.inl ⟨_,_,rfl,m4.done⟩⟩) λz3=>?_;refine aI (zh1 (by lia) ?_);refine aI (zof (base:=J+1) (n:=b.size - (J+1)) (hint:=0) hc (by exact p.kind.trans hk) (mem1 _ _) hb (by lia) (by lia) λk' hk3=>?_);refine zj2 (λkp2=>?_) λkp2=>?_
      ·have m5:=m4.appB (k:=k') (by lia);refine zx1 (λ_=>aJ ⟨⟨p.arr,p.pend,p.kind,p.failed⟩,.inl ⟨_,_,rfl,m5.done⟩⟩) λz4=>?_;refine aI (zh1 (by lia) ?_);have M:=m5.pushA (by lia);exact zx1 (λ_=>aJ ⟨⟨p.arr,p.pend,p.kind,p.failed⟩,.inl ⟨_,_,rfl,M.last⟩⟩) λz5=>zj2 (λ_=>aJ ⟨⟨p.arr,p.pend,p.kind,p.failed⟩,.inr ⟨_,_,_,_,_,_,rfl,M,by lia,by lia,by lia⟩⟩) λ_=>aJ ⟨⟨p.arr,p.pend,p.kind,p.failed⟩,_,_,_,_,_,_,rfl,M,by lia,by lia,by lia⟩
      ·refine aI (zh1 (by lia) ?_);have M:=m4.pushA (by lia);exact zx1 (λ_=>aJ ⟨⟨p.arr,p.pend,p.kind,p.failed⟩,.inl ⟨_,_,rfl,M.last⟩⟩) λz5=>zj2 (λ_=>aJ ⟨⟨p.arr,p.pend,p.kind,p.failed⟩,.inr ⟨_,_,_,_,_,_,rfl,M,by lia,by lia,by lia⟩⟩) λ_=>aJ ⟨⟨p.arr,p.pend,p.kind,p.failed⟩,_,_,_,_,_,_,rfl,M,by lia,by lia,by lia⟩
end
def Mh(a b out:Array bN)(p q:Nat):Prop:=out.toList.Perm (a.toList.drop p++b.toList.drop q)
section
variable {a b out:Array bN}{p q e:Nat}
theorem zdj(u:0 < p)(h:p<=a.size):a.toList.drop (p - 1)=a[p - 1]'(by lia) :: a.toList.drop p:=by
 rw[List.drop_eq_getElem_cons (by simp;lia),Array.getElem_toList,show p - 1+1=p by lia]
theorem Mh.pushA(m:Mh a b out p q)(u:0 < p)(h:p<=a.size):Mh a b (out.push (a[p - 1]'(by lia))) (p - 1) q:=by
 unfold Mh at m ⊢;rw[yK,zdj u h];exact(m.append_right _).trans yE
theorem Mh.pushB(m:Mh a b out p q)(u:0 < q)(h:q<=b.size):Mh a b (out.push (b[q - 1]'(by lia))) p (q - 1):=by
 unfold Mh at m ⊢;rw[yK,zdj u h];refine(m.append_right _).trans ?_;rw[vW];exact List.Perm.append_left _ yE
theorem ztp(u:e<=p)(h:p<=a.size):a.toList.drop e=(a.extract e p).toList++a.toList.drop p:=by
 rw[y6,y8]
 conv=>lhs;rw[<- yF (p - e) (a.toList.drop e)]
 rw[List.drop_drop,show e+(p - e)=p by lia]
theorem Mh.appA(m:Mh a b out p q)(u:e<=p)(h:p<=a.size):Mh a b (out++(a.extract e p).reverse) e q:=by
 unfold Mh at m ⊢;rw[xJ,ztp u h,uaP,vW];exact(m.append_right _).trans (yE.trans (List.Perm.append_right _ (uaQ _)))
theorem Mh.appB(m:Mh a b out p q)(u:e<=q)(h:q<=b.size):Mh a b (out++(b.extract e q).reverse) p e:=by
 unfold Mh at m ⊢;rw[xJ,ztp u h,uaP];refine(m.append_right _).trans ?_;rw[vW];exact List.Perm.append_left _ (yE.trans (List.Perm.append_right _ (uaQ _)))
theorem zhm(a:Array bN)(p:Nat):a.toList=(a.extract 0 p).toList++a.toList.drop p:=by
 rw[y6,y8,List.drop_zero,Nat.sub_zero,yF]
theorem Mh.done(m:Mh a b out p q):(a.extract 0 p++b.extract 0 q++out.reverse).toList.Perm (a.toList++b.toList):=by
 unfold Mh at m;rw[xJ,xJ,uaP]
 conv=>rhs;rw[zhm a p,zhm b q]
 refine(List.Perm.append_left _ ((uaQ _).trans m)).trans ?_;have:=zsf1 (a.extract 0 p).toList (a.toList.drop p) (b.extract 0 q).toList (b.toList.drop q);rw[vW ((a.extract 0 p).toList++(b.extract 0 q).toList)]at this;exact this
theorem Mh.first(m:Mh a b out p q):(b.extract 0 q++a.extract 0 p++out.reverse).toList.Perm (a.toList++b.toList):=by
 have:=m.done;rw[xJ,xJ]at this ⊢;exact(List.Perm.append_right _ yE).trans this
end
section
variable {prog:aQ}{w:aR}{A:bB}{E:aC->aH->Prop}{s:aH}{κ:eC}{a₀:Array bN}{st:bJ}
theorem zic1(hc:Cmp prog w A s κ a₀)(hk:kindOf st=κ)(ha:∀x∈a.toList,x∈a₀.toList)(hb:∀x∈b.toList,x∈a₀.toList)(na:1<=a.size)(nb:1<=b.size){Q:Array bN->bJ->Prop}(h:∀r G,r.toList.Perm (a.toList++b.toList)->Sm st G->Q r G):wpS (aM prog w) A E s (mhi a b) Q st:=by
 unfold mhi;refine aI (eA (cK ⟨rfl,?_⟩));refine aI (zh1 (by lia) ?_);have m0:Mh a b #[a[a.size - 1]'(by lia)] (a.size - 1) b.size:=by
  have:Mh a b #[] a.size b.size:=by unfold Mh;simp
  exact this.pushA (by lia) (u7 _)
 refine zx1 (λ_=>aJ (h _ _ m0.done ⟨rfl,rfl,rfl,rfl⟩)) λz1=>zx1 (λ_=>aJ (h _ _ m0.first ⟨rfl,rfl,rfl,rfl⟩)) λz2=>?_;refine aI (dE ?_);have mem1:∀i,(hi:i < a.size)->a[i]∈a₀.toList:=λi hi=>ha _ (by simp);have mem2:∀i,(hi:i < b.size)->b[i]∈a₀.toList:=λi hi=>hb _ (by simp);refine aI (bR (bG (I:=λx c G=>Sm st G/\∃p q out g,c=(none,p,q,out,g)/\Mh a b out p q/\1<=p/\p<=a.size/\2<=q/\q<=b.size/\x+1+(p+q)<=a.size+b.size) (Q:=λc G=>Sm st G/\∃r y,c=(some r,y)/\r.toList.Perm (a.toList++b.toList)) ?so ?fo ⟨⟨rfl,rfl,rfl,rfl⟩,_,_,_,_,rfl,m0,by lia,by lia,by lia,by lia,by lia⟩) ?po)
 case po =>
  rintro c G ⟨sm,r,y,rfl,hr⟩;exact aJ (h r G hr sm)
 case fo =>
  rintro c G ⟨sm,p,q,out,g,rfl,mg,h1,h2,h3,h4,h5⟩;lia
 case so =>
  rintro x c st1 _ hx ⟨sm,p,q,out,g,rfl,mg,h1,h2,h3,h4,h5⟩;have hk1:kindOf st1=κ:=sm.kind.trans hk;refine aI (bR (bG (I:=λy c G=>G=st1/\∃S O L ac bc,c=(none,S,O,L,ac,bc)/\Mh a b L S O/\1<=S/\S<=a.size/\2<=O/\O<=b.size/\S+O+y=p+q) (Q:=λc G=>G=st1/\((∃r y,c=(some r,y)/\r.toList.Perm (a.toList++b.toList)) \/ ∃S O L ac bc,c=(none,S,O,L,ac,bc)/\Mh a b L S O/\1<=S/\S<=a.size/\2<=O/\O<=b.size/\S+O < p+q)) ?s1 ?f1 ⟨rfl,p,q,out,0,0,rfl,mg,h1,h2,h3,h4,rfl⟩) ?p1)
  case f1 =>
   rintro c G ⟨rfl,S,O,L,ac,bc,rfl,mg',g1,g2,g3,g4,g5⟩;lia
  case s1 =>
   rintro y c G _ hy ⟨rfl,S,O,L,ac,bc,rfl,mg',g1,g2,g3,g4,g5⟩;dsimp only;refine aI (zh1 (by lia) (aI (zh1 (by lia) (aI (zc71 hc hk1 (mem2 _ _) (mem1 _ _) λb=>?_)))));cases b
   ·refine aI (zh1 (by lia) ?_);have mB:=mg'.pushB (by lia) g4;exact zx1 (λ_=>aJ ⟨rfl,.inl ⟨_,_,rfl,mB.first⟩⟩) λz=>zj2 (λ_=>aJ ⟨rfl,.inr ⟨_,_,_,_,_,rfl,mB,by lia,by lia,by lia,by lia,by lia⟩⟩) λ_=>aJ ⟨rfl,_,_,_,_,_,rfl,mB,by lia,by lia,by lia,by lia,by lia⟩
   ·refine aI (zh1 (by lia) ?_);have mA:=mg'.pushA (by lia) g2;exact zx1 (λ_=>aJ ⟨rfl,.inl ⟨_,_,rfl,mA.done⟩⟩) λz=>zj2 (λ_=>aJ ⟨rfl,.inr ⟨_,_,_,_,_,rfl,mA,by lia,by lia,by lia,by lia,by lia⟩⟩) λ_=>aJ ⟨rfl,_,_,_,_,_,rfl,mA,by lia,by lia,by lia,by lia,by lia⟩
  case p1 =>
   rintro c G ⟨rfl,⟨r,y,rfl,hr⟩|⟨S,O,L,ac,bc,rfl,mg',g1,g2,g3,g4,g5⟩⟩
   ·exact aJ ⟨sm,_,_,rfl,hr⟩
   ·refine aI (eA (cK ⟨rfl,?_⟩));refine aI (bR (bG (I:=λy c G=>Sm st G/\∃p2 M J g2 ac bc,c=(none,p2,M,J,g2,ac,bc)/\Mh a b J p2 M/\1<=p2/\p2<=a.size/\2<=M/\M<=b.size/\p2+M+y<=S+O) (Q:=λc G=>Sm st G/\((∃r y,c=(some r,y)/\r.toList.Perm (a.toList++b.toList)) \/ ∃p2 M J g2 ac bc,c=(none,p2,M,J,g2,ac,bc)/\Mh a b J p2 M/\1<=p2/\p2<=a.size/\2<=M/\M<=b.size/\p2+M<=S+O)) ?s2 ?f2 ⟨sm,S,O,L,_,_,_,rfl,mg',g1,g2,g3,g4,u7 _⟩) ?p2)
    case f2 =>
     rintro c G ⟨B,p2,M,J,g3,ac2,bc2,rfl,Z,k1,k2,k3,k4,k5⟩;lia
    case p2 =>
     rintro c G ⟨B,⟨r,y,rfl,hr⟩|⟨p2,M,J,g3,ac2,bc2,rfl,Z,k1,k2,k3,k4,k5⟩⟩
     ·exact aJ ⟨B,_,_,rfl,hr⟩
     ·exact aI (bW (aJ ⟨⟨B.arr,B.pend,B.kind,B.failed⟩,p2,M,J,_,rfl,Z,k1,k2,k3,k4,by lia⟩))
    case s2 =>
     apply via
     case u =>
      intro hK;rintro y c st2 _ hy ⟨B,p2,M,J,g3,ac2,bc2,rfl,Z,k1,k2,k3,k4,k5⟩;dsimp only;refine zj2 (λc=>?_) λc=>?_
      rotate_left
      ·refine aI (bW ?_);clear c
       revert y st2 p2 M J g3 ac2 bc2
       exact hK
      ·refine aI (bW ?_);apply hK <;> assumption
     intro y st2 _ hy B p2 M J g3 ac2 bc2 Z k1 k2 k3 k4 k5;refine aI (zh1 (by lia) ?_);refine aI (zof (base:=0) (n:=p2) (hint:=p2 - 1) hc (by exact B.kind.trans hk) (mem2 _ _) ha (by lia) (by lia) λe he=>?_);refine zj2 (λkp=>?_) λkp=>?_
     ·have m3:=Z.appA (e:=e) (by lia) (by lia);refine zx1 (λ_=>aJ ⟨⟨B.arr,B.pend,B.kind,B.failed⟩,.inl ⟨_,_,rfl,m3.done⟩⟩) λz1=>?_;refine aI (zh1 (by lia) ?_);have m4:=m3.pushB (by lia) (by lia);refine zx1 (λ_=>aJ ⟨⟨B.arr,B.pend,B.kind,B.failed⟩,.inl ⟨_,_,rfl,m4.first⟩⟩) λz3=>?_;refine aI (zh1 (by lia) ?_);refine aI (zof (base:=0) (n:=M - 1) (hint:=M - 1 - 1) hc (by exact B.kind.trans hk) (mem1 _ _) hb (by lia) (by lia) λe' he'=>?_);refine zj2 (λkp2=>?_) λkp2=>?_
      ·have m5:=m4.appB (e:=e') (by lia) (by lia);refine zx1 (λ_=>aJ ⟨⟨B.arr,B.pend,B.kind,B.failed⟩,.inl ⟨_,_,rfl,m5.first⟩⟩) λz4=>zx1 (λ_=>aJ ⟨⟨B.arr,B.pend,B.kind,B.failed⟩,.inl ⟨_,_,rfl,m5.done⟩⟩) λz6=>?_;refine aI (zh1 (by lia) ?_);have W:=m5.pushA (by lia) (by lia);exact zx1 (λ_=>aJ ⟨⟨B.arr,B.pend,B.kind,B.failed⟩,.inl ⟨_,_,rfl,W.done⟩⟩) λz5=>zj2 (λ_=>aJ ⟨⟨B.arr,B.pend,B.kind,B.failed⟩,.inr ⟨_,_,_,_,_,_,rfl,W,by lia,by lia,by lia,by lia,by lia⟩⟩) λ_=>aJ ⟨⟨B.arr,B.pend,B.kind,B.failed⟩,_,_,_,_,_,_,rfl,W,by lia,by lia,by lia,by lia,by lia⟩
      ·refine aI (zh1 (by lia) ?_);have W:=m4.pushA (by lia) (by lia);exact zx1 (λ_=>aJ ⟨⟨B.arr,B.pend,B.kind,B.failed⟩,.inl ⟨_,_,rfl,W.done⟩⟩) λz5=>zj2 (λ_=>aJ ⟨⟨B.arr,B.pend,B.kind,B.failed⟩,.inr ⟨_,_,_,_,_,_,rfl,W,by lia,by lia,by lia,by lia,by lia⟩⟩) λ_=>aJ ⟨⟨B.arr,B.pend,B.kind,B.failed⟩,_,_,_,_,_,_,rfl,W,by lia,by lia,by lia,by lia,by lia⟩
     ·refine aI (zh1 (by lia) ?_);have m4:=Z.pushB (by lia) (by lia);refine zx1 (λ_=>aJ ⟨⟨B.arr,B.pend,B.kind,B.failed⟩,.inl ⟨_,_,rfl,m4.first⟩⟩) λz3=>?_;refine aI (zh1 (by lia) ?_);refine aI (zof (base:=0) (n:=M - 1) (hint:=M - 1 - 1) hc (by exact B.kind.trans hk) (mem1 _ _) hb (by lia) (by lia) λe' he'=>?_);refine zj2 (λkp2=>?_) λkp2=>?_
      ·have m5:=m4.appB (e:=e') (by lia) (by lia);refine zx1 (λ_=>aJ ⟨⟨B.arr,B.pend,B.kind,B.failed⟩,.inl ⟨_,_,rfl,m5.first⟩⟩) λz4=>zx1 (λ_=>aJ ⟨⟨B.arr,B.pend,B.kind,B.failed⟩,.inl ⟨_,_,rfl,m5.done⟩⟩) λz6=>?_;refine aI (zh1 (by lia) ?_);have W:=m5.pushA (by lia) (by lia);exact zx1 (λ_=>aJ ⟨⟨B.arr,B.pend,B.kind,B.failed⟩,.inl ⟨_,_,rfl,W.done⟩⟩) λz5=>zj2 (λ_=>aJ ⟨⟨B.arr,B.pend,B.kind,B.failed⟩,.inr ⟨_,_,_,_,_,_,rfl,W,by lia,by lia,by lia,by lia,by lia⟩⟩) λ_=>aJ ⟨⟨B.arr,B.pend,B.kind,B.failed⟩,_,_,_,_,_,_,rfl,W,by lia,by lia,by lia,by lia,by lia⟩
      ·refine aI (zh1 (by lia) ?_);have W:=m4.pushA (by lia) (by lia);exact zx1 (λ_=>aJ ⟨⟨B.arr,B.pend,B.kind,B.failed⟩,.inl ⟨_,_,rfl,W.done⟩⟩) λz5=>zj2 (λ_=>aJ ⟨⟨B.arr,B.pend,B.kind,B.failed⟩,.inr ⟨_,_,_,_,_,_,rfl,W,by lia,by lia,by lia,by lia,by lia⟩⟩) λ_=>aJ ⟨⟨B.arr,B.pend,B.kind,B.failed⟩,_,_,_,_,_,_,rfl,W,by lia,by lia,by lia,by lia,by lia⟩
end
theorem zcr(sa:Nat):∀(l:List bN)(k:Nat)(xs:Array bN),sa+k+l.length<=xs.size->((l.zipIdx k).foldl (λa (q:bN×Nat)=>a.setIfInBounds (sa+q.2) q.1) xs).toList=xs.toList.take (sa+k)++l++xs.toList.drop (sa+k+l.length)
|[],k,xs,h=>by simp
|x :: r,k,xs,h=>by
  rw[xA]at h;rw[uaH,zI,zcr sa r (k+1) _ (by rw[Array.size_setIfInBounds];lia),ubC];have p:sa+k < xs.toList.length:=by simp;lia
  rw[List.take_set,List.drop_set_of_lt (by lia),show sa+(k+1)=sa+k+1 by lia,xI,u5 p];simp only[Option.toList,xA];rw[List.set_append_right _ _ (by simp;lia),wM,zM (by lia),Nat.sub_self,List.set_cons_zero,show sa+k+1+r.length=sa+k+(r.length+1) by lia];simp
section
variable {prog:aQ}{w:aR}{A:bB}{E:aC->aH->Prop}{s:aH}{κ:eC}{a₀:Array bN}{st:bJ}
theorem zoz{p:bJ}{Q:PUnit->bJ->Prop}(h:Q ⟨⟩ p):wpS (aM prog w) A E s (set p:StateT bJ Sem PUnit) Q st:=by
 unfold wpS;rw[StateT.run_set];exact aP ⟨rfl,h⟩
theorem zzl(M:Cmp prog w A s κ a₀)(hB:PB κ a₀ st){sa u O nb pb:Nat}(e1:(aS st)[i]?=some (sa,u,O))(e2:(aS st)[i+1]?=some (sa+u,nb,pb))(h1:1<=u)(h2:1<=nb)(h3:sa+u+nb<=a₀.size){Q:Bool->bJ->Prop}
  (h:∀p,PB κ a₀ p->aS p=((aS st).setIfInBounds i (sa,u+nb,O)).eraseIdxIfInBounds (i+1)->Q true p):wpS (aM prog w) A E s (lY i) Q st:=by
 unfold lY;refine aI (dE ?_);rw[e1,e2];dsimp only;refine aI (zoz ?_);have sz:=hB.size;have z:∀x∈(arrOf st).toList,x∈a₀.toList:=λx I=>hB.mem I;refine aI (zh1 (by rw[sz];lia) ?_);refine aI (zof (base:=sa) (n:=u) (hint:=0) M (by exact hB.kind) (z _ (by simp)) z (by rw[sz];lia) (by lia) λk hk=>?_);refine zx1 (λ_=>aJ (h _ ⟨hB.perm,hB.kind,hB.failed⟩ rfl)) λz1=>?_;refine aI (zh1 (by rw[sz];lia) ?_);refine aI (zof (base:=sa+u) (n:=nb) (hint:=nb - 1) M (by exact hB.kind) (z _ (by simp)) z (by rw[sz];lia) (by lia) λm hm=>?_);refine zx1 (λ_=>aJ (h _ ⟨hB.perm,hB.kind,hB.failed⟩ rfl)) λz2=>?_;have L:((arrOf st).extract (sa+k) (sa+u)).size=u - k:=by rw[ubD,sz];lia
 have J:((arrOf st).extract (sa+u) (sa+u+m)).size=m:=by rw[ubD,sz];lia
 have G:∀x∈((arrOf st).extract (sa+k) (sa+u)).toList,x∈a₀.toList:=λx I=>z x (by
  rw[y6,y8]at I;exact ubE (ubF I))
 have B:∀x∈((arrOf st).extract (sa+u) (sa+u+m)).toList,x∈a₀.toList:=λx I=>z x (by
  rw[y6,y8]at I;exact ubE (ubF I))
 have wr:∀(r:Array bN)(p:bJ),r.toList.Perm (((arrOf st).extract (sa+k) (sa+u)).toList++((arrOf st).extract (sa+u) (sa+u+m)).toList)->Sm (SortSt.mk' (kindOf st) (arrOf st) (((aS st).setIfInBounds i (sa,u+nb,O)).eraseIdxIfInBounds (i+1)) (gallopOf st) (eB st)) p ->
   Q (eB (setArr p (r.toList.zipIdx.foldl (λa (q:bN×Nat)=>a.setIfInBounds (sa+k+q.2) q.1) (arrOf p)))).isNone (setArr p (r.toList.zipIdx.foldl (λa (q:bN×Nat)=>a.setIfInBounds (sa+k+q.2) q.1) (arrOf p))):=λr p hr sm=>by
  have W:eB p=none:=sm.failed.trans hB.failed;have lr:r.toList.length=u - k+m:=by
   rw[hr.length_eq,vT,xT,xT,L,J]
  have Z:arrOf p=arrOf st:=sm.arr;have hw:=zcr (sa+k) r.toList 0 (arrOf p) (by rw[Z,sz];lia);show Q (eB p).isNone _;rw[W];refine h _ ⟨?_,sm.kind.trans hB.kind,W⟩ sm.pend;refine Array.Perm.trans ?_ hB.perm;rw[uaO];show((r.toList.zipIdx.foldl (λa (q:bN×Nat)=>a.setIfInBounds (sa+k+q.2) q.1) (arrOf p))).toList.Perm _;rw[hw,Z,Nat.add_zero,lr];have e3:(arrOf st).toList=(arrOf st).toList.take (sa+k)++(((arrOf st).extract (sa+k) (sa+u)).toList++((arrOf st).extract (sa+u) (sa+u+m)).toList)++(arrOf st).toList.drop (sa+k+(u - k+m)):=by
   have S:=zud (a:=arrOf st) (i:=sa+k) (k:=u - k) (by rw[sz];lia);have t2:=zud (a:=arrOf st) (i:=sa+u) (k:=m) (by rw[sz];lia);rw[show sa+k+(u - k)=sa+u by lia]at S
   conv=>lhs;rw[<- yF (sa+u+m) (arrOf st).toList,t2,S]
   rw[show sa+k+(u - k+m)=sa+u+m by lia,vW ((arrOf st).toList.take (sa+k))]
  conv=>rhs;rw[e3]
  exact(List.Perm.append_left _ hr).append_right _
 refine zj2 (λ_=>?_) λ_=>?_
 ·refine aI (zx91 M (by exact hB.kind) G B (by rw[L];lia) (by rw[J];lia) λr p hr sm=>?_);refine aI (bW (aI (dE (aJ ?_))));exact wr r p hr sm
 ·refine aI (zic1 M (by exact hB.kind) G B (by rw[L];lia) (by rw[J];lia) λr p hr sm=>?_);refine aI (bW (aI (dE (aJ ?_))));exact wr r p hr sm
end
def Chn:List (Nat×Nat×Nat)->Nat->Nat->Prop
|[],b,e=>b=e
|q :: r,b,e=>q.1=b/\1<=q.2.1/\Chn r (b+q.2.1) e
theorem Chn.le:∀{l:List (Nat×Nat×Nat)}{b e:Nat},Chn l b e->b<=e
|[],_,_,h=>uaA h
|q :: r,b,e,h=>by have:=Chn.le h.2.2;lia
theorem Chn.snoc:∀{l:List (Nat×Nat×Nat)}{b e n p:Nat},Chn l b e->1<=n->Chn (l++[(e,n,p)]) b (e+n)
|[],_,_,_,_,h,u=>by cases h;exact⟨rfl,u,rfl⟩
|q :: r,b,e,n,p,h,u=>⟨h.1,h.2.1,Chn.snoc h.2.2 u⟩
theorem Chn.two:∀{l:List (Nat×Nat×Nat)}{b e i:Nat},Chn l b e->i+1 < l.length->∃sa u z nb pb,l[i]?=some (sa,u,z)/\l[i+1]?=some (sa+u,nb,pb)/\1<=u/\1<=nb/\sa+u+nb<=e/\Chn ((l.set i (sa,u+nb,z)).eraseIdx (i+1)) b e
|(x,n,p) :: (y,m,p') :: r,b,e,0,h,_=>by
  obtain⟨I,G,B,L,J⟩:=h;have I:x=b:=I;have B:y=b+n:=B;subst I B;have le:=J.le;refine⟨_,_,_,_,_,rfl,rfl,G,L,le,rfl,?_,?_⟩
  ·show 1<=n+m;have G:1<=n:=G;lia
  ·show Chn r (x+(n+m)) e;rw[show x+(n+m)=x+n+m by lia];exact J
|q :: r,b,e,i+1,h,hl=>by
  obtain⟨sa,u,z,nb,pb,g1,Z,W,S,O,M⟩:=Chn.two (i:=i) h.2.2 (by simpa using hl);exact⟨sa,u,z,nb,pb,by simpa using g1,by simpa using Z,W,S,O,h.1,h.2.1,M⟩
|[_],_,_,0,_,h=>by simp at h
|[],_,_,_,_,h=>by simp at h
theorem Chn.pow:∀{l:List (Nat×Nat×Nat)}{b e i p:Nat},Chn l b e->Chn (l.modify i λq=>(q.1,q.2.1,p)) b e
|[],_,_,_,_,h=>by simpa using h
|q :: r,b,e,0,p,h=>by simpa[Chn]using h
|q :: r,b,e,i+1,p,h=>by
  rw[List.modify_succ_cons];exact⟨h.1,h.2.1,Chn.pow h.2.2⟩
section
variable {prog:aQ}{w:aR}{A:bB}{E:aC->aH->Prop}{s:aH}{κ:eC}{a₀:Array bN}{st:bJ}
theorem zuc1{c:Prop}[Decidable c]{u v:Nat}(q:u+1 < n)(p:v+1 < n):(if c then u else v)+1 < n:=by split <;> assumption
theorem zji(u:Cmp prog w A s κ a₀)(hB:PB κ a₀ st){e:Nat}(q:Chn (aS st).toList 0 e)(W:e<=a₀.size)(hi:i+1 < (aS st).size){Q:Bool->bJ->Prop}(h:∀p,PB κ a₀ p->Chn (aS p).toList 0 e->Q true p):wpS (aM prog w) A E s (lY i) Q st:=by
 obtain⟨sa,S,O,nb,pb,J,I,G,B,Z,z⟩:=q.two (i:=i) (by simpa using hi);refine zzl u hB (by rw[<- y3];exact J) (by rw[<- y3];exact I) G B (by lia) λp M L=>h p M ?_;rw[L];simp only[Array.toList_eraseIdxIfInBounds,ubC];exact z
theorem zy61(W:Cmp prog w A s κ a₀)(hB:PB κ a₀ st)(hp:aS st=#[]){Q:Unit->bJ->Prop}(h:∀p,PB κ a₀ p->Q () p):wpS (aM prog w) A E s sortRuns' Q st:=by
 rw[sortRuns'_eq];refine aI (dE ?_);dsimp only;rw[hB.size];generalize minRun' a₀.size a₀.size 0=mr;refine aI (bR (bG (I:=λ_ c p=>∃lo,c=(none,lo)/\PB κ a₀ p/\Chn (aS p).toList 0 lo/\lo<=a₀.size) (Q:=λc p=>∃lo,c=(none,lo)/\PB κ a₀ p/\Chn (aS p).toList 0 lo/\lo<=a₀.size) ?step (λc p z=>z) ⟨0,rfl,hB,by rw[hp];rfl,wH _⟩) ?post)
 case post =>
  rintro c p ⟨lo,rfl,b1,b2,b3⟩;dsimp only;refine aI (bR (bG (I:=λ_ c u=>c=(none,())/\PB κ a₀ u/\Chn (aS u).toList 0 lo) (Q:=λc u=>c=(none,())/\PB κ a₀ u/\Chn (aS u).toList 0 lo) ?s2 (λc p z=>z) ⟨rfl,b1,b2⟩) ?p2)
  case p2 =>
   rintro c u ⟨rfl,G,S⟩;exact aJ (h u G)
  case s2 =>
   rintro x c u _ _ ⟨rfl,G,S⟩;refine aI (dE ?_);refine zj2 (λ_=>aJ ⟨rfl,G,S⟩) λz=>?_;refine aI (zji W G S b3 (zuc1 (by lia) (by lia)) λL B J=>aJ ⟨rfl,B,J⟩)
 case step =>
  rintro x c st1 _ hx ⟨lo,rfl,b1,b2,b3⟩;dsimp only;refine zj2 (λ_=>aJ ⟨lo,rfl,b1,b2,b3⟩) λhlo=>?_;refine aI (zgy W b1 (by lia) (by lia) λm u m1 m2 G ep=>?_);have S:Chn (aS u).toList 0 lo:=by rw[ep];exact b2
  dsimp only;refine zj2 (λhm=>?_) λhm=>?_
  ·have O:1<=min (a₀.size - lo) mr:=by lia
   have M:lo+min (a₀.size - lo) mr<=a₀.size:=by lia
   refine aI (eA (cK ⟨rfl,?_⟩));refine aI (zp91 W G M λu G ep2=>?_);have S:Chn (aS u).toList 0 lo:=by rw[ep2];exact S
   simp only[Bool.not_true,yA,if_false];refine aI (dE ?_);cases hbk:(aS u).back? with
  |none =>
    dsimp only;exact aI (bW (aJ ⟨_,rfl,⟨G.perm,G.kind,G.failed⟩,by rw[yK];exact S.snoc O,M⟩))
  |some q =>
    obtain⟨s1,n1,p1⟩:=q;dsimp only;refine aI (bR (bG (I:=λ_ c p=>c=(none,())/\PB κ a₀ p/\Chn (aS p).toList 0 lo) (Q:=λc p=>c=(none,())/\PB κ a₀ p/\Chn (aS p).toList 0 lo) ?sx (λc p z=>z) ⟨rfl,G,S⟩) ?px)
    case px =>
     rintro c L ⟨rfl,B,J⟩;exact aI (bW (aI (bW (aJ ⟨_,rfl,⟨B.perm,B.kind,B.failed⟩,by rw[yK,ubG];exact(Chn.pow J).snoc O,M⟩))))
    case sx =>
     rintro y c L _ _ ⟨rfl,B,J⟩;refine aI (dE ?_);by_cases Z:(aS L).size > 1
     ·rw[aF Z,z9 (by lia)];dsimp only;refine zj2 (λ_=>aJ ⟨rfl,B,J⟩) λ_=>?_;exact aI (zji W B J b3 (by lia) λst4 f1 f2=>aJ ⟨rfl,f1,f2⟩)
     ·rw[aA Z];exact aJ ⟨rfl,B,J⟩
  ·have O:1<=m:=m1;have M:lo+m<=a₀.size:=by lia
   refine aI (dE ?_);cases hbk:(aS u).back? with
  |none =>
    dsimp only;exact aI (bW (aJ ⟨_,rfl,⟨G.perm,G.kind,G.failed⟩,by rw[yK];exact S.snoc O,M⟩))
  |some q =>
    obtain⟨s1,n1,p1⟩:=q;dsimp only;refine aI (bR (bG (I:=λ_ c p=>c=(none,())/\PB κ a₀ p/\Chn (aS p).toList 0 lo) (Q:=λc p=>c=(none,())/\PB κ a₀ p/\Chn (aS p).toList 0 lo) ?sx (λc p z=>z) ⟨rfl,G,S⟩) ?px)
    case px =>
     rintro c L ⟨rfl,B,J⟩;exact aI (bW (aI (bW (aJ ⟨_,rfl,⟨B.perm,B.kind,B.failed⟩,by rw[yK,ubG];exact(Chn.pow J).snoc O,M⟩))))
    case sx =>
     rintro y c L _ _ ⟨rfl,B,J⟩;refine aI (dE ?_);by_cases Z:(aS L).size > 1
     ·rw[aF Z,z9 (by lia)];dsimp only;refine zj2 (λ_=>aJ ⟨rfl,B,J⟩) λ_=>?_;exact aI (zji W B J b3 (by lia) λst4 f1 f2=>aJ ⟨rfl,f1,f2⟩)
     ·rw[aA Z];exact aJ ⟨rfl,B,J⟩
end
end _5
namespace _3
open PySem PySem.W PySem.Spec PyProof.Rows _5
variable {ns:List Int}{vs:List aC}
section
variable {s:aH}{w:aR}{prog:aQ}{E:aC->aH->Prop}{A:bB}
theorem zws{out:List aC}(p:out.Perm vs):∀{ns:List Int},cI vs ns->∃q:List Int,cI out q/\q.Perm ns:=by
 induction p with
|nil=>intro ns h;exact⟨ns,h,.rfl⟩
|cons x _ z =>
  intro ns h;cases h with
 |cons i t h =>
   obtain⟨q,a,b⟩:=z h;exact⟨i :: q,.cons i t a,b.cons i⟩
|swap x y _ =>
  intro ns h;cases h with
 |cons i t h =>
   cases h with
  |cons j u h=>exact⟨j :: i :: _,.cons j u (.cons i t h),List.Perm.swap ..⟩
|trans _ _ G B =>
  intro ns h;obtain⟨O,M,J⟩:=B h;obtain⟨n2,L,I⟩:=G M;exact⟨n2,L,I.trans J⟩
theorem zu01(h:cI vs ns){v:aC}(p:v∈vs):∃i t,v=.int i t:=by
 induction h with
|nil=>simp at p
|cons i t _ q =>
  rcases vR.mp p with z|z
  ·exact⟨i,t,z⟩
  ·exact q z
theorem zot{a:aE}{n:Nat}{P:PySem.Fin->aH->Prop}(go:s.heap.get? a=some (dR "list" vs.toArray n))(z:cI vs ns)(hz:vs.length<=1000)
  (h:∀(out:Array aC)(q:List Int),cI out.toList q->q.Perm ns->P (.done (.ret .none)) { s with heap:=sortedHeap s.heap a vs out }) :
  aL (aM prog w) A (Builtin.«list.sort» ⟨[.ref a],[]⟩) P E s:=by
 by_cases G:vs.length < 64
 ·exact list_sort_tree go z G λout q a b _=>h out q a b
 have al:a < s.heap.objs.size:=vY go;obtain⟨L,W⟩:∃L,(s.heap.update a (cU λ_=>#[])).get? a=some (dR "list" #[] L):=⟨_,get?_update_seq go λ_=>#[]⟩
 rw[list_sort_plain];refine aG (listItems_at go rfl (aG (listUpdate_at go rfl (aG (seqEpoch_at W rfl (aG (lI (aG (wpAny_newList (cO ?_) (by size_fits))) (by show vs.length<=_;rw[aY];lia))))) (by rw[vZ,aY];lia) (wH _))));have S:(((s.heap.update a (cU λ_=>#[])).push (dR "tuple" vs.toArray 0)).push (dR "list" #[] 0)).get? a=some (dR "list" #[] L):=vS _ (vS _ W);refine(show aL (aM prog w) A _ P E { s with heap:=((s.heap.update a (cU λ_=>#[])).push (dR "tuple" vs.toArray 0)).push (dR "list" #[] 0) }from ?_);dsimp only;have B:¬vs.toArray.size < 2:=by rw[vZ];lia
 rw[aA B,aA B];have kk:keyKind' vs.toArray=pure oneType':=by
  match vs,z,G with
 |v₁ :: v₂ :: Z,z,_=>exact keyKind_ints z
 |[_],_,h=>simp at h
 |[],_,h=>simp at h
 rw[kk];refine aG (aP ?_);have O:Cmp prog w A { s with heap:=((s.heap.update a (cU λ_=>#[])).push (dR "tuple" vs.toArray 0)).push (dR "list" #[] 0) } lX (vs.toArray.zip vs.toArray):=by
  intro x y J hy;have I:∀x:bN,x∈(vs.toArray.zip vs.toArray).toList->∃i t,x.1=.int i t:=λx J=>by
   rw[Array.toList_zip]at J;have:=(zT (a:=x.1) (b:=x.2) J).1;exact zu01 z (by simpa using this)
  obtain⟨i,t,ei⟩:=I x J;obtain⟨j,u,ej⟩:=I y hy;rw[ei,ej,keyLt'_oneType];exact⟨decide (i < j),λQ hq=>oneLt_int hq⟩
 have run:=zy61 (E:=E) (st:=SortSt.mk' lX (vs.toArray.zip vs.toArray) #[] 7 none) O ⟨Array.Perm.refl _,rfl,rfl⟩ rfl (Q:=λ_ p=>PB lX (vs.toArray.zip vs.toArray) p) λp b=>b;refine aG (cA run ?_ λ_ _ e=>e);rintro⟨⟨⟩,p⟩ s' ⟨rfl,b⟩;dsimp only;have po:((arrOf p).map (·.2)).toList.Perm vs:=by
  rw[Array.toList_map];refine((uaO.mp b.perm).map _).trans ?_;rw[Array.toList_zip,uaR (by simp)]
 have hsz:((arrOf p).map (·.2)).size=vs.length:=by rw[<- xT];exact po.length_eq
 have hf:eB p=none:=b.failed;obtain⟨q,M,pp⟩:=zws po z;refine aG (seqEpoch_at S rfl (aG (listUpdate_at (hsz2:=?_) S rfl ?_)))
 ·rw[hf];rw[aA (by simp)];exact aP (h _ q M pp)
 ·rw[hsz,aY];lia
end
open _2
section
variable {X:Cx}
def zjv(K:Fg):List V->Hp->VK->Prop:=λvs H Q=>∃(a:aE)(ns:List Int),vs=[.ref a]/\(SqL K H a (ns.map V.int)/\ns.length < 64 \/ ∃kvs:List (Key×V),H a=some (.dK kvs)/\kvs.map (·.1)=ns.map wW)/\ns.length<=1000 /\
 ∀p:List Int,p.Perm ns->∀l,H l=none->Q (.ref l) (upd H l (.lst (p.map V.int)))
theorem zhe{P:aQ}{w:aR}{i:Int}{v:aC}(h:(ze2 P w).is (.inl i) v=true):∃t,v=.int i t:=by
 have h:zC i v=true:=h;cases v <;> first
 |(simp[zC]at h;subst h;exact⟨_,rfl⟩)
 |(simp[zC]at h)
theorem zqe:∀{vs:List aC}{ns:List Int},vs.length=ns.length->(∀(j:Nat) v i,vs[j]?=some v->ns[j]?=some i->∃t,v=.int i t)->cI vs ns
|[],[],_,_=>.nil
|[],_ :: _,h,_=>by simp at h
|_ :: _,[],h,_=>by simp at h
|v :: vs,i :: ns,h,q=>by
  obtain⟨t,rfl⟩:=q 0 v i rfl rfl;exact .cons i t (zqe (by simpa using h) λj v i a b=>q (j+1) v i (by simpa using a) (by simpa using b))
theorem zog{K:Fg}(h:X.K=K)(hc:X.calm=true):CallR X (.builtin "sorted") (zjv K):=by
 subst h;walk_at"4";obtain⟨a,ns,rfl,M,hz,q⟩:=h;obtain⟨u,rfl,r1⟩:=zry r;cases r1;rcases M with⟨M,h6⟩|⟨kvs,M,hk⟩
 ·obtain⟨its,rv,p,hz'⟩:=I.list M;have hi:cI its ns:=znb rv;refine sorted_ints p.isList hi (by rw[rv.length.symm,u4];exact h6) λout B a1 O a3=>?_;obtain⟨e,he⟩:=sortedAll_at s.heap its out;refine⟨.ref _,upd H (s.heap.objs.size+1) (.lst (B.map V.int)),I.laid (a:=s.heap.objs.size+1) (t':=s.toks) (λb o=>sortedAll_old) (zS _) ?_,rfl,q B O _ (I.hok.fresh (zS _))⟩;refine⟨by rw[u4,O.length_eq,aY];lia,out.toList,e,zpa a1,?_⟩
  simpa[dR]using he
 ·obtain⟨z,hd,J,r0,dd⟩:=zl81 I.hok M;obtain⟨ep,hat⟩:=dd.dictAt;have Z:J.length=ns.length:=by
   have h1:=r0.length;have h2:=congrArg uaB hk;rw[u4,u4]at h2;lia
  refine Calls.call_function_entry kind_sorted plain_sorted entry_sorted (args_sorted1 _) ?_;unfold Builtin.«sorted»;refine aG (m:=checkCount "sorted" 1 1 _) (aP ?_);refine aG (PySem.W.kdu_collect (A:=X.A.in1) (PySem.W.kdl_dict (knd:=ze2 X.prog X.w) (kvs:=J) (ep:=ep) hd) (I.ok.hd hc) hat (by rw[aY];lia) λh' tk acc hk' G=>?_);have hl:acc.toList.length=J.length:=by rw[xT];exact G.1
  have hI:cI acc.toList ns:=zqe (by rw[hl,Z]) λj v i e1 e2=>by
   obtain⟨k,x,e3,e4⟩:=G.2 j v (by rw[<- y3];exact e1);have:k=.inl i:=by
    have e5:(kvs.map (·.1))[j]?=some k:=by
     have kk:∀{l:List (Key×V)}{m:List (Key×aC)}{j:Nat}{k x},KV l m->m[j]?=some (k,x)->(l.map (·.1))[j]?=some k:=by
      intro l m j k x r;unfold KV at r
      induction r generalizing j with
     |nil=>intro e;simp at e
     |cons h t ih =>
       intro e;cases j with
      |zero=>simp at e;simp[h.1,e]
      |succ j=>simp at e ⊢;simpa using ih e
     exact kk r0 e3
    rw[hk,u9,e2]at e5
    simpa using e5.symm
   subst this;exact zhe e4
  refine aG (wpAny_newList ?_ (by rw[hl,aY];lia));have L:(h'.push { cls:=.type "list",data:=.seq acc.toList.toArray }).get? h'.objs.size=some (dR "list" acc.toList.toArray 0):=wB _ rfl;refine aG (cO (dB slot_list_sort ⟨_,L,rfl⟩ entry_list_sort (zot L hI (by rw[hl];lia) λout B a1 O=>⟨_,rfl,?_⟩) (args_list_sort _)));refine aP ⟨_,rfl,?_⟩;obtain⟨e,he⟩:=sortedHeap_at (out:=out) L;have I2:=I.kept (t':=tk) hk';refine⟨.ref _,upd H h'.objs.size (.lst (B.map V.int)),I2.laid (a:=h'.objs.size) (t':=tk) (λb o ho=>?_) (u7 _) ?_,rfl,q B O _ (I2.hok.fresh (u7 _))⟩
  ·have S:=vY ho;rw[sortedHeap_old (wP S) (by rw[size_push'];exact zW S)];exact vS _ ho
  ·refine⟨by rw[u4,O.length_eq,aY];lia,out.toList,e,zpa a1,?_⟩
   simpa[dR]using he
end
end _3
namespace _4
open PySem PySem.Spec PyProof.Rows _2 _3
section
variable {K:Fg}{te ta ti tv tk tb:TE}{de da di dk db:DE}{dc:DC}{dp:DP}{tA:TA}{dA:DF}
theorem zqu{F:Hp}:∀(ns:List Int),IsAll K F (ns.map V.int) (ns.map u6)
|[]=>.nil
|n :: r=>.cons (.int n) (zqu r)
theorem KvIs.keys{F:Hp}:∀{kvs:List (Key×V)}{ds:List (Key×D)},KvIs K F kvs ds->kvs.map (·.1)=ds.map (·.1):=by
 intro kvs ds h
 induction h with
|nil=>rfl
|cons a r p=>simp_all
def zu11(u:T)(Q:List D->Prop):Prop:=match u with
|.dk kvs=>∃ns:List Int,kvs.map (·.1)=ns.map wW/\ns.length<=1000/\∀p:List Int,p.Perm ns->Q (p.map .int)
|_=>False
def zz61(dp:DP):DF:=λU Q=>dp U λ_ _ u=>zu11 u Q
theorem zmx(L:RfP K ta dp):RfF K (tCB (zjv K) (zkm ta tNil)) (zz61 dp):=by
 walk_at"0";refine L s rv h λi p u B v F2 H2 I J=>?_;obtain⟨fn,hr⟩:=J.rt (rv.ext I);cases hr with
|dk S Z O =>
  obtain⟨ns,W,hz,q⟩:=B;refine⟨_,ns,rfl,.inr ⟨_,S,by rw[<- W];exact O.keys⟩,hz,λG p1 l hl=>?_⟩;obtain⟨ex,fn⟩:=zr7 (xs:=G.map V.int) I.fh hl;have M:H l=none:=by
   cases z:H l with
  |none=>rfl
  |some o=>rw[I.h l o z]at hl;cases hl
  exact k _ (q G p1) l _ F2 _ (I.trans ex) M zp0 fn (zqu G)
|fz _=>exact B.elim
|li _ _ _=>exact B.elim
|ls _ _ _=>exact B.elim
|ob _ _ _ _ _=>exact B.elim
|dt _ _ _=>exact B.elim
|tp _ _ _=>exact B.elim
theorem zni(dp:DP)(U:DSt)(Q:List D->Prop):zz61 dp U Q=(dp U λ_ _ u=>zu11 u Q):=rfl
theorem zbi(kvs:List (Key×D))(Q:List D->Prop):zu11 (.dk kvs) Q=∃ns:List Int,kvs.map (·.1)=ns.map wW/\ns.length<=1000/\∀p:List Int,p.Perm ns->Q (p.map .int):=rfl
end
end _4
namespace _3
open PySem PySem.Spec PyProof.Rows _2
variable {K:Fg}{ps:List Str}{sp:Sp}{st:dI}{x:Str}
structure TopDefN(K:Fg)(x:Str)(st:dI):Prop where
 ex:∃(f T:aE)(oc:aC)(od:Option aE)(kV doc pm:aC)(an:Option aE)(cdv ct:aC)(osl:Array (Option aC))(o:Obj)(n:Nat),bA K aT x=some (some (.ref f)) /\
  K.lookup f=some ⟨oc,od,.func (bX x x (zt7 st) (zw2 st) (zh0 st) (.ref T) kV doc pm an cdv ct),osl⟩/\cY K cdv x=true/\bP K (.ref f)=true/\K.lookup T=some o/\o.data=.seq #[.none] n
theorem zir{f T:aE}{B:aC}{z G:Option aE}{p:Array (Option aC)}{kV q u cdv ct:aC}{o:Obj}{n:Nat}(a:bA K aT x=some (some (.ref f)))
  (l:K.lookup f=some ⟨B,z,.func (bX x x (zt7 st) (zw2 st) (zh0 st) (.ref T) kV q u G cdv ct),p⟩) (c:cY K cdv x=true) (k:bP K (.ref f)=true) (lt:K.lookup T=some o) (hd:o.data=.seq #[.none] n):TopDefN K x st :=
 ⟨f,T,B,z,kV,q,u,G,cdv,ct,p,o,n,a,l,c,k,lt,hd⟩
def DefN(P:aQ)(w:aR)(K:Fg)(mg:Str->Option aC)(base:aX)(x:Str)(k:Nat)(ps:List Str)(sp:Sp):Prop :=
 ∃f p,FnOk P w K mg base CX0 k f p ps sp/\Binds K p ps []/\Binds K p ps [.none]/\bP K (.ref f)=true/\mg x=some (.ref f)
theorem DefN.d{P:aQ}{w:aR}{mg:Str->Option aC}{base:aX}{k:Nat}(h:DefN P w K mg base x k ps sp):Def P w K mg base x k ps sp:=by
 obtain⟨f,q,F,b,_,p,m⟩:=h;exact⟨f,q,F,b,p,m⟩
abbrev zrj(x:Str)(st:dI)(ps:List Str)(ds:List aC)(qs:List Str):Prop :=
 ∀(T:aE)(kV p q:aC)(u:Option aE)(cdv ct:aC)(us:List aC),us.length=qs.length->∃k:Option (Array aC)->Sem (List (Str×aC)),iJ (bX x x (zt7 st) (zw2 st) (zh0 st) (.ref T) kV p q u cdv ct) ⟨us,[]⟩=lP (.ref T) >>= k/\k (some #[.none])=pure (ps.zip (us++ds))
section
variable {P:aQ}{w:aR}{K:Fg}{mg:Str->Option aC}{base:aX}
theorem zf31{N:List Str}{k:Nat}(M:Md K mg)(T:TopDefN K x st)(S:FnScope N ps (zh0 st)){qs:List Str}(hq:ps.length=qs.length+1)(hb:zrj x st ps [] ps)(Z:zrj x st ps [.none] qs)(len:∀vs H Q E,sp vs H Q E->vs.length=ps.length)
  (body:zd8 P w K mg base x st N k sp):DefN P w K mg base x (k+1) ps sp:=by
 obtain⟨f,t,oc,od,kV,u,J,L,cdv,ct,osl,o,n,a,lk,I,O,lt,hd⟩:=T.ex;refine⟨f,_,zye1 lk I S len λA outer s H vs Q E hr G=>?_,λs us p hl=>?_,λs us p hl=>?_,O,M.got a⟩
 ·obtain⟨t,h,q⟩:=body f cdv A outer s H vs Q E hr G;exact⟨t,PSs.nox h,q⟩
 ·obtain⟨W,B,z⟩:=hb t kV u J L cdv ct us (by simpa using hl);exact i9 p rfl lt hd B z
 ·obtain⟨W,B,z⟩:=Z t kV u J L cdv ct us (by rw[vT]at hl;simp only[zJ]at hl;lia);exact i9 p rfl lt hd B z
end
section
variable {X:Cx}{k:Nat}{C:aE}{ps:List Str}{sp:Sp}{x m:Str}{p pos apos:Pos}{e o:aZ}{es:List aZ}{ta:TE}{t:TA}
theorem ztm(d:DefN X.prog X.w X.K X.mg X.base x k ps sp)(hr:Room k X.A)(B:Gl X x)(I:PA X (e :: es) t)(u:(x == ("__debug__":Str))=false:=by decide)
  (G:aW (e :: es) X.env=(false,bD e X.env) :: aW es X.env:=by rfl) (q:(b7 pos (aW es X.env)).any (·.1)=false:=by rfl):PE X (.Call (.Name x p) (e :: es) [] pos) (zk21 sp [.non] E0 t):=by
 obtain⟨f,J,F,_,b,z,m⟩:=d;exact zpu F hr B m z b (.cons rfl .nil) zp21 I u G q
end
end _3
namespace _4
open PySem PySem.Spec PyProof.Rows _2 _3
section
variable {K:Fg}{te ta ti tv tk tb:TE}{de da di dk db:DE}{dc:DC}{dp:DP}{tA:TA}{dA:DF}
def zf61(p:DSp)(dA:DF):DE:=λU Q=>dA U λds=>p (ds++[.none]) Q
theorem zs61{F:Hp}:∀{vs us:List V}{ds es:List D},IsAll K F vs ds->IsAll K F us es->IsAll K F (vs++us) (ds++es)
|_,_,_,_,.nil,h=>h
|_,_,_,_,.cons a r,h=>.cons a (zs61 r h)
theorem zeq{p:DSp}{E:XK}(h:RfA K tA dA):RfE K (zk21 (spD K p) [.non] E tA) (zf61 p dA):=by
 walk_at"2";refine h s rv hd λds G vs J M u B=>?_;exact⟨J,ds++[.none],Qd,u.fh,zs61 B (.cons .non .nil),G,λd q v L H' I z=>k d q v L H' (u.trans I) z⟩
theorem zlg(p:DSp)(dA:DF)(U:DSt)(Q:D->Prop):zf61 p dA U Q=(dA U λds=>p (ds++[.none]) Q):=rfl
end
end _4
namespace _5
open PySem PySem.Spec PyProof.Rows _2 _3 _4
theorem ar1{α:Type}{us:List α}(h:us.length=1):∃a,us=[a]:=by
 rcases us with _|⟨a,_|⟨b,us⟩⟩
 ·cases h
 ·exact⟨a,rfl⟩
 ·cases h
theorem ars{α:Type}{n:Nat}{us:List α}(h:us.length=n+1):∃a r,us=a :: r/\r.length=n:=by
 rcases us with _|⟨a,us⟩
 ·cases h
 ·exact⟨a,us,rfl,Nat.succ.inj h⟩
theorem ar2{α:Type}{us:List α}(h:us.length=2):∃a b,us=[a,b]:=by
 obtain⟨a,r,rfl,k⟩:=ars h;obtain⟨b,rfl⟩:=ar1 k;exact⟨a,b,rfl⟩
theorem ar3{α:Type}{us:List α}(h:us.length=3):∃a b c,us=[a,b,c]:=by
 obtain⟨a,r,rfl,k⟩:=ars h;obtain⟨b,c,rfl⟩:=ar2 k;exact⟨a,b,c,rfl⟩
theorem ar4{α:Type}{us:List α}(h:us.length=4):∃a b c d,us=[a,b,c,d]:=by
 obtain⟨a,r,rfl,k⟩:=ars h;obtain⟨b,c,d,rfl⟩:=ar3 k;exact⟨a,b,c,d,rfl⟩
theorem ar5{α:Type}{us:List α}(h:us.length=5):∃a b c d e,us=[a,b,c,d,e]:=by
 obtain⟨a,r,rfl,k⟩:=ars h;obtain⟨b,c,d,e,rfl⟩:=ar4 k;exact⟨a,b,c,d,e,rfl⟩
def gL(n:Nat)(gs:DGs):DG:=λd U G=>match d with
|.list ds=>ds.length=n/\gs ds U G
|_=>False
theorem e_gL(n:Nat)(gs:DGs)(d:D)(U:DSt)(G:DSt->Prop):gL n gs d U G=(match d with
|.list ds=>ds.length=n/\gs ds U G
|_=>False):=rfl
section
variable {P:aQ}{w:aR}{K:Fg}{mg:Str->Option aC}{base:aX}{m:Str}{k:Nat}{ta:TE}{tA:TA}{dn:DN}{dA:DF}
abbrev Tab:=List (aE×DSpT)
def ze41(m:Str)(tab:Tab)(dn:DN)(dA:DF):DN:=λU Q=>dn U λu=>match u with
|.ob C fs=>noM m (.ob C fs)/\∃p,(C,p)∈tab/\dA U λds=>p (.b (.ob C fs) :: ds.map .d) λr _=>Q r
|_=>False
theorem zxi(m:Str)(tab:Tab)(dn:DN)(dA:DF)(U:DSt)(Q:T->Prop):ze41 m tab dn dA U Q=(dn U λu=>match u with
|.ob C fs=>noM m (.ob C fs)/\∃p,(C,p)∈tab/\dA U λds=>p (.b (.ob C fs) :: ds.map .d) λr _=>Q r
|_=>False):=rfl
theorem zl71{F H:Hp}:∀{vs:List V}{ds:List D},IsAll K F vs ds->ArgsR K F H vs (ds.map .d) [] none
|_,_,.nil=>.nil
|_,_,.cons h r=>.d h (zl71 r)
theorem zfz{tab:Tab}(ht:∀C p,(C,p)∈tab->∃ps,MethD P w K mg base C m k ps (spT K p))(h1:RfN K ta dn)(h2:RfA K tA dA):RfN K (zv71 P w K mg base m k ta tA) (ze41 m tab dn dA):=by
 intro F H Y U Qd Q s rv hd kk;refine h1 s rv hd λu q v F1 H1 fp I Z J fr1=>?_;cases Z with
|ob W g2 g3 g4 S =>
  rename_i a C dx kvs fs M
  obtain⟨nm,p,hp,hq⟩:=q;obtain⟨ps,md⟩:=ht C p hp;refine⟨a,C,dx,kvs,ps,_,rfl,W,(S.keys m).1 nm,md,h2 I.fh (rv.ext I) hq λds L vs F2 H2 G i2=>?_⟩;have O:Rt K F2 H2 (.ref a) (.ob C fs) (a :: dx :: M):=(Rt.ob W g2 g3 g4 S).ext G;have B:=I.trans G;refine⟨F2,_,_,none,_,G.fh,.b O J (zl71 i2),(λb z=>by simp[ofp]at z),L,λO t2 q2 v F' H' fpr fpo post=>?_⟩;exact kk _ q2 v F' H' fpr (B.trans ⟨λb o z=>post.hh b o (by simp[ofp]) z,post.ff,post.fh,post.nw⟩) post.rt post.nd λb z=>zk2 B (post.fr b z)
|fz _=>exact q.elim
|li _ _ _=>exact q.elim
|ls _ _ _=>exact q.elim
|dk _ _ _=>exact q.elim
|dt _ _ _=>exact q.elim
|tp _ _ _=>exact q.elim
theorem tab3{B z u:aE}{p1 p2 q:DSpT}(J:∃ps,MethD P w K mg base B m k ps (spT K p1))(I:∃ps,MethD P w K mg base z m k ps (spT K p2))(G:∃ps,MethD P w K mg base u m k ps (spT K q)) :
  ∀C p,(C,p)∈[(B,p1),(z,p2),(u,q)]->∃ps,MethD P w K mg base C m k ps (spT K p):=λC p h=>by
 rcases vR.mp h with e|h
 ·cases e;exact J
 rcases vR.mp h with e|h
 ·cases e;exact I
 rcases vR.mp h with e|h
 ·cases e;exact G
 ·simp at h
end
end _5
namespace _4
open PySem PySem.Spec PyProof.Rows _2 _3
section
variable {K:Fg}{ta:TE}{dp:DP}
def kD:Key->D
|.inl i=>.int i
|.inr x=>.str x
end
end _4
namespace _5
variable {E:List Nat}{L:List Int}{S:List (List Nat)}{a m:Nat}{lv:List (Nat×Nat)}
def xr(s:Nat):Nat:=if s % 2=0 then s+1 else s - 1
theorem zdb1(s:Nat):xr (xr s)=s:=by unfold xr;split <;> split <;> lia
theorem zi81{s:Nat}(h:s < 2 * m):xr s < 2 * m:=by unfold xr;split <;> lia
theorem zeb1(s:Nat):xr s≠s:=by unfold xr;split <;> lia
def hd(E:List Nat)(s:Nat):Nat:=E.getD s 0
def tl(E:List Nat)(s:Nat):Nat:=hd E (xr s)
theorem zp81(E:List Nat)(s:Nat):tl E (xr s)=hd E s:=by unfold tl;rw[zdb1]
theorem zt71(E:List Nat)(s:Nat):hd E (xr s)=tl E s:=rfl
def lf(L:List Int)(s:Nat):Int:=L.getD s 0
structure Net(n m:Nat)(E:List Nat)(S:List (List Nat)):Prop where
 lE:E.length=2 * m
 bE:∀s,s < 2 * m->hd E s < n
 lS:S.length=n
 s1:∀(v:Nat) l,S[v]?=some l->∀s∈l,s < 2 * m/\tl E s=v
 s2:∀s,s < 2 * m->∃l,S[tl E s]?=some l/\s∈l
def lkp(lv:List (Nat×Nat))(v:Nat):Option Nat:=(lv.find? λp=>decide (p.1=v)).map (·.2)
theorem zdd{u v:Nat}:lkp (lv++[(u,a)]) v=match lkp lv v with
 |some b=>some b
 |none=>if u=v then some a else none:=by
 unfold lkp;rw[List.find?_append];cases h:lv.find? λp=>decide (p.1=v)with
|some x=>simp
|none =>
  by_cases e:u=v
  ·simp[e]
  ·simp[e]
theorem zqn{v:Nat}(h:lkp lv v=some a):(v,a)∈lv:=by
 unfold lkp at h;obtain⟨p,u,e⟩:=w6.mp h;have z:=List.mem_of_find?_eq_some u;have q:=List.find?_some u;simp at q;obtain⟨p1,p2⟩:=p;simp at q e;subst q e;exact z
theorem zwi{v:Nat}(h:lkp lv v=none):v ∉ lv.map (·.1):=by
 unfold lkp at h;rw[Option.map_eq_none_iff,List.find?_eq_none]at h;intro u;obtain⟨p,q,e⟩:=vQ.mp u;have:=h p q;simp[e]at this
theorem zx0:∀(n:Nat)(l:List Nat),l.Nodup->(∀x∈l,x < n)->l.length<=n
|0,[],_,_=>u7 _
|0,x :: r,_,h=>aN (h x (by simp)) (by lia)
|n+1,l,nd,h=>by
  by_cases z:n∈l
  ·have G:(l.erase n).length=l.length - 1:=List.length_erase_of_mem z;have B:(l.erase n).Nodup:=nd.erase n;have q:∀x∈l.erase n,x < n:=λx p=>by
    have u:=(List.Nodup.mem_erase_iff nd).mp p;have:=h x u.2;lia
   have:=zx0 n _ B q;lia
  ·have q:∀x∈l,x < n:=λx p=>by
    have:=h x p;have:x≠n:=λe=>z (e ▸ p);lia
   have:=zx0 n l nd q;lia
structure Lev(n m:Nat)(E:List Nat)(L:List Int)(src:Nat)(lv:List (Nat×Nat)):Prop where
 nd:(lv.map (·.1)).Nodup
 bd:∀p∈lv,p.1 < n
 l0:lkp lv src=some 0
 z0:∀v,lkp lv v=some 0->v=src
 cl:∀s,s < 2 * m->0 < lf L s->(lkp lv (tl E s)).isSome=true->(lkp lv (hd E s)).isSome=true
 pr:∀v a,lkp lv v=some (a+1)->∃s,s < 2 * m/\0 < lf L s/\hd E s=v/\lkp lv (tl E s)=some a
def Adm(E:List Nat)(L:List Int)(lv:List (Nat×Nat))(s:Nat):Prop:=0 < lf L s/\∃a,lkp lv (tl E s)=some a/\lkp lv (hd E s)=some (a+1)
inductive Rch(m:Nat)(E:List Nat)(L:List Int)(lv:List (Nat×Nat))(t:Nat):Nat->Prop
|here:Rch m E L lv t t
|step {s:Nat}:s < 2 * m->Adm E L lv s->Rch m E L lv t (hd E s)->Rch m E L lv t (tl E s)
theorem zkf{n m:Nat}{E:List Nat}{L:List Int}{src:Nat}{lv:List (Nat×Nat)}(h:Lev n m E L src lv){t:Nat}:∀(a v:Nat),lkp lv v=some a->Rch m E L lv t v->Rch m E L lv t src
|0,v,e,r=>by rw[<- h.z0 v e];exact r
|a+1,v,e,r=>by
  obtain⟨s,z,u,q,p⟩:=h.pr v a e;refine zkf h a (tl E s) p (.step z ⟨u,a,p,by rw[q];exact e⟩ (by rw[q];exact r))
theorem Rch.mono{q:List Int}{t v:Nat}(h:∀s,s < 2 * m->Adm E q lv s->Adm E L lv s)(r:Rch m E q lv t v):Rch m E L lv t v:=by
 induction r with
|here=>exact .here
|step p z _ u=>exact .step p (h _ p z) u
structure Tri(m:Nat)(E:List Nat)(S:List (List Nat))(L:List Int)(lv:List (Nat×Nat))(t:Nat)(TT:List (List Nat)):Prop where
 len:TT.length=S.length
 pre:∀(v:Nat) l,TT[v]?=some l->∃k,S[v]?=some k/\l <+: k
 vain:∀(v:Nat) l k,TT[v]?=some l->S[v]?=some k->∀(j:Nat) s,l.length<=j->k[j]?=some s->¬(Adm E L lv s/\Rch m E L lv t (hd E s))
theorem Tri.mono{m:Nat}{E:List Nat}{S:List (List Nat)}{L u:List Int}{lv:List (Nat×Nat)}{t:Nat}{TT:List (List Nat)}(h:∀s,s < 2 * m->Adm E u lv s->Adm E L lv s)(G:∀(v:Nat) k,S[v]?=some k->∀s∈k,s < 2 * m)(r:Tri m E S L lv t TT):Tri m E S u lv t TT :=
 ⟨r.len,r.pre,λv l k I q j s B p z=>r.vain v l k I q j s B p ⟨h s (G v k q s (wK p)) z.1,z.2.mono h⟩⟩
theorem Tri.all{t:Nat}:Tri m E S L lv t S :=
 ⟨rfl,λv l h=>⟨l,h,List.prefix_refl _⟩,λv l k z q j s u p=>by
  rw[z]at q;cases q;rw[v8 u]at p;cases p⟩
theorem Tri.dead{n:Nat}{t:Nat}{TT:List (List Nat)}(N:Net n m E S)(r:Tri m E S L lv t TT){v:Nat}(h:TT[v]?=some [])(p:v≠t):¬Rch m E L lv t v:=by
 intro z;cases z with
|here=>exact p rfl
|step I G B =>
  obtain⟨l,hl,q⟩:=N.s2 _ I;obtain⟨j,u,e⟩:=uaS q;exact r.vain _ [] l h hl j _ (wH _) (by rw[<- e];exact u5 u) ⟨G,B⟩
theorem Tri.cut{t:Nat}{TT:List (List Nat)}(r:Tri m E S L lv t TT){v:Nat}{l:List Nat}(h:TT[v]?=some l){k:Nat}(hk:k<=l.length)
  (hv:∀(j:Nat) s,k<=j->l[j]?=some s->¬(Adm E L lv s/\Rch m E L lv t (hd E s))):Tri m E S L lv t (TT.set v (l.take k)):=by
 have O:v < TT.length:=by
  rcases wX v TT.length with z|z
  ·exact z
  ·rw[v8 z]at h;cases h
 have key:∀(u:Nat) x,(TT.set v (l.take k))[u]?=some x->(u=v/\x=l.take k) \/ (u≠v/\TT[u]?=some x):=λu x e=>by
  rw[xX]at e;by_cases z:v=u
  ·subst z;simp[O]at e;exact .inl ⟨rfl,e.symm⟩
  ·simp[z]at e;exact .inr ⟨λy=>z y.symm,e⟩
 refine⟨by rw[wN];exact r.len,λu x e=>?_,λu x y e q j s Z B=>?_⟩
 ·rcases key u x e with⟨rfl,rfl⟩|⟨_,J⟩
  ·obtain⟨W,I,G⟩:=r.pre u l h;exact⟨W,I,(List.take_prefix _ _).trans G⟩
  ·exact r.pre u x J
 ·rcases key u x e with⟨rfl,rfl⟩|⟨_,J⟩
  ·by_cases p:j < l.length
   ·obtain⟨W,I,G⟩:=r.pre u l h;rw[I]at q;cases q;have M:l[j]?=some s:=by
     rw[<- B];exact(List.prefix_iff_getElem?.mp G j p) ▸ u5 p
    refine hv j s ?_ M;rw[wM]at Z;lia
   ·exact r.vain u l y h q j s (by lia) B
  ·exact r.vain u x y J q j s Z B
def Way(m:Nat)(E:List Nat)(L:List Int)(lv:List (Nat×Nat)):Nat->List Nat->Nat->Prop
|v,[],t=>v=t
|v,s :: p,t=>s < 2 * m/\tl E s=v/\Adm E L lv s/\Way m E L lv (hd E s) p t
theorem Way.snoc{m:Nat}{E:List Nat}{L:List Int}{lv:List (Nat×Nat)}:∀{v:Nat}{p:List Nat}{u s:Nat},Way m E L lv v p u->s < 2 * m->tl E s=u->Adm E L lv s->Way m E L lv v (p++[s]) (hd E s)
|v,[],u,s,h,B,z,q=>⟨B,by rw[z];exact h.symm,q,rfl⟩
|v,x :: p,u,s,h,B,z,q=>⟨h.1,h.2.1,h.2.2.1,Way.snoc h.2.2.2 B z q⟩
theorem Way.unsnoc{m:Nat}{E:List Nat}{L:List Int}{lv:List (Nat×Nat)}:∀{v:Nat}{p:List Nat}{u s:Nat},Way m E L lv v (p++[s]) u->Way m E L lv v p (tl E s)/\hd E s=u/\s < 2 * m/\Adm E L lv s
|v,[],u,s,h=>⟨h.2.1.symm,h.2.2.2,h.1,h.2.2.1⟩
|v,x :: p,u,s,h=>by
  obtain⟨a,b,c,d⟩:=Way.unsnoc h.2.2.2;exact⟨⟨h.1,h.2.1,h.2.2.1,a⟩,b,c,d⟩
theorem Way.level{m:Nat}{E:List Nat}{L:List Int}{lv:List (Nat×Nat)}:∀{v:Nat}{p:List Nat}{u a:Nat},Way m E L lv v p u->lkp lv v=some a->lkp lv u=some (a+p.length)
|v,[],u,a,h,e=>by rw[show v=u from h]at e;exact e
|v,x :: p,u,a,h,e=>by
  obtain⟨I,G,⟨_,b,q,B⟩,z⟩:=h;rw[G,e]at q;cases q;have:=Way.level z B;rw[this];congr 1;simp;lia
theorem Way.tails{m:Nat}{E:List Nat}{L:List Int}{lv:List (Nat×Nat)}:∀{v:Nat}{p:List Nat}{u a:Nat},Way m E L lv v p u->lkp lv v=some a->∀s∈p,∃b,a<=b/\lkp lv (tl E s)=some b/\lkp lv (hd E s)=some (b+1)
|v,[],u,a,_,_,s,q=>by simp at q
|v,x :: p,u,a,h,e,s,q=>by
  obtain⟨Z,I,⟨_,b,G,B⟩,O⟩:=h;rw[I,e]at G;cases G;rcases vR.mp q with z|z
  ·subst z;exact⟨a,u7 _,by rw[I];exact e,B⟩
  ·obtain⟨c,W,M,J⟩:=Way.tails O B s z;exact⟨c,by lia,M,J⟩
theorem Way.nodup{m:Nat}{E:List Nat}{L:List Int}{lv:List (Nat×Nat)}:∀{v:Nat}{p:List Nat}{u a:Nat},Way m E L lv v p u->lkp lv v=some a->p.Nodup/\∀s∈p,xr s ∉ p
|v,[],u,a,_,_=>⟨.nil,λs J=>by simp at J⟩
|v,x :: p,u,a,h,e=>by
  obtain⟨h1,Z,⟨_,b,W,B⟩,I⟩:=h;rw[Z,e]at W;cases W;obtain⟨n1,n2⟩:=Way.nodup I B;have tx:lkp lv (tl E x)=some a:=by rw[Z];exact e
  refine⟨v9.mpr ⟨λz=>?_,n1⟩,λs J O=>?_⟩
  ·obtain⟨c,M,q,_⟩:=Way.tails I B x z;rw[tx]at q;cases q;lia
  ·rcases vR.mp J with z|z
   ·subst z;rcases vR.mp O with y|y
    ·exact zeb1 _ y
    ·obtain⟨c,M,q,G⟩:=Way.tails I B _ y;rw[zp81,B]at q;cases q;rw[zt71,tx]at G;injection G with G;lia
   ·rcases vR.mp O with y|y
    ·obtain⟨c,M,q,G⟩:=Way.tails I B s z;have e1:x=xr s:=y.symm;subst e1;rw[zt71,q]at B;cases B;rw[zp81,G]at tx;injection tx with tx;lia
    ·exact n2 s z y
variable {E p:List Nat}{L:List Int}{a:Int}{a0 m s:Nat}{lv:List (Nat×Nat)}
def zmi(L:List Int)(s:Nat)(a:Int):List Int:=(L.set s (lf L s - a)).set (xr s) (lf L (xr s)+a)
def za3(L:List Int)(p:List Nat)(a:Int):List Int:=p.foldl (λL s=>zmi L s a) L
theorem zxd(L:List Int)(s:Nat)(a:Int):(zmi L s a).length=L.length:=by simp[zmi]
theorem zzb(a:Int):∀(p:List Nat)(L:List Int),(za3 L p a).length=L.length
|[],L=>rfl
|s :: p,L=>by show(za3 (zmi L s a) p a).length=_;rw[zzb a p,zxd]
theorem zny{i j:Nat}{x:Int}(h:i < L.length):lf (L.set i x) j=if i=j then x else lf L j:=by
 unfold lf;rw[wD,wD,xX];by_cases e:i=j
 ·subst e;simp[h]
 ·simp[e]
theorem zaj{j:Nat}(hl:L.length=2 * m)(B:s < 2 * m):lf (zmi L s a) j=if j=s then lf L s - a else if j=xr s then lf L (xr s)+a else lf L j:=by
 unfold zmi;rw[zny (by rw[wN,hl];exact zi81 B),zny (by lia)];by_cases u:j=s
 ·subst u;rw[aA (zeb1 j),aF rfl,aF rfl]
 ·rw[aA u];by_cases q:j=xr s
  ·rw[aF q.symm,aF q]
  ·rw[aA (λz=>q z.symm),aA q,aA (λz=>u z.symm)]
theorem zlb{m:Nat}{a:Int}:∀{p:List Nat}{L:List Int}{j:Nat},L.length=2 * m->(∀s∈p,s < 2 * m)->p.Nodup->(∀s∈p,xr s ∉ p)->lf (za3 L p a) j=if j∈p then lf L j - a else if xr j∈p then lf L j+a else lf L j
|[],L,j,_,_,_,_=>by simp[za3]
|s :: p,L,j,hl,J,nd,nx=>by
  have W:=J s (by simp);have q:=v9.mp nd;have u:xr s ∉ p:=λz=>nx s (by simp) (by simp[z]);have O:=zlb (a:=a) (p:=p) (L:=zmi L s a) (j:=j) (by rw[zxd];exact hl) (λt B=>J t (by simp[B])) q.2 (λt B z=>nx t (by simp[B]) (by simp[z]));show lf (za3 (zmi L s a) p a) j=_;rw[O,zaj hl W];by_cases I:j=s
  ·subst I;rw[aA q.1,aF rfl,aA u,aF (by simp)]
  ·by_cases G:j=xr s
   ·subst G;have M:xr s ∉ s :: p:=nx s (by simp);rw[aA u,zdb1,aA q.1,aA I,aF rfl,aA M,aF (by simp)]
   ·have Z:xr j≠s:=λz=>G (by rw[<- z,zdb1]);simp only[vR,I,G,Z,if_false,false_or]
def term(E:List Nat)(L:List Int)(v k:Nat):Int:=(if hd E (2 * k)=v then lf L (2 * k+1)else 0) - (if hd E (2 * k+1)=v then lf L (2 * k+1)else 0)
def bal(m:Nat)(E:List Nat)(L:List Int)(v:Nat):Int:=((u3 m).map (term E L v)).sum
theorem zre{f g:Nat->Int}{d:Int}{k0:Nat}:∀(m:Nat),k0 < m->(∀k,k≠k0->g k=f k)->g k0=f k0+d->((u3 m).map g).sum=((u3 m).map f).sum+d
|0,h,_,_=>by lia
|m+1,h,q,h2=>by
  rw[wV,v7,v7,y9,y9];by_cases e:k0=m
  ·subst e;have:(u3 k0).map g=(u3 k0).map f:=yG λk B=>q k (by have:=u8.mp B;lia);rw[this];simp[h2];lia
  ·have u:=zre m (by lia) q h2;rw[u];simp[q m (λz=>e z.symm)];lia
theorem zsx{v:Nat}(hl:L.length=2 * m)(z:s < 2 * m):bal m E (zmi L s a) v=bal m E L v+((if hd E s=v then a else 0) - (if tl E s=v then a else 0)):=by
 unfold bal;refine zre (k0:=s / 2) m (by lia) (λk I=>?_) ?_
 ·unfold term;have:lf (zmi L s a) (2 * k+1)=lf L (2 * k+1):=by
   rw[zaj hl z,aA (by lia),aA (by unfold xr;split <;> lia)]
  rw[this]
 ·unfold term;by_cases e:s % 2=0
  ·have u:2 * (s / 2)=s:=by lia
   have q:xr s=s+1:=by unfold xr;rw[aF e]
   have B:lf (zmi L s a) (2 * (s / 2)+1)=lf L (2 * (s / 2)+1)+a:=by
    rw[zaj hl z,u,aA (by lia),aF q.symm,q]
   rw[B,u];have G:tl E s=hd E (s+1):=by unfold tl;rw[q]
   rw[G];split <;> split <;> lia
  ·have u:2 * (s / 2)+1=s:=by lia
   have q:xr s=2 * (s / 2):=by unfold xr;rw[aA e];lia
   have B:lf (zmi L s a) (2 * (s / 2)+1)=lf L (2 * (s / 2)+1) - a:=by
    rw[zaj hl z,u,aF rfl]
   rw[B,u];have G:tl E s=hd E (2 * (s / 2)):=by unfold tl;rw[q]
   rw[G];split <;> split <;> lia
theorem zz8{m:Nat}{E:List Nat}{u:List Int}{lv:List (Nat×Nat)}{a:Int}{w:Nat}:∀{p:List Nat}{L:List Int}{v t:Nat},L.length=2 * m->Way m E u lv v p t->bal m E (za3 L p a) w=bal m E L w+((if t=w then a else 0) - (if v=w then a else 0))
|[],L,v,t,_,h=>by
  rw[show v=t from h];show bal m E L w=_;lia
|s :: p,L,v,t,hl,h=>by
  have q:=zz8 (a:=a) (w:=w) (p:=p) (L:=zmi L s a) (by rw[zxd];exact hl) h.2.2.2;show bal m E (za3 (zmi L s a) p a) w=_;rw[q,zsx hl h.1,h.2.1];lia
structure Cap(m:Nat)(most:Nat->Int)(L:List Int):Prop where
 len:L.length=2 * m
 nn:∀s,s < 2 * m->0<=lf L s
 sm:∀k,k < m->lf L (2 * k)+lf L (2 * k+1)=most k
theorem Cap.carry{most:Nat->Int}{v t:Nat}(c:Cap m most L)(h:Way m E L lv v p t)(O:lkp lv v=some a0)(ha:0<=a)(W:∀s∈p,a<=lf L s):Cap m most (za3 L p a):=by
 obtain⟨nd,nx⟩:=h.nodup O;have I:∀{v p t},Way m E L lv v p t->∀s∈p,s < 2 * m:=λ{v p t} h=>by
  induction p generalizing v with
 |nil=>intro s B;simp at B
 |cons x p M =>
   intro s B;rcases vR.mp B with z|z
   ·subst z;exact h.1
   ·exact M h.2.2.2 s z
 have I:=I h;have G:∀j,lf (za3 L p a) j=if j∈p then lf L j - a else if xr j∈p then lf L j+a else lf L j:=λj=>zlb c.len I nd nx
 refine⟨by rw[zzb];exact c.len,λs B=>?_,λk Z=>?_⟩
 ·rw[G];have:=c.nn s B;split
  ·rename_i z;have:=W s z;lia
  ·split <;> lia
 ·rw[G,G];have J:xr (2 * k)=2 * k+1:=by unfold xr;rw[aF (by lia)]
  have e2:xr (2 * k+1)=2 * k:=by unfold xr;rw[aA (by lia)];lia
  rw[J,e2];have:=c.sm k Z;by_cases u:2 * k∈p
  ·have q:2 * k+1 ∉ p:=λz=>nx _ u (by rw[J];exact z);rw[aF u,aA q,aF u];lia
  ·by_cases q:2 * k+1∈p
   ·rw[aA u,aF q,aF q];lia
   ·rw[aA u,aA q,aA q,aA u];lia
theorem zgt{v t:Nat}(hl:L.length=2 * m)(h:Way m E L lv v p t)(I:lkp lv v=some a0)(ha:0<=a):∀s,s < 2 * m->Adm E (za3 L p a) lv s->Adm E L lv s:=by
 intro s u ⟨q,b,M,J⟩;refine⟨?_,b,M,J⟩;obtain⟨nd,nx⟩:=h.nodup I;have hb:∀{v p t},Way m E L lv v p t->∀s∈p,s < 2 * m:=λ{v p t} h=>by
  induction p generalizing v with
 |nil=>intro s u;simp at u
 |cons x p Z =>
   intro s u;rcases vR.mp u with z|z
   ·subst z;exact h.1
   ·exact Z h.2.2.2 s z
 rw[zlb hl (hb h) nd nx]at q;by_cases W:s∈p
 ·rw[aF W]at q;lia
 ·rw[aA W]at q;by_cases O:xr s∈p
  ·-- the step against one of the way leads down
   obtain⟨c,k1,G,B⟩:=h.tails I (xr s) O;rw[zp81,J]at G;rw[zt71,M]at B;injection G with G;injection B with B;lia
  ·rw[aA O]at q;exact q
theorem zzs{v t:Nat}(hl:L.length=2 * m)(h:Way m E L lv v p t)(G:lkp lv v=some a0)
  (cl:∀s,s < 2 * m->0 < lf L s->(lkp lv (tl E s)).isSome=true->(lkp lv (hd E s)).isSome=true) (ha:0<=a):∀s,s < 2 * m->0 < lf (za3 L p a) s->(lkp lv (tl E s)).isSome=true->(lkp lv (hd E s)).isSome=true:=by
 intro s q u I;obtain⟨nd,nx⟩:=h.nodup G;have Z:∀{v p t},Way m E L lv v p t->∀s∈p,s < 2 * m:=λ{v p t} h=>by
  induction p generalizing v with
 |nil=>intro s q;simp at q
 |cons x p W =>
   intro s q;rcases vR.mp q with z|z
   ·subst z;exact h.1
   ·exact W h.2.2.2 s z
 rw[zlb hl (Z h) nd nx]at u;by_cases M:s∈p
 ·rw[aF M]at u;exact cl s q (by lia) I
 ·rw[aA M]at u;by_cases J:xr s∈p
  ·obtain⟨c,k1,B,O⟩:=h.tails G (xr s) J;rw[zt71]at O;rw[zp81]at B;rw[B];rfl
  ·rw[aA J]at u;exact cl s q u I
def tot(m:Nat)(most:Nat->Int):Int:=((u3 m).map most).sum
theorem zo71{most:Nat->Int}(c:Cap m most L)(v:Nat):bal m E L v<=tot m most:=by
 unfold bal tot;have:∀j,j<=m->((u3 j).map (term E L v)).sum<=((u3 j).map most).sum:=λj=>by
  induction j with
 |zero=>intro _;simp
 |succ j q =>
   intro u;have:=q (by lia);rw[wV,v7,v7,y9,y9];have I:=c.nn (2 * j) (by lia);have G:=c.nn (2 * j+1) (by lia);have B:=c.sm j (by lia);have z:term E L v j<=most j:=by unfold term;split <;> split <;> lia
   simp;lia
 exact this m (u7 _)
open PySem
abbrev nB(a b:String):Prop:=(x9 a==x9 b)=false
abbrev nE(a b:String):Prop:=(x9 a=x9 b)=False
theorem nN{a b:String}(h:nB a b):nE a b:=eq_false (beq_eq_false_iff_ne.mp h)
theorem zi5:nB "ends" "left":=by decide +kernel
theorem zr3:nB "ends" "steps":=by decide +kernel
theorem zh5:nB "left" "ends":=by decide +kernel
theorem zv3:nB "left" "steps":=by decide +kernel
theorem zt3:nB "steps" "ends":=by decide +kernel
theorem zw3:nB "steps" "left":=by decide +kernel
theorem ze4:nB "amounts" "ends":=by decide +kernel
theorem zo4:nB "amounts" "left":=by decide +kernel
theorem zl3:nB "amounts" "steps":=by decide +kernel
theorem zn5:nB "levels" "ends":=by decide +kernel
theorem zm5:nB "levels" "left":=by decide +kernel
theorem zm4:nB "levels" "steps":=by decide +kernel
theorem zh2:nB "row_behind" "ends":=by decide +kernel
theorem zg2:nB "row_behind" "left":=by decide +kernel
theorem zc2:nB "row_behind" "steps":=by decide +kernel
theorem zq4:nB "push_up" "ends":=by decide +kernel
theorem zh4:nB "push_up" "left":=by decide +kernel
theorem zb3:nB "push_up" "steps":=by decide +kernel
theorem zj5:nB "way_up" "ends":=by decide +kernel
theorem zf5:nB "way_up" "left":=by decide +kernel
theorem zj4:nB "way_up" "steps":=by decide +kernel
theorem zn4:nB "step_up" "ends":=by decide +kernel
theorem zi4:nB "step_up" "left":=by decide +kernel
theorem zj3:nB "step_up" "steps":=by decide +kernel
theorem zs6:nB "carry" "ends":=by decide +kernel
theorem zn6:nB "carry" "left":=by decide +kernel
theorem zg5:nB "carry" "steps":=by decide +kernel
theorem zg8:nE "ends" "left":=nN zi5
theorem zh7:nE "ends" "steps":=nN zr3
theorem zn8:nE "left" "ends":=nN zh5
theorem zw6:nE "left" "steps":=nN zv3
theorem zb7:nE "steps" "ends":=nN zt3
theorem zh6:nE "steps" "left":=nN zw3
theorem zz3:nB "wide" "since":=by decide +kernel
theorem zb4:nB "wide" "other":=by decide +kernel
theorem zb5:nB "wide" "turn":=by decide +kernel
theorem zu6:nB "since" "wide":=by decide +kernel
theorem zv6:nB "other" "wide":=by decide +kernel
theorem zy3:nB "other" "turn":=by decide +kernel
theorem zh8:nB "turn" "wide":=by decide +kernel
theorem za7:nB "turn" "other":=by decide +kernel
theorem zk3:nB "width_at" "wide":=by decide +kernel
theorem zr2:nB "width_at" "since":=by decide +kernel
theorem zu2:nB "width_at" "other":=by decide +kernel
theorem zd3:nB "width_at" "turn":=by decide +kernel
theorem zd7:nE "wide" "since":=nN zz3
theorem ze7:nE "wide" "other":=nN zb4
theorem zp8:nE "wide" "turn":=nN zb5
theorem zt6:nE "other" "turn":=nN zy3
open PySem.Spec PyProof.Rows _2 _3 _4
variable {m s:Nat}
def nI(x:Nat):D:=.int (x:Int)
abbrev dSt(S:List (List Nat)):D:=.list (S.map λl=>.list (l.map nI))
abbrev oS(C:aE)(E:List Nat)(L:List Int)(S:List (List Nat)):T:=.ob C [("ends",.fz (.list (E.map nI))),("left",.li (L.map .int)),("steps",.fz (dSt S))]
def kN(lv:List (Nat×Nat)):List (Key×D):=lv.map λp=>(.inl (p.1:Int),nI p.2)
theorem zm61(p v:Nat):((wW (p:Int):Key)=wW (v:Int))=(p=v):=by
 apply propext;constructor
 ·intro z;injection z with z;exact_mod_cast z
 ·intro z;rw[z]
theorem ztc(lv:List (Nat×Nat))(v:Nat):getA (kN lv) (.inl (v:Int))=(lkp lv v).map nI:=by
 unfold getA kN lkp
 induction lv with
|nil=>rfl
|cons p r q =>
  by_cases e:p.1=v
  ·simp[e]
  ·have u:¬(wW (p.1:Int):Key)=wW (v:Int):=by rw[zm61];exact e
   simp only[v4,yB];simp only[e,u,decide_false];exact q
theorem zv41{lv:List (Nat×Nat)}{v a:Nat}(h:lkp lv v=none):putD (kN lv) (.inl (v:Int)) (nI a)=kN (lv++[(v,a)]):=by
 unfold putD;have:((kN lv).any λkv=>decide (kv.1=(wW (v:Int):Key)))=false:=by
  rw[List.any_eq_false];intro kv q;unfold kN at q;obtain⟨p,u,rfl⟩:=vQ.mp q;have z:=zwi h;have:p.1≠v:=λe=>z (by rw[<- e];exact kP u);simp only[decide_eq_true_eq];rw[zm61];exact this
 rw[this];simp[kN]
theorem zpf1{l:List Nat}{i:Nat}(h:l[i]?=some s):atI (l.map nI) (i:Int)=some (nI s):=zie (by lia) (by rw[v6,u9,h];rfl)
theorem zr81{E:List Nat}(hl:E.length=2 * m)(q:s < 2 * m):atI (E.map nI) (s:Int)=some (nI (hd E s)):=by
 refine zpf1 ?_;unfold hd;rw[wD,u5 (by lia)];rfl
theorem zec1{L:List Int}(hl:L.length=2 * m)(q:s < 2 * m):atI (L.map u6) (s:Int)=some (.int (lf L s)):=by
 refine zie (by lia) ?_;rw[v6,u9];unfold lf;rw[wD,u5 (by lia)];rfl
theorem zig1{S:List (List Nat)}{v:Nat}{l:List Nat}(h:S[v]?=some l):atI (S.map λl=>(v5 (l.map nI))) (v:Int)=some (.list (l.map nI)):=zie (by lia) (by rw[v6,u9,h];rfl)
theorem zs41(s:Nat):(s:Int)+1 - 2 * ((s:Int) % 2)=((xr s:Nat):Int):=by unfold xr;split <;> lia
variable {E beh row:List Nat}{L:List Int}{lv lv1:List (Nat×Nat)}{m n src:Nat}
structure Bfs(n m:Nat)(E:List Nat)(L:List Int)(src:Nat)(lv:List (Nat×Nat))(row:List Nat)(lev:Nat):Prop where
 nd:(lv.map (·.1)).Nodup
 bd:∀p∈lv,p.1 < n
 l0:lkp lv src=some 0
 z0:∀v,lkp lv v=some 0->v=src
 ro:∀v∈row,lkp lv v=some lev
 le:∀v b,lkp lv v=some b->b<=lev/\(b=lev->v∈row)
 cl:∀v b,lkp lv v=some b->b < lev->∀s,s < 2 * m->tl E s=v->0 < lf L s->(lkp lv (hd E s)).isSome=true
 pr:∀v a,lkp lv v=some (a+1)->∃s,s < 2 * m/\0 < lf L s/\hd E s=v/\lkp lv (tl E s)=some a
theorem Bfs.start(h:src < n):Bfs n m E L src [(src,0)] [src] 0:=by
 have e:∀v,lkp [(src,0)] v=if src=v then some 0 else none:=λv=>by
  by_cases z:src=v
  ·simp[lkp,z]
  ·simp[lkp,z]
 refine⟨by simp,λp u=>?_,by rw[e];simp,λv q=>?_,λv q=>?_,λv b q=>?_,λv b _ B=>by lia,λv a q=>?_⟩
 ·simp at u;subst u;exact h
 ·rw[e]at q;split at q
  ·rename_i z;exact z.symm
  ·cases q
 ·simp at q;subst q;rw[e];simp
 ·rw[e]at q;split at q
  ·rename_i z;cases q;exact⟨u7 _,λ_=>by simp[z]⟩
  ·cases q
 ·rw[e]at q;split at q <;> cases q
theorem Bfs.lev{n m:Nat}{E:List Nat}{L:List Int}{src:Nat}{lv:List (Nat×Nat)}{lev:Nat}(h:Bfs n m E L src lv [] lev):Lev n m E L src lv:=by
 refine⟨h.nd,h.bd,h.l0,h.z0,λs G I B=>?_,h.pr⟩;obtain⟨b,u⟩:=xO.mp B;have:=h.le _ b u;have q:b < lev:=by
  rcases wX b lev with z|z
  ·exact z
  ·have:=this.2 (by lia);simp at this
 exact h.cl _ b u q s G rfl I
structure Mid(n m:Nat)(E:List Nat)(L:List Int)(lv:List (Nat×Nat))(lev:Nat)(lv1:List (Nat×Nat))(beh:List Nat):Prop where
 nd:(lv1.map (·.1)).Nodup
 bd:∀p∈lv1,p.1 < n
 old:∀v b,lkp lv v=some b->lkp lv1 v=some b
 new:∀v b,lkp lv1 v=some b->lkp lv v=some b \/ (b=lev+1/\v∈beh)
 ro:∀v∈beh,lkp lv1 v=some (lev+1)
 pr:∀v a,lkp lv1 v=some (a+1)->∃s,s < 2 * m/\0 < lf L s/\hd E s=v/\lkp lv1 (tl E s)=some a
 len:lv1.length=lv.length+beh.length
theorem Mid.start{lev:Nat}(h:Bfs n m E L src lv row lev):Mid n m E L lv lev lv [] :=
 ⟨h.nd,h.bd,λ_ _ z=>z,λ_ _ z=>.inl z,λv q=>by simp at q,h.pr,by simp⟩
theorem Mid.put{lev:Nat}{s:Nat}(h:Mid n m E L lv lev lv1 beh)(hs:s < 2 * m)(hp:0 < lf L s)(ht:lkp lv1 (tl E s)=some lev)(hn:hd E s < n)(J:lkp lv1 (hd E s)=none):Mid n m E L lv lev (lv1++[(hd E s,lev+1)]) (beh++[hd E s]):=by
 have keep:∀v b,lkp lv1 v=some b->lkp (lv1++[(hd E s,lev+1)]) v=some b:=λv b e=>by rw[zdd,e]
 have W:lkp (lv1++[(hd E s,lev+1)]) (hd E s)=some (lev+1):=by rw[zdd,J];simp
 have back:∀v b,lkp (lv1++[(hd E s,lev+1)]) v=some b->lkp lv1 v=some b \/ (v=hd E s/\b=lev+1):=λv b e=>by
  rw[zdd]at e;cases q:lkp lv1 v with
 |some c=>rw[q]at e;exact .inl e
 |none =>
   rw[q]at e;simp only at e;split at e
   ·rename_i z;cases e;exact .inr ⟨z.symm,rfl⟩
   ·cases e
 refine⟨?_,λp B=>?_,λv b e=>keep v b (h.old v b e),λv b e=>?_,λv hv=>?_,λv a e=>?_,by simp[h.len];lia⟩
 ·rw[v7];refine wS.mpr ⟨h.nd,by simp,λx hx y I z=>?_⟩;simp at I;subst I;subst z;exact zwi J hx
 ·rcases vV.mp B with z|z
  ·exact h.bd p z
  ·simp at z;subst z;exact hn
 ·rcases back v b e with z|⟨u,G⟩
  ·rcases h.new v b z with y|⟨O,M⟩
   ·exact .inl y
   ·exact .inr ⟨O,by simp[M]⟩
  ·exact .inr ⟨G,by simp[u]⟩
 ·rcases vV.mp hv with z|z
  ·exact keep v _ (h.ro v z)
  ·simp at z;rw[z];exact W
 ·rcases back v (a+1) e with z|⟨u,G⟩
  ·obtain⟨s',k1,k2,k3,Z⟩:=h.pr v a z;exact⟨s',k1,k2,k3,keep _ _ Z⟩
  ·have:a=lev:=by lia
   subst this;exact⟨s,hs,hp,u.symm,keep _ _ ht⟩
theorem Mid.bfs{S:List (List Nat)}{lev:Nat}(N:Net n m E S)(u:Bfs n m E L src lv row lev)(h:Mid n m E L lv lev lv1 beh)
  (cl:∀v∈row,∀l,S[v]?=some l->∀s∈l,0 < lf L s->(lkp lv1 (hd E s)).isSome=true):Bfs n m E L src lv1 beh (lev+1):=by
 refine⟨h.nd,h.bd,h.old _ _ u.l0,λv q=>?_,h.ro,λv b q=>?_,λv b q Z s G B I=>?_,h.pr⟩
 ·rcases h.new v 0 q with z|⟨z,_⟩
  ·exact u.z0 v z
  ·lia
 ·rcases h.new v b q with z|⟨M,J⟩
  ·have:=u.le v b z;exact⟨by lia,λe=>by lia⟩
  ·exact⟨by lia,λ_=>J⟩
 ·rcases h.new v b q with z|⟨M,_⟩
  ·have le:=u.le v b z;by_cases e:b=lev
   ·have hr:=le.2 e;obtain⟨l,hl,O⟩:=N.s2 s G;rw[B]at hl;exact cl v hr l hl s O I
   ·have:=u.cl v b z (by lia) s G B I;obtain⟨c,W⟩:=xO.mp this;rw[h.old _ c W];rfl
  ·lia
variable {E p:List Nat}{L:List Int}{S:List (List Nat)}{here m n s src:Nat}{lv:List (Nat×Nat)}
structure Go(m:Nat)(E:List Nat)(S:List (List Nat))(L:List Int)(lv:List (Nat×Nat))(t src:Nat)(p:List Nat)(here:Nat)(TT:List (List Nat)):Prop where
 tri:Tri m E S L lv t TT
 way:Way m E L lv src p here
 l0:lkp lv src=some 0
 last:∀s∈p,∃l,TT[tl E s]?=some (l++[s])
def szT(TT:List (List Nat)):Nat:=(TT.map uaB).sum
theorem zbb:∀{TT:List (List Nat)}{v:Nat}{l:List Nat}(k:List Nat),TT[v]?=some l->szT (TT.set v k)+l.length=szT TT+k.length
|[],v,l,k,h=>by simp at h
|x :: r,0,l,k,h=>by simp at h;subst h;simp[szT];lia
|x :: r,v+1,l,k,h=>by
  have:=zbb (TT:=r) (v:=v) k (by simpa using h);simp[szT]at this ⊢;lia
theorem Go.lev{t:Nat}{TT:List (List Nat)}(g:Go m E S L lv t src p here TT):lkp lv here=some p.length:=by
 have:=g.way.level g.l0
 rwa [Nat.zero_add]at this
theorem Go.short{t:Nat}{TT:List (List Nat)}(g:Go m E S L lv t src p here TT)(q:∀s∈p,s < 2 * m):p.length<=2 * m :=
 zx0 _ p (g.way.nodup g.l0).1 q
theorem Way.lt{m:Nat}{E:List Nat}{L:List Int}{lv:List (Nat×Nat)}:∀{v:Nat}{p:List Nat}{t:Nat},Way m E L lv v p t->∀s∈p,s < 2 * m
|_,[],_,_,s,q=>by simp at q
|v,x :: p,t,h,s,q=>by
  rcases vR.mp q with z|z
  ·rw[z];exact h.1
  ·exact h.2.2.2.lt s z
theorem Go.tails{t:Nat}{TT:List (List Nat)}(g:Go m E S L lv t src p here TT):∀s∈p,tl E s≠here:=by
 have key:∀{v:Nat}{p:List Nat}{u a:Nat},Way m E L lv v p u->lkp lv v=some a->∀s∈p,∃b,b < a+p.length/\lkp lv (tl E s)=some b:=by
  intro v p
  induction p generalizing v with
 |nil=>intro u a _ _ s q;simp at q
 |cons x r I =>
   intro u a h e s q;obtain⟨O,G,⟨Z,b,B,M⟩,J⟩:=h;have:b=a:=by rw[G,e]at B;injection B with B;exact B.symm
   subst this;rcases vR.mp q with z|z
   ·subst z;exact⟨b,by simp,B⟩
   ·obtain⟨c,c1,W⟩:=I J M s z;exact⟨c,by simp;lia,W⟩
 intro s q e;obtain⟨b,O,G⟩:=key g.way g.l0 s q;rw[e,g.lev]at G;injection G with G;lia
theorem Go.vain{t:Nat}{TT:List (List Nat)}(N:Net n m E S)(g:Go m E S L lv t src p here TT){l:List Nat}{j:Nat}(h:TT[here]?=some l)
  (u:∀(i:Nat) s,j<=i->l[i]?=some s->¬(0 < lf L s/\lkp lv (hd E s)=some (p.length+1))):∀(i:Nat) s,j<=i->l[i]?=some s->¬(Adm E L lv s/\Rch m E L lv t (hd E s)):=λi s hi e z=>by
 obtain⟨k,M,J⟩:=g.tri.pre here l h;obtain⟨_,I⟩:=N.s1 here k M s (J.subset (wK e));obtain⟨G,a,q,B⟩:=z.1;rw[I,g.lev]at q;injection q with q;subst q;exact u i s hi e ⟨G,B⟩
theorem Go.cut{m:Nat}{E:List Nat}{S:List (List Nat)}{L:List Int}{lv:List (Nat×Nat)}{t src:Nat}{p:List Nat}{here n:Nat}{TT:List (List Nat)}(N:Net n m E S)(g:Go m E S L lv t src p here TT){l:List Nat}{j:Nat}(h:TT[here]?=some l)(G:j<=l.length)
  (q:∀(i:Nat) s,j<=i->l[i]?=some s->¬(0 < lf L s/\lkp lv (hd E s)=some (p.length+1))):Go m E S L lv t src p here (TT.set here (l.take j)) :=
 ⟨g.tri.cut h G (g.vain N h q),g.way,g.l0,λs u=>by
  obtain⟨k,B⟩:=g.last s u;refine⟨k,?_⟩;rw[xS (λz=>g.tails s u z.symm)];exact B⟩
theorem zif{TT:List (List Nat)}{v:Nat}{l:List Nat}(h:TT[v]?=some l):v < TT.length:=by
 rcases wX v TT.length with z|z
 ·exact z
 ·rw[v8 z]at h;cases h
theorem Go.fwd{t:Nat}{TT:List (List Nat)}(N:Net n m E S)(g:Go m E S L lv t src p here TT){l:List Nat}{j:Nat}(h:TT[here]?=some l)(h0:0 < j)(Z:j<=l.length)
  (B:∀(i:Nat) s,j<=i->l[i]?=some s->¬(0 < lf L s/\lkp lv (hd E s)=some (p.length+1))) (G:l[j - 1]?=some s) (W:0 < lf L s) (hl:lkp lv (hd E s)=some (p.length+1)) :
  Go m E S L lv t src (p++[s]) (hd E s) (TT.set here (l.take j))/\szT (TT.set here (l.take j))<=szT TT/\s < 2 * m:=by
 have I:=g.cut N h Z B;obtain⟨k,M,J⟩:=g.tri.pre here l h;obtain⟨u,q⟩:=N.s1 here k M s (J.subset (wK G));refine⟨⟨I.tri,g.way.snoc u q ⟨W,_,by rw[q];exact g.lev,hl⟩,g.l0,λx O=>?_⟩,?_,u⟩
 ·rcases vV.mp O with z|z
  ·exact I.last x z
  ·simp at z;subst z;refine⟨l.take (j - 1),?_⟩;rw[q,xG (zif h)];congr 1;have:j=(j - 1)+1:=by lia
   rw[this,xI,zO,G];rfl
 ·have:=zbb (l.take j) h;rw[wM]at this;lia
theorem Go.back{t:Nat}{TT:List (List Nat)}(N:Net n m E S)(g:Go m E S L lv t src (p++[s]) here TT){l:List Nat}(h:TT[here]?=some l)(ht:here≠t)
  (W:∀(i:Nat) s',0<=i->l[i]?=some s'->¬(0 < lf L s'/\lkp lv (hd E s')=some ((p++[s]).length+1))) :
  s < 2 * m/\∃k,(TT.set here [])[tl E s]?=some (k++[s])/\Go m E S L lv t src p (tl E s) ((TT.set here []).set (tl E s) k)/\szT ((TT.set here []).set (tl E s) k)+1<=szT TT:=by
 have B:=g.cut (j:=0) N h (wH _) W;rw[List.take_zero]at B;obtain⟨k,M⟩:=B.last s (by simp);obtain⟨w1,w2,w3,w4⟩:=g.way.unsnoc;have dead:¬Rch m E L lv t here:=B.tri.dead N (v:=here) (by rw[xG (zif h)]) ht;have u:=B.tri.cut M (k:=k.length) (by simp) (λj x hj e z=>by
  have I:j < (k++[s]).length:=by
   rcases wX j (k++[s]).length with y|y
   ·exact y
   ·rw[v8 y]at e;cases e
  have:j=k.length:=by rw[vT]at I;simp at I;lia
  subst this;rw[List.getElem?_concat_length]at e;injection e with e;subst e;rw[w2]at z;exact dead z.2)
 rw[List.take_left]at u;have O:=zbb (TT:=TT) [] h;have G:=zbb k M;have Z:Go m E S L lv t src p (tl E s) (TT.set here []):=⟨B.tri,w1,g.l0,λx J=>B.last x (by simp[J])⟩
 refine⟨w3,k,M,⟨u,w1,g.l0,λx J=>?_⟩,?_⟩
 ·obtain⟨q,hq⟩:=Z.last x J;refine⟨q,?_⟩;rw[xS (λz=>Z.tails x J z.symm)];exact hq
 ·rw[vT]at G;simp at O G;lia
theorem Go.dead{m:Nat}{E:List Nat}{S:List (List Nat)}{L:List Int}{lv:List (Nat×Nat)}{t src:Nat}{here n:Nat}{TT:List (List Nat)}(N:Net n m E S)(g:Go m E S L lv t src [] here TT){l:List Nat}(h:TT[here]?=some l)(u:here≠t)
  (q:∀(i:Nat) s',0<=i->l[i]?=some s'->¬(0 < lf L s'/\lkp lv (hd E s')=some (([]:List Nat).length+1))):¬Rch m E L lv t src:=by
 have z:=g.cut (j:=0) N h (wH _) q;have e:src=here:=g.way;rw[e];exact z.tri.dead N (v:=here) (by rw[xG (zif h)];rfl) u
theorem zxj{j:Nat}(h:j < n):ixN n ((j:Nat):Int)=some j:=by
 unfold ixN;rw[aF (by lia),aF (by lia),v6]
structure Up(m:Nat)(most:Nat->Int)(E:List Nat)(L L':List Int)(src snk:Nat):Prop where
 cap:Cap m most L'
 eqb:∀v,v≠src->v≠snk->bal m E L' v=bal m E L v
 out:∀k,k < m->hd E (2 * k+1)=src->lf L (2 * k+1)<=lf L' (2 * k+1)
 inn:∀k,k < m->hd E (2 * k)=snk->lf L (2 * k+1)<=lf L' (2 * k+1)
 bs:bal m E L' src<=bal m E L src
 bt:bal m E L snk<=bal m E L' snk
theorem Up.refl{m:Nat}{most:Nat->Int}{E:List Nat}{L:List Int}{src q:Nat}(c:Cap m most L):Up m most E L L src q :=
 ⟨c,λ_ _ _=>rfl,λ_ _ _=>xK _,λ_ _ _=>xK _,xK _,xK _⟩
theorem Up.trans{m:Nat}{most:Nat->Int}{E:List Nat}{L u _2:List Int}{src q:Nat}(h:Up m most E L u src q)(k:Up m most E u _2 src q):Up m most E L _2 src q :=
 ⟨k.cap,λv a b=>(k.eqb v a b).trans (h.eqb v a b),λi a b=>k6 (h.out i a b) (k.out i a b),λi a b=>k6 (h.inn i a b) (k.inn i a b),k6 k.bs h.bs,k6 h.bt k.bt⟩
theorem Up.carry{m:Nat}{most:Nat->Int}{E:List Nat}{L:List Int}{lv:List (Nat×Nat)}{src q:Nat}{p:List Nat}{a:Int}(c:Cap m most L)(h:Way m E L lv src p q)(B:lkp lv src=some 0)(ha:0<=a)(hm:∀s∈p,a<=lf L s):Up m most E L (za3 L p a) src q:=by
 obtain⟨nd,nx⟩:=h.nodup B;have lev:=h.level B;have ft:∀{v:Nat}{p:List Nat}{u a:Nat},Way m E L lv v p u->lkp lv v=some a->∀s∈p,∃b,b < a+p.length/\lkp lv (tl E s)=some b:=by
  intro v p
  induction p generalizing v with
 |nil=>intro u a _ _ s M;simp at M
 |cons x r Z =>
   intro u a h e s M;obtain⟨h1,h2,⟨h3,b,G,h5⟩,h6⟩:=h;have:b=a:=by rw[h2,e]at G;injection G with G;exact G.symm
   subst this;rcases vR.mp M with z|z
   ·subst z;exact⟨b,by simp,G⟩
   ·obtain⟨c,c1,c2⟩:=Z h6 h5 s z;exact⟨c,by simp;lia,c2⟩
 have keep:∀j,j ∉ p->lf L j<=lf (za3 L p a) j:=λj hj=>by
  rw[zlb c.len h.lt nd nx,aA hj];split <;> lia
 refine⟨c.carry h B ha hm,λv W O=>?_,λk hk e=>keep _ λz=>?_,λk hk e=>keep _ λz=>?_,by rw[zz8 c.len h,aF rfl];split <;> lia,by rw[zz8 c.len h,aF rfl];split <;> lia⟩
 ·rw[zz8 c.len h,aA (λz=>O z.symm),aA (λz=>W z.symm)];lia
 ·obtain⟨b,_,_,I⟩:=h.tails B _ z;rw[e,B]at I;injection I with I;lia
 ·obtain⟨b,z1,J⟩:=ft h B _ z;have:tl E (2 * k+1)=q:=by
   unfold tl xr;rw[aA (by lia),zO];exact e
  rw[this,lev]at J;injection J with J;lia
variable {E S side:List Nat}{L f:List Int}{cap x:Nat->Int}{eu ev:Nat->Nat}{i m n s:Nat}{lv:List (Nat×Nat)}
abbrev Ar:=Nat×Nat×Int
def dAr(a:Ar):D:=.tuple [nI a.1,nI a.2.1,.int a.2.2]
def zf6(A:List Ar):List Nat:=A.flatMap λa=>[a.2.1,a.1]
def zy9(A:List Ar)(f:List Int):List Int:=(A.zip f).flatMap λx=>[x.1.2.2 - x.2,x.2]
theorem zpm(A:List Ar)(a:Ar):zf6 (A++[a])=zf6 A++[a.2.1,a.1]:=by simp[zf6]
theorem zi61{X:List Nat}(h:s < E.length):hd (E++X) s=hd E s:=by
 unfold hd;rw[wD,wD,wU h]
theorem ztg1{x y:Nat}(h:E.length=2 * m):hd (E++[x,y]) (2 * m)=x/\hd (E++[x,y]) (2 * m+1)=y:=by
 unfold hd;constructor
 ·rw[wD,wR (by lia),h];simp
 ·rw[wD,wR (by lia),h];simp
theorem Net.nil(n:Nat):Net n 0 [] (vU n []):=⟨rfl,λs q=>by lia,by simp,(λv l h s q=>by
 rw[xH]at h;split at h
 ·cases h;simp at q
 ·cases h),λs q=>by lia⟩
theorem Net.push{S:List (List Nat)}{u v:Nat}{G J:List Nat}(N:Net n m E S)(O:u < n)(M:v < n)(h1:S[u]?=some G)(h2:(S.set u (G++[2 * m]))[v]?=some J) :
  Net n (m+1) (E++[v,u]) ((S.set u (G++[2 * m])).set v (J++[2 * m+1])):=by
 obtain⟨e1,e2⟩:=ztg1 (x:=v) (y:=u) N.lE;have x1:xr (2 * m)=2 * m+1:=by unfold xr;rw[aF (by lia)]
 have x2:xr (2 * m+1)=2 * m:=by unfold xr;rw[aA (by lia)];lia
 have old:∀s,s < 2 * m->tl (E++[v,u]) s=tl E s:=λs q=>zi61 (by rw[N.lE];exact zi81 q);have Z:tl (E++[v,u]) (2 * m)=u:=by unfold tl;rw[x1];exact e2
 have W:tl (E++[v,u]) (2 * m+1)=v:=by unfold tl;rw[x2];exact e1
 have A1:∀(w:Nat) l,(S.set u (G++[2 * m]))[w]?=some l->∀s∈l,(s < 2 * m/\tl E s=w) \/ (s=2 * m/\w=u):=λw l h s q=>by
  by_cases z:u=w
  ·subst z;rw[xG (by rw[N.lS];exact O)]at h;cases h;rcases vV.mp q with y|y
   ·exact .inl (N.s1 u G h1 s y)
   ·simp at y;exact .inr ⟨y,rfl⟩
  ·rw[xS z]at h;exact .inl (N.s1 w l h s q)
 have B1:∀s,s < 2 * m->∃l,(S.set u (G++[2 * m]))[tl E s]?=some l/\s∈l:=λs q=>by
  obtain⟨l,B,I⟩:=N.s2 s q;by_cases z:u=tl E s
  ·rw[<- z]at B ⊢;rw[h1]at B;cases B;exact⟨_,xG (by rw[N.lS];exact O),by simp[I]⟩
  ·exact⟨l,by rw[xS z];exact B,I⟩
 have B2:∃l,(S.set u (G++[2 * m]))[u]?=some l/\2 * m∈l:=⟨_,xG (by rw[N.lS];exact O),by simp⟩
 have B3:∀(w s:Nat),(∃l,(S.set u (G++[2 * m]))[w]?=some l/\s∈l)->∃l,((S.set u (G++[2 * m])).set v (J++[2 * m+1]))[w]?=some l/\s∈l:=λw s ⟨l,B,I⟩=>by
  by_cases z:v=w
  ·subst z;rw[h2]at B;cases B;exact⟨_,xG (by rw[wN,N.lS];exact M),by simp[I]⟩
  ·exact⟨l,by rw[xS z];exact B,I⟩
 refine⟨by rw[vT,N.lE];simp;lia,λs q=>?_,by rw[wN,wN];exact N.lS,λw l h s q=>?_,λs q=>?_⟩
 ·by_cases z:s < 2 * m
  ·rw[zi61 (by rw[N.lE];exact z)];exact N.bE s z
  ·have:s=2 * m \/ s=2 * m+1:=by lia
   rcases this with y|y
   ·rw[y,e1];exact M
   ·rw[y,e2];exact O
 ·have key:(s < 2 * m/\tl E s=w) \/ (s=2 * m/\w=u) \/ (s=2 * m+1/\w=v):=by
   by_cases z:v=w
   ·subst z;rw[xG (by rw[wN,N.lS];exact M)]at h;cases h;rcases vV.mp q with y|y
    ·rcases A1 v J h2 s y with k|k
     ·exact .inl k
     ·exact .inr (.inl k)
    ·simp at y;exact .inr (.inr ⟨y,rfl⟩)
   ·rw[xS z]at h;rcases A1 w l h s q with k|k
    ·exact .inl k
    ·exact .inr (.inl k)
  rcases key with⟨B,I⟩|⟨rfl,rfl⟩|⟨rfl,rfl⟩
  ·exact⟨by lia,by rw[old s B];exact I⟩
  ·exact⟨by lia,Z⟩
  ·exact⟨by lia,W⟩
 ·by_cases z:s < 2 * m
  ·rw[old s z];exact B3 _ _ (B1 s z)
  ·have:s=2 * m \/ s=2 * m+1:=by lia
   rcases this with y|y
   ·subst y;rw[Z];exact B3 _ _ B2
   ·subst y;rw[W];exact⟨_,xG (by rw[wN,N.lS];exact M),by simp⟩
theorem zpd:∀{A:List Ar}{f:List Int},f.length=A.length->(zy9 A f).length=2 * A.length
|[],f,h=>by simp[zy9]
|a :: r,[],h=>by simp at h
|a :: r,x :: f,h=>by have:=zpd (A:=r) (f:=f) (by simpa using h);simp[zy9]at this ⊢;lia
theorem zp9:∀{A:List Ar}{f:List Int}{k:Nat}{a:Ar}{x:Int},A[k]?=some a->f[k]?=some x->lf (zy9 A f) (2 * k)=a.2.2 - x/\lf (zy9 A f) (2 * k+1)=x
|[],f,k,a,x,h,_=>by simp at h
|b :: r,[],k,a,x,_,h=>by simp at h
|b :: r,y :: f,0,a,x,q,h2=>by simp at q h2;subst q;subst h2;simp[zy9,lf]
|b :: r,y :: f,k+1,a,x,q,h2=>by
  have:=zp9 (A:=r) (f:=f) (k:=k) (by simpa using q) (by simpa using h2);rw[show 2 * (k+1)=2 * k+1+1 by lia];simp[zy9,lf]at this ⊢;exact this
theorem zod:∀{A:List Ar}{k:Nat}{a:Ar},A[k]?=some a->hd (zf6 A) (2 * k)=a.2.1/\hd (zf6 A) (2 * k+1)=a.1
|[],k,a,h=>by simp at h
|b :: r,0,a,h=>by simp at h;subst h;simp[zf6,hd]
|b :: r,k+1,a,h=>by
  have:=zod (A:=r) (k:=k) (by simpa using h);rw[show 2 * (k+1)=2 * k+1+1 by lia];simp[zf6,hd]at this ⊢;exact this
def zq8(A:List Ar)(k:Nat):Int:=((A[k]?).map λa=>a.2.2).getD 0
theorem zvt{A:List Ar}(hl:f.length=A.length)(J:∀(k:Nat) a x,A[k]?=some a->f[k]?=some x->0<=x/\x<=a.2.2):Cap A.length (zq8 A) (zy9 A f):=by
 have get:∀k,k < A.length->∃a x,A[k]?=some a/\f[k]?=some x:=λk I=>⟨A[k],f[k],u5 _,u5 _⟩
 refine⟨zpd hl,λs M=>?_,λk I=>?_⟩
 ·obtain⟨a,x,q,u⟩:=get (s / 2) (by lia);obtain⟨G,B⟩:=zp9 q u;have:=J _ a x q u;rcases Nat.mod_two_eq_zero_or_one s with z|z
  ·rw[show s=2 * (s / 2) by lia,G];lia
  ·rw[show s=2 * (s / 2)+1 by lia,B];lia
 ·obtain⟨a,x,q,u⟩:=get k I;obtain⟨G,B⟩:=zp9 q u;rw[G,B,zq8,q];simp
theorem zbz(h:L.length=2 * m):zzn (L.map u6) (some 1) none (some 2)=(u3 m).map λk=>.int (lf L (2 * k+1)):=by
 unfold zzn;rw[u4,h];have I:bT (some 1) none (some 2) (2 * m)=(max 0 (min (1:Int) ((2 * m:Nat):Int)),((2 * m:Nat):Int),2):=by
  unfold bT;rfl
 rw[I];show uaK _ (fS (max 0 (min (1:Int) ((2 * m:Nat):Int))) ((2 * m:Nat):Int) 2)=_;have G:fS (max 0 (min (1:Int) ((2 * m:Nat):Int))) ((2 * m:Nat):Int) 2=(u3 m).map λk=>2 * k+1:=by
  unfold fS;cases m with
 |zero=>rfl
 |succ m =>
   have B:max 0 (min (1:Int) ((2 * (m+1):Nat):Int))=1:=by lia
   rw[B];have:(if(2:Int) > 0 then(if(1:Int) < ((2 * (m+1):Nat):Int)then(((2 * (m+1):Nat):Int) - 1+2 - 1) / 2 else 0)else(if(1:Int) > ((2 * (m+1):Nat):Int)then(1 - ((2 * (m+1):Nat):Int) - 2 - 1) / (-2)else 0))=((m+1:Nat):Int):=by
    rw[aF (by decide),aF (by lia)];lia
   simp only[this];rw[v6];refine yG λk q=>?_;lia
 rw[G,ua3];have:∀l:List Nat,(∀k∈l,k < m)->uaK ((λx=>(L.map u6)[x]?) ∘ λk=>2 * k+1) l=l.map λk=>u6 (lf L (2 * k+1)):=by
  intro l
  induction l with
 |nil=>intro _;rfl
 |cons k r u =>
   intro q;have J:=q k (by simp);have e:(L.map u6)[2 * k+1]?=some (.int (lf L (2 * k+1))):=by
    rw[u9];unfold lf;rw[wD,u5 (by lia)];rfl
   rw[w8];simp only[Function.comp];rw[e];simp only[v4];congr 1;exact u λx z=>q x (by simp[z])
 exact this _ λk q=>u8.mp q
theorem zx21{S:List (List Nat)}{v:Nat}{l:List Nat}(h:S[v]?=some l):l.length<=szT S:=by
 have:=zbb [] h;simp at this;lia
theorem zm41(i:Nat):CMul 2 (i:Int):=by
 unfold CMul;exact .inl (by decide)
theorem zxl:∀{A:List Ar}{f:List Int}{a:Ar}{x:Int},f.length=A.length->zy9 (A++[a]) (f++[x])=zy9 A f++[a.2.2 - x,x]:=by
 intro A f a x h;unfold zy9;rw[zA h.symm,k7];rfl
structure Best(n:Nat)(A:List Ar)(f:List Int)(src snk:Nat)(L:List Int)(side:List Nat):Prop where
 up:Up A.length (zq8 A) (zf6 A) (zy9 A f) L src snk
 inn:src∈side
 out:snk ∉ side
 bd:∀v∈side,v < n
 nd:side.Nodup
 cl:∀s,s < 2 * A.length->0 < lf L s->tl (zf6 A) s∈side->hd (zf6 A) s∈side
 rc:∃lv,Lev n A.length (zf6 A) L src lv/\∀v,v∈side ↔ (lkp lv v).isSome=true
theorem zy51{v:Nat}:(lkp lv v).isSome=true ↔ v∈lv.map (·.1):=by
 constructor
 ·intro h;obtain⟨b,q⟩:=xO.mp h;exact kP (f:=(·.1)) (zqn q)
 ·intro h;cases e:lkp lv v with
 |some b=>rfl
 |none=>exact aN h (zwi e)
theorem zn51{A:List Ar}{src G:Nat}(up:Up A.length (zq8 A) (zf6 A) (zy9 A f) L src G)(J:Lev n A.length (zf6 A) L src lv)(ht:(lkp lv G).isSome=false)
  {ns:List Int} (Z:ns.Perm (lv.map λp=>((p.1:Nat):Int))):∃side:List Nat,ns.map u6=side.map nI/\Best n A f src G L side:=by
 have u:∀x∈ns,∃p∈lv,x=((p.1:Nat):Int):=λx B=>by
  obtain⟨p,W,O⟩:=vQ.mp (Z.mem_iff.mp B);exact⟨p,W,O.symm⟩
 refine⟨ns.map Int.toNat,?_,?_⟩
 ·rw[wF];refine yG λx B=>?_;obtain⟨p,_,rfl⟩:=u x B;simp[nI]
 have q:∀v,v∈ns.map Int.toNat ↔ (lkp lv v).isSome=true:=λv=>by
  rw[zy51];constructor
  ·intro h;obtain⟨x,B,rfl⟩:=vQ.mp h;obtain⟨p,I,rfl⟩:=u x B;rw[v6];exact kP (f:=(·.1)) I
  ·intro h;obtain⟨p,I,rfl⟩:=vQ.mp h;refine vQ.mpr ⟨((p.1:Nat):Int),Z.mem_iff.mpr (vQ.mpr ⟨p,I,rfl⟩),v6 _⟩
 have nd:ns.Nodup:=by
  refine Z.nodup_iff.mpr ?_;have W:=J.nd;have:(lv.map λp=>((p.1:Nat):Int))=(lv.map (·.1)).map λx=>((x:Nat):Int):=by rw[wF];rfl
  rw[this];exact W.map (λx:Nat=>(x:Int)) (λa b hne z=>hne (by exact_mod_cast z))
 refine⟨up,(q _).mpr (by rw[J.l0];rfl),(λz=>by rw[(q _).mp z]at ht;cases ht),λv hvm=>?_,?_,λs W O M=>(q _).mpr (J.cl s W O ((q _).mp M)),lv,J,q⟩
 ·obtain⟨b,hb⟩:=xO.mp ((q v).mp hvm);exact J.bd _ (zqn hb)
 ·have key:∀(l:List Int),l.Nodup->(∀x∈l,0<=x)->(l.map Int.toNat).Nodup:=by
   intro l
   induction l with
  |nil=>intros;exact .nil
  |cons x r ih =>
    intro O M;obtain⟨b1,b2⟩:=v9.mp O;refine v9.mpr ⟨λhy=>?_,ih b2 λz hz=>M z (by simp[hz])⟩;obtain⟨z,hz,e⟩:=vQ.mp hy;have c2:x≠z:=λe=>b1 (e ▸ hz);have c3:=M x (by simp);have c4:=M z (by simp[hz]);lia
  exact key ns nd λx B=>by obtain⟨p,_,rfl⟩:=u x B;lia
def sm(m:Nat)(g:Nat->Int):Int:=((u3 m).map g).sum
theorem za4(m:Nat)(g:Nat->Int):sm (m+1) g=sm m g+g m:=by
 unfold sm;rw[wV,v7,y9];simp
theorem zy0{g h:Nat->Int}(e:∀k,k < m->g k=h k):sm m g=sm m h:=by
 unfold sm;rw[yG λk q=>e k (u8.mp q)]
theorem zqt(g h:Nat->Int):∀m,sm m (λk=>g k+h k)=sm m g+sm m h
|0=>rfl
|m+1=>by rw[za4,za4,za4,zqt g h m];lia
theorem znh(g h:Nat->Int):∀m,sm m (λk=>g k - h k)=sm m g - sm m h
|0=>rfl
|m+1=>by rw[za4,za4,za4,znh g h m];lia
theorem zf2:∀m,sm m (λ_=>0)=0
|0=>rfl
|m+1=>by rw[za4,zf2 m];rfl
theorem zms{g h:Nat->Int}:∀{m:Nat},(∀k,k < m->g k<=h k)->sm m g<=sm m h
|0,_=>xK _
|m+1,e=>by
  rw[za4,za4];have:=zms (m:=m) λk q=>e k (by lia);have:=e m (by lia);lia
theorem zyc{g h:Nat->Int}:∀{m:Nat},(∀k,k < m->g k<=h k)->sm m g=sm m h->∀k,k < m->g k=h k
|0,_,_,k,u=>by lia
|m+1,e,q,k,u=>by
  rw[za4,za4]at q;have a:=zms (m:=m) λk u=>e k (by lia);have b:=e m (by lia);by_cases z:k=m
  ·subst z;lia
  ·exact zyc (m:=m) (λk u=>e k (by lia)) (by lia) k (by lia)
theorem zrt{j:Nat}(d:Int):∀{m:Nat},j < m->sm m (λk=>if k=j then d else 0)=d
|0,h=>by lia
|m+1,h=>by
  rw[za4];by_cases z:m=j
  ·subst z;rw[aF rfl,zy0 (h:=λ_=>0) λk q=>aA (by lia),zf2];lia
  ·rw[zrt d (m:=m) (by lia),aA z];lia
def trm(u v:Nat)(x:Int)(w:Nat):Int:=(if v=w then x else 0) - (if u=w then x else 0)
def bl(m:Nat)(eu ev:Nat->Nat)(x:Nat->Int)(w:Nat):Int:=sm m λk=>trm (eu k) (ev k) (x k) w
def flux(m:Nat)(eu ev:Nat->Nat)(x:Nat->Int)(side:List Nat):Int:=sm m λk=>(if ev k∈side then x k else 0) - (if eu k∈side then x k else 0)
theorem zj9(m:Nat)(eu ev:Nat->Nat)(x:Nat->Int):∀{side:List Nat},side.Nodup->flux m eu ev x side=(side.map (bl m eu ev x)).sum
|[],_=>by
  unfold flux;rw[zy0 (h:=λ_=>0) λk _=>by simp,zf2];rfl
|w :: r,h=>by
  obtain⟨u,q⟩:=v9.mp h;rw[v4,xY,<- zj9 m eu ev x q];unfold bl flux;rw[<- zqt];refine zy0 λk _=>?_;unfold trm;have a:∀z:Nat,(if z∈w :: r then x k else 0)=(if z=w then x k else 0)+(if z∈r then x k else 0):=λz=>by
   by_cases e:z=w
   ·subst e;simp[u]
   ·simp[e]
  rw[a,a];lia
theorem zej{g:Nat->Int}{s:Nat}:∀{side:List Nat},side.Nodup->s∈side->(∀w∈side,w≠s->g w=0)->(side.map g).sum=g s
|[],_,h,_=>by simp at h
|w :: r,nd,h,z=>by
  obtain⟨O,M⟩:=v9.mp nd;rw[v4,xY];by_cases e:w=s
  ·subst e;have:∀l:List Nat,(∀y∈l,g y=0)->(l.map g).sum=0:=by
    intro l
    induction l with
   |nil=>intro _;rfl
   |cons y t G=>intro k;rw[v4,xY,k y (by simp),G λu I=>k u (by simp[I])];rfl
   rw[this r λy B=>z y (by simp[B]) λq=>O (q ▸ B)];lia
  ·have J:s∈r:=by
    rcases vR.mp h with q|q
    ·exact aN q.symm e
    ·exact q
   rw[zej M J λy B=>z y (by simp[B]),z w (by simp) e];lia
theorem zsq{t:Nat}(nd:side.Nodup)(z:s∈side)(u:t ∉ side)(h:∀w,w≠s->w≠t->bl m eu ev x w=0):bl m eu ev x s=flux m eu ev x side:=by
 rw[zj9 m eu ev x nd,zej nd z λw hw B=>h w B λq=>u (q ▸ hw)]
def tight(m:Nat)(eu ev:Nat->Nat)(cap x:Nat->Int)(side:List Nat):Prop:=∀k,k < m->(eu k∈side->ev k ∉ side->x k=cap k)/\(ev k∈side->eu k ∉ side->x k=0)
def within(m:Nat)(cap x:Nat->Int):Prop:=∀k,k < m->0<=x k/\x k<=cap k
theorem zuv{y:Nat->Int}(G:tight m eu ev cap x side)(B:within m cap y):flux m eu ev x side<=flux m eu ev y side:=by
 refine zms λk z=>?_;obtain⟨a,b⟩:=G k z;obtain⟨c,d⟩:=B k z;by_cases u:ev k∈side
 ·by_cases q:eu k∈side
  ·simp only[aF u,aF q];lia
  ·simp only[aF u,aA q,b u q];lia
 ·by_cases q:eu k∈side
  ·simp only[aA u,aF q,a q u];lia
  ·simp only[aA u,aA q];lia
theorem zup(z:tight m eu ev cap x side):flux m eu ev x side=- sm m λk=>if eu k∈side/\ev k ∉ side then x k else 0:=by
 have:flux m eu ev x side=sm m λk=>0 - (if eu k∈side/\ev k ∉ side then x k else 0):=by
  refine zy0 λk B=>?_;obtain⟨a,b⟩:=z k B;by_cases u:ev k∈side
  ·by_cases q:eu k∈side
   ·simp[u,q]
   ·simp[u,q,b u q]
  ·by_cases q:eu k∈side
   ·simp[u,q]
   ·simp[u,q]
 rw[this,znh,zf2];lia
def aU(A:List Ar)(k:Nat):Nat:=((A[k]?).map λa=>a.1).getD 0
def aV(A:List Ar)(k:Nat):Nat:=((A[k]?).map λa=>a.2.1).getD 0
theorem zgu{A:List Ar}(w:Nat):bal A.length (zf6 A) L w=bl A.length (aU A) (aV A) (λk=>lf L (2 * k+1)) w:=by
 show sm _ _=sm _ _;refine zy0 λk q=>?_;have ga:A[k]?=some A[k]:=u5 q;obtain⟨z,u⟩:=zod ga;unfold term trm aU aV;rw[z,u,ga];rfl
theorem Best.tight{n:Nat}{A:List Ar}{f L:List Int}{src B:Nat}{side:List Nat}(b:Best n A f src B L side):tight A.length (aU A) (aV A) (zq8 A) (λk=>lf L (2 * k+1)) side:=λk G=>by
 have ga:A[k]?=some A[k]:=u5 G;obtain⟨J,I⟩:=zod ga;have s1:=b.up.cap.sm k G;have W:=b.up.cap.nn (2 * k) (by lia);have n2:=b.up.cap.nn (2 * k+1) (by lia);have x1:xr (2 * k)=2 * k+1:=by unfold xr;rw[aF (by lia)]
 have x2:xr (2 * k+1)=2 * k:=by unfold xr;rw[aA (by lia)];lia
 have O:aU A k=A[k].1:=by unfold aU;rw[ga];rfl
 have M:aV A k=A[k].2.1:=by unfold aV;rw[ga];rfl
 rw[O,M];refine⟨λu q=>?_,λu q=>?_⟩
 ·by_cases z:0 < lf L (2 * k)
  ·have:=b.cl (2 * k) (by lia) z (by unfold tl;rw[x1,I];exact u);rw[J]at this;exact aN this q
  ·show lf L (2 * k+1)=_;lia
 ·by_cases z:0 < lf L (2 * k+1)
  ·have:=b.cl (2 * k+1) (by lia) z (by unfold tl;rw[x2,J];exact u);rw[I]at this;exact aN this q
  ·show lf L (2 * k+1)=_;lia
theorem Best.within{n:Nat}{A:List Ar}{f L:List Int}{src q:Nat}{side:List Nat}(b:Best n A f src q L side):within A.length (zq8 A) (λk=>lf L (2 * k+1)):=λk u=>by
 have s1:=b.up.cap.sm k u;have z:=b.up.cap.nn (2 * k) (by lia);have n2:=b.up.cap.nn (2 * k+1) (by lia);show 0<=lf L (2 * k+1)/\lf L (2 * k+1)<=_;lia
abbrev Pr:=Nat×Nat
def pU(P:List Pr)(k:Nat):Nat:=((P[k]?).map λa=>a.1).getD 0
def pV(P:List Pr)(k:Nat):Nat:=((P[k]?).map λa=>a.2).getD 0
def fx(f:List Int)(k:Nat):Int:=(f[k]?).getD 0
def nb(P:List Pr)(f:List Int)(w:Nat):Int:=bl P.length (pU P) (pV P) (fx f) w
theorem zvz(u v w:Nat):trm u v 0 w=0:=by unfold trm;simp
theorem ze5{κ:Type}[DecidableEq κ](p:κ×D)(r:List (κ×D))(k:κ):getA (p :: r) k=if p.1=k then some p.2 else getA r k:=by
 unfold getA;rw[yB];by_cases e:p.1=k
 ·simp[e]
 ·simp[e]
theorem zn21(h:∀x∈f,0<=x)(k:Nat):0<=fx f k:=by
 unfold fx;cases e:f[k]? with
|none=>exact xK _
|some x=>exact h x (wK e)
theorem zy71(v:Nat):∀l:List Nat,(l.map nI).any (λy=>eqF y (nI v))=decide (v∈l)
|[]=>rfl
|x :: r=>by
  rw[v4,xV,zy71 v r];have:eqF (nI x) (nI v)=decide (x=v):=by
   show decide ((x:Int)=(v:Int))=decide (x=v);exact decide_eq_decide.mpr (by lia)
  rw[this];by_cases h:x=v
  ·subst h;simp
  ·have:¬v=x:=λy=>h y.symm;simp[h,this]
theorem zd11(l:List Nat):(l.map nI).all zbc=true:=by
 rw[List.all_map];simp[zbc,nI]
theorem zfq{α:Type}(p:α->Prop)[DecidablePred p](x:α->Int):∀l:List α,∃xs,zfj (l.filterMap λa=>if p a then some (.int (x a))else none)=some xs/\xs.sum=(l.map λa=>if p a then x a else 0).sum
|[]=>⟨[],rfl,rfl⟩
|a :: r=>by
  obtain⟨xs,u,q⟩:=zfq p x r;rw[w8,v4,xY];by_cases h:p a
  ·simp only[aF h];refine⟨x a :: xs,?_,by rw[xY,q]⟩;show(zfj _).map (x a :: ·)=_;rw[u];rfl
  ·simp only[aA h];exact⟨xs,u,by rw[q];lia⟩
theorem znr{A:List Ar}(h:f.length=A.length):A.zip f=(u3 A.length).map λk=>((aU A k,aV A k,zq8 A k),fx f k):=by
 refine uaT (by rw[List.length_zip,u4,wO];lia) λj z B=>?_;rw[List.length_zip]at z;have u:j < A.length:=by lia
 have q:j < f.length:=by lia
 rw[List.getElem_zip,uaU,ubH];unfold aU aV zq8 fx;rw[u5 u,u5 q];rfl
theorem zs01(m:Nat)(eu ev:Nat->Nat)(x:Nat->Int)(w:Nat):bl m eu ev x w=sm m (λk=>if ev k=w then x k else 0) - sm m (λk=>if eu k=w then x k else 0):=by
 unfold bl trm;rw[znh]
theorem zvp{A:List Ar}(v:Nat):bal A.length (zf6 A) (zy9 A (vU A.length 0)) v=0:=by
 rw[zgu];unfold bl;rw[zy0 (h:=λ_=>0) λk q=>?_,zf2];have e:=(zp9 (A:=A) (f:=vU A.length 0) (k:=k) (a:=A[k]) (x:=0) (u5 q) (by rw[xH,aF q])).2;show trm _ _ (lf (zy9 A (vU A.length 0)) (2 * k+1)) v=0;rw[e,zvz]
theorem Best.bal{n:Nat}{A:List Ar}{f L:List Int}{src q:Nat}{side:List Nat}(b:Best n A f src q L side)(I:f.length=A.length)(h:∀w,w≠src->w≠q->_5.bl A.length (aU A) (aV A) (fx f) w=0):∀v,v≠src->v≠q->_5.bal A.length (zf6 A) L v=0:=λv z u=>by
 rw[b.up.eqb v z u,zgu];rw[show _5.bl A.length (aU A) (aV A) (λk=>lf (zy9 A f) (2 * k+1)) v=_5.bl A.length (aU A) (aV A) (fx f) v from zy0 λk G=>?_]
 ·exact h v z u
 ·have ga:A[k]?=some A[k]:=u5 G;have B:f[k]?=some f[k]:=u5 (by lia);have e:=(zp9 ga B).2;show trm _ _ (lf (zy9 A f) (2 * k+1)) v=_;rw[e];unfold fx;rw[B];rfl
theorem zb51{A:List Ar}(z:f.length=A.length){k:Nat}(u:k < A.length):lf (zy9 A f) (2 * k+1)=fx f k:=by
 have ga:A[k]?=some A[k]:=u5 u;have q:f[k]?=some f[k]:=u5 (by lia);rw[(zp9 ga q).2];unfold fx;rw[q];rfl
theorem zoh(g:Nat->Int)(a:Nat):∀b,sm (a+b) g=sm a g+sm b λj=>g (a+j)
|0=>by simp[sm]
|b+1=>by rw[<- k8,za4,za4,zoh g a b];lia
def tA(fl:List Int)(ps:List (Nat×Nat))(ws:List Int)(W:Int):List Ar :=
 (u3 fl.length).map (λi=>(0,2+i,fx fl i))++ps.map (λp=>(2+p.1,2+p.2,W))++(u3 ws.length).map (λi=>(2+i,1,fx ws i))
theorem zae(fl:List Int)(ps:List (Nat×Nat))(ws:List Int)(W:Int):(tA fl ps ws W).length=fl.length+ps.length+ws.length:=by simp[tA,k8]
section
variable {fl:List Int}{ps:List (Nat×Nat)}{ws:List Int}{W:Int}
theorem tA1(h:i < fl.length):(tA fl ps ws W)[i]?=some (0,2+i,fx fl i):=by
 unfold tA;rw[vW,wU (by simpa using h),u9,xL h];rfl
theorem tA2{j:Nat}{p:Nat×Nat}(h:ps[j]?=some p):(tA fl ps ws W)[fl.length+j]?=some (2+p.1,2+p.2,W):=by
 have q:=(wG.mp h).1;unfold tA;rw[vW,wR (by simp),u4,wO,zN,wU (by simpa using q),u9,h];rfl
theorem tA3(h:i < ws.length):(tA fl ps ws W)[fl.length+ps.length+i]?=some (2+i,1,fx ws i):=by
 unfold tA;rw[wR (by simp),vT,u4,wO,u4,zN,u9,xL h];rfl
theorem zds{A:List Ar}{k:Nat}{a:Ar}(h:A[k]?=some a):aU A k=a.1/\aV A k=a.2.1/\zq8 A k=a.2.2:=by
 unfold aU aV zq8;rw[h];exact⟨rfl,rfl,rfl⟩
theorem zve1(hw:ws.length=fl.length)(φ:Nat->Nat->Nat->Int):sm (tA fl ps ws W).length (λk=>φ (aU (tA fl ps ws W) k) (aV (tA fl ps ws W) k) k) =
  sm fl.length (λi=>φ 0 (2+i) i)+sm ps.length (λj=>φ (2+pU ps j) (2+pV ps j) (fl.length+j))+sm fl.length (λi=>φ (2+i) 1 (fl.length+ps.length+i)):=by
 rw[zae,zoh,zoh];congr 1
 ·congr 1
  ·refine zy0 λi hi=>?_;obtain⟨u,q,_⟩:=zds (tA1 (ps:=ps) (ws:=ws) (W:=W) hi);rw[u,q]
  ·refine zy0 λj z=>?_;obtain⟨u,q,_⟩:=zds (tA2 (fl:=fl) (ws:=ws) (W:=W) (u5 z));show φ _ _ _=_;rw[u,q];unfold pU pV;rw[u5 z];rfl
 ·rw[hw];refine zy0 λi hi=>?_;obtain⟨u,q,_⟩:=zds (tA3 (fl:=fl) (ps:=ps) (W:=W) (i:=i) (by lia:i < ws.length));show φ _ _ _=_;rw[u,q]
theorem zzw(g:Nat->Int)(nd:S.Nodup)(q:∀v∈S,v < n):sm n (λi=>if i∈S then g i else 0)=(S.map g).sum:=by
 induction S with
|nil=>simp[zf2]
|cons v r z =>
  obtain⟨I,G⟩:=v9.mp nd;rw[v4,xY,<- z G λu B=>q u (by simp[B]),<- zrt (j:=v) (g v) (q v (by simp)),<- zqt];refine zy0 λi hi=>?_;by_cases e:i=v
  ·subst e;simp[I]
  ·simp[e]
structure Cut(fl:List Int)(ps:List (Nat×Nat))(ws:List Int)(W:Int)(x:Nat->Int):Prop where
 lw:ws.length=fl.length
 bp:∀p∈ps,p.1 < fl.length/\p.2 < fl.length
 wi:within (tA fl ps ws W).length (zq8 (tA fl ps ws W)) x
 b0:∀w,w≠0->w≠1->bl (tA fl ps ws W).length (aU (tA fl ps ws W)) (aV (tA fl ps ws W)) x w=0
variable {x:Nat->Int}
theorem Cut.x1(c:Cut fl ps ws W x)(h:i < fl.length):0<=x i/\x i<=fx fl i:=by
 have:=c.wi i (by rw[zae];lia);rw[(zds (tA1 h)).2.2]at this;exact this
theorem Cut.x2(c:Cut fl ps ws W x){j:Nat}(h:j < ps.length):0<=x (fl.length+j)/\x (fl.length+j)<=W:=by
 have:=c.wi (fl.length+j) (by rw[zae];lia);rw[(zds (tA2 (u5 h))).2.2]at this;exact this
theorem Cut.x3(c:Cut fl ps ws W x)(h:i < fl.length):0<=x (fl.length+ps.length+i)/\x (fl.length+ps.length+i)<=fx ws i:=by
 have hl:=c.lw;have:=c.wi (fl.length+ps.length+i) (by rw[zae];lia);rw[(zds (tA3 (by lia:i < ws.length))).2.2]at this;exact this
theorem Cut.flx(c:Cut fl ps ws W x)(S:List Nat):flux (tA fl ps ws W).length (aU (tA fl ps ws W)) (aV (tA fl ps ws W)) x S =
  sm fl.length (λi=>(if 2+i∈S then x i else 0) - (if 0∈S then x i else 0))+sm ps.length (λj=>(if 2+pV ps j∈S then x (fl.length+j)else 0) - (if 2+pU ps j∈S then x (fl.length+j)else 0)) +
  sm fl.length (λi=>(if 1∈S then x (fl.length+ps.length+i)else 0) - (if 2+i∈S then x (fl.length+ps.length+i)else 0)):=zve1 c.lw λu v k=>(if v∈S then x k else 0) - (if u∈S then x k else 0)
theorem Cut.worth(c:Cut fl ps ws W x):bl (tA fl ps ws W).length (aU (tA fl ps ws W)) (aV (tA fl ps ws W)) x 0=- sm fl.length x/\bl (tA fl ps ws W).length (aU (tA fl ps ws W)) (aV (tA fl ps ws W)) x 0=- sm fl.length (λi=>x (fl.length+ps.length+i)):=by
 constructor
 ·have nd:[0].Nodup:=by simp
  rw[zsq (t:=1) nd (by simp) (by simp) c.b0,c.flx];rw[zy0 (m:=fl.length) (h:=λi=>0 - x i) λi _=>by simp,zy0 (m:=ps.length) (h:=λ_=>0) λi _=>by simp,zf2];rw[zy0 (m:=fl.length) (g:=λi=>(if 1∈[0]then x (fl.length+ps.length+i)else 0) - (if 2+i∈[0]then x (fl.length+ps.length+i)else 0)) (h:=λ_=>0) λi _=>by simp,zf2,znh,zf2];lia
 ·have nd:(0 :: (u3 fl.length).map (2+·)).Nodup:=by
   refine v9.mpr ⟨by simp,?_⟩;exact zB.map (2+·) (λa b h z=>h (by lia))
  have u:∀i,i < fl.length->2+i∈0 :: (u3 fl.length).map (2+·):=λi hi=>wA _ (vQ.mpr ⟨i,u8.mpr hi,rfl⟩);have m0:0∈0 :: (u3 fl.length).map (2+·):=wJ;have B:1 ∉ 0 :: (u3 fl.length).map (2+·):=by simp;lia
  have mp:∀j,j < ps.length->pU ps j < fl.length/\pV ps j < fl.length:=λj q=>by
   unfold pU pV;rw[u5 q];exact c.bp _ (xF q)
  rw[zsq (t:=1) nd m0 B c.b0,c.flx];rw[zy0 (m:=fl.length) (h:=λ_=>0) λi hi=>by rw[aF (u i hi),aF m0];lia,zf2,zy0 (m:=ps.length) (h:=λ_=>0) λj q=>by rw[aF (u _ (mp j q).2),aF (u _ (mp j q).1)];lia,zf2];rw[zy0 (m:=fl.length) (h:=λi=>0 - x (fl.length+ps.length+i)) λi hi=>by rw[aA B,aF (u i hi)],znh,zf2];lia
theorem znn(l:List Int):l.sum=sm l.length (fx l):=by
 have:l=(u3 l.length).map (fx l):=by
  apply yD;intro j;rw[u9];by_cases h:j < l.length
  ·rw[xL h,u5 h];show some l[j]=some (fx l j);unfold fx;rw[u5 h];rfl
  ·rw[v8 (by lia),v8 (by simpa using h)];rfl
 unfold sm;rw[<- this]
theorem Cut.short(c:Cut fl ps ws W x)(q:- bl (tA fl ps ws W).length (aU (tA fl ps ws W)) (aV (tA fl ps ws W)) x 0=ws.sum)(nd:S.Nodup)(M:∀v∈S,v < fl.length)(cl:∀p∈ps,p.2∈S->p.1∈S) :
  (S.map λv=>fx ws v - fx fl v).sum<=0:=by
 have hl:=c.lw;rw[c.worth.2,Int.neg_neg,znn,hl]at q;have eq:=zyc (m:=fl.length) (λi hi=>(c.x3 hi).2) q;have nd2:(S.map (2+·)).Nodup:=nd.map (2+·) (λa b h z=>h (by lia));have z:flux (tA fl ps ws W).length (aU (tA fl ps ws W)) (aV (tA fl ps ws W)) x (S.map (2+·))=0:=by
  rw[zj9 _ _ _ _ nd2];have:∀l:List Nat,(∀v∈l,bl (tA fl ps ws W).length (aU (tA fl ps ws W)) (aV (tA fl ps ws W)) x v=0)->(l.map (bl (tA fl ps ws W).length (aU (tA fl ps ws W)) (aV (tA fl ps ws W)) x)).sum=0:=by
   intro l
   induction l with
  |nil=>intro _;rfl
  |cons y r I=>intro k;rw[v4,xY,k y (by simp),I λu J=>k u (by simp[J])];rfl
  refine this _ λv hv=>?_;obtain⟨u,_,rfl⟩:=vQ.mp hv;exact c.b0 _ (by lia) (by lia)
 have B:∀v,(2+v∈S.map (2+·)) ↔ v∈S:=λv=>by
  constructor
  ·intro h;obtain⟨u,J,e⟩:=vQ.mp h;have:u=v:=by lia
   exact this ▸ J
  ·intro h;exact vQ.mpr ⟨v,h,rfl⟩
 have n0:(0:Nat) ∉ S.map (2+·):=λh=>by obtain⟨u,_,e⟩:=vQ.mp h;lia
 have Z:(1:Nat) ∉ S.map (2+·):=λh=>by obtain⟨u,_,e⟩:=vQ.mp h;lia
 rw[c.flx]at z;have e1:sm fl.length (λi=>(if 2+i∈S.map (2+·)then x i else 0) - (if(0:Nat)∈S.map (2+·)then x i else 0))<=sm fl.length (λi=>if i∈S then fx fl i else 0):=zms λi hi=>by
  have:=c.x1 hi;rw[aA n0];by_cases h:i∈S
  ·rw[aF ((B i).mpr h),aF h];lia
  ·rw[aA (λy=>h ((B i).mp y)),aA h];lia
 have e2:sm ps.length (λj=>(if 2+pV ps j∈S.map (2+·)then x (fl.length+j)else 0) - (if 2+pU ps j∈S.map (2+·)then x (fl.length+j)else 0))<=sm ps.length (λ_=>0):=zms λj G=>by
  have:=c.x2 G;have hc:=cl ps[j] (xF G);have eu:pU ps j=ps[j].1:=by unfold pU;rw[u5 G];rfl
  have ev:pV ps j=ps[j].2:=by unfold pV;rw[u5 G];rfl
  rw[eu,ev];by_cases h:ps[j].2∈S
  ·rw[aF ((B _).mpr h),aF ((B _).mpr (hc h))];lia
  ·rw[aA (λy=>h ((B _).mp y))];split <;> lia
 have O:sm fl.length (λi=>(if(1:Nat)∈S.map (2+·)then x (fl.length+ps.length+i)else 0) - (if 2+i∈S.map (2+·)then x (fl.length+ps.length+i)else 0))=sm fl.length (λi=>0 - (if i∈S then fx ws i else 0)):=zy0 λi hi=>by
  have hq:=eq i hi;rw[aA Z];by_cases h:i∈S
  ·rw[aF ((B i).mpr h),aF h,hq]
  ·rw[aA (λy=>h ((B i).mp y)),aA h]
 rw[zf2]at e2;have O:=O.trans ((znh (λ_=>0) (λi=>if i∈S then fx ws i else 0) fl.length).trans (by rw[zf2,zzw _ nd M]));rw[zzw _ nd M]at e1;have e4:(S.map λv=>fx ws v - fx fl v).sum=(S.map (fx ws)).sum - (S.map (fx fl)).sum:=by
  have:∀l:List Nat,(l.map λv=>fx ws v - fx fl v).sum=(l.map (fx ws)).sum - (l.map (fx fl)).sum:=by
   intro l
   induction l with
  |nil=>rfl
  |cons y r I=>simp only[v4,xY,I];lia
  exact this S
 lia
theorem Cut.beyond(c:Cut fl ps ws W x)(hW:fl.sum < W)(O:tight (tA fl ps ws W).length (aU (tA fl ps ws W)) (aV (tA fl ps ws W)) (zq8 (tA fl ps ws W)) x side)(h0:0∈side)(h1:1 ∉ side)(nds:side.Nodup) :
  (∀p∈ps,2+p.1∈side->2+p.2∈side)/\(- bl (tA fl ps ws W).length (aU (tA fl ps ws W)) (aV (tA fl ps ws W)) x 0≠ws.sum->0 < (((u3 fl.length).filter λv=>decide (2+v ∉ side)).map λv=>fx ws v - fx fl v).sum):=by
 have hl:=c.lw;have w1:=c.worth.1;have w2:=c.worth.2;have le1:sm fl.length x<=fl.sum:=by rw[znn];exact zms λi hi=>(c.x1 hi).2
 have fc:=zup O;rw[<- zsq nds h0 h1 c.b0]at fc;have z:sm (tA fl ps ws W).length (λk=>if aU (tA fl ps ws W) k∈side/\aV (tA fl ps ws W) k ∉ side then x k else 0)=sm fl.length (λi=>if 2+i ∉ side then x i else 0)+sm ps.length (λj=>if 2+pU ps j∈side/\2+pV ps j ∉ side then x (fl.length+j)else 0)+sm fl.length (λi=>if 2+i∈side then x (fl.length+ps.length+i)else 0):=by
  rw[zve1 c.lw λu v k=>if u∈side/\v ∉ side then x k else 0];congr 1
  ·congr 1;exact zy0 λi hi=>by simp[h0]
  ·exact zy0 λi hi=>by simp[h1]
 rw[z]at fc;have M:∀{g:Nat->Int}{m:Nat},(∀i,i < m->0<=g i)->0<=sm m g:=λ{g m} h=>by
  have:=zms (m:=m) (g:=λ_=>0) (h:=g) h;rw[zf2]at this;exact this
 have p1:0<=sm fl.length (λi=>if 2+i ∉ side then x i else 0):=M λi hi=>by have:=c.x1 hi;split <;> lia
 have p3:0<=sm fl.length (λi=>if 2+i∈side then x (fl.length+ps.length+i)else 0):=M λi hi=>by have:=c.x3 hi;split <;> lia
 have J:∀j,j < ps.length->¬(2+pU ps j∈side/\2+pV ps j ∉ side):=λj q h=>by
  have t:=O (fl.length+j) (by rw[zae];lia);obtain⟨I,G,B⟩:=zds (tA2 (fl:=fl) (ws:=ws) (W:=W) (u5 q));rw[I,G,B]at t;have eu:pU ps j=ps[j].1:=by unfold pU;rw[u5 q];rfl
  have ev:pV ps j=ps[j].2:=by unfold pV;rw[u5 q];rfl
  have Z:=t.1 (by rw[<- eu];exact h.1) (by rw[<- ev];exact h.2);have Z:x (fl.length+j)=W:=Z;have big:W<=sm ps.length (λj=>if 2+pU ps j∈side/\2+pV ps j ∉ side then x (fl.length+j)else 0):=by
   rw[<- zrt (j:=j) W q];exact zms λi hi=>by
    have:=c.x2 hi;by_cases e:i=j
    ·subst e;rw[aF rfl,aF h,Z];lia
    ·rw[aA e];split <;> lia
  lia
 refine⟨λp hp hu=>?_,λne=>?_⟩
 ·obtain⟨j,q,e⟩:=uaS hp;have:=J j q;have eu:pU ps j=p.1:=by unfold pU;rw[u5 q,e];rfl
  have ev:pV ps j=p.2:=by unfold pV;rw[u5 q,e];rfl
  rw[eu,ev]at this;exact Classical.byContradiction λh=>this ⟨hu,h⟩
 ·have z2:sm ps.length (λj=>if 2+pU ps j∈side/\2+pV ps j ∉ side then x (fl.length+j)else 0)=0:=by
   rw[zy0 (h:=λ_=>0) λj q=>aA (J j q),zf2]
  have t1:sm fl.length (λi=>if 2+i ∉ side then x i else 0)=sm fl.length (λi=>if 2+i ∉ side then fx fl i else 0):=zy0 λi hi=>by
   by_cases h:2+i∈side
   ·simp[h]
   ·have t:=O i (by rw[zae];lia);obtain⟨I,G,B⟩:=zds (tA1 (ps:=ps) (ws:=ws) (W:=W) hi);rw[I,G,B]at t;rw[aF h,aF h];exact t.1 h0 h
  have t3:sm fl.length (λi=>if 2+i∈side then x (fl.length+ps.length+i)else 0)=sm fl.length (λi=>if 2+i∈side then fx ws i else 0):=zy0 λi hi=>by
   by_cases h:2+i∈side
   ·have t:=O (fl.length+ps.length+i) (by rw[zae];lia);obtain⟨I,G,B⟩:=zds (tA3 (fl:=fl) (ps:=ps) (W:=W) (i:=i) (by lia:i < ws.length));rw[I,G,B]at t;rw[aF h,aF h];exact t.1 h h1
   ·simp[h]
  have le3:sm fl.length (λi=>x (fl.length+ps.length+i))<=ws.sum:=by rw[znn,hl];exact zms λi hi=>(c.x3 hi).2
  have tot:ws.sum=sm fl.length (λi=>if 2+i∈side then fx ws i else 0)+sm fl.length (λi=>if 2+i ∉ side then fx ws i else 0):=by
   rw[znn,hl,<- zqt];exact zy0 λi hi=>by by_cases h:2+i∈side <;> simp[h]
  have nd:((u3 fl.length).filter λv=>decide (2+v ∉ side)).Nodup:=zB.filter _;have hb:∀v∈(u3 fl.length).filter λv=>decide (2+v ∉ side),v < fl.length:=λv hv=>u8.mp (yO.mp hv).1;rw[<- zzw _ nd hb];have:sm fl.length (λi=>if i∈(u3 fl.length).filter λv=>decide (2+v ∉ side)then fx ws i - fx fl i else 0)=sm fl.length (λi=>(if 2+i ∉ side then fx ws i else 0) - (if 2+i ∉ side then fx fl i else 0)):=zy0 λi hi=>by
   by_cases h:2+i∈side
   ·simp[h]
   ·simp[h,hi]
  rw[this,znh];lia
end
end _5
namespace _4
open PySem PySem.Spec PyProof.Rows _2 _3
abbrev DX:=aE->DSt->Prop
abbrev DCX:=DSt->(T->DSt->Prop)->DX->Prop
section
variable {X:Cx}{x:Str}{pos pos':Pos}{e a b:aZ}{te ta tb:TE}{k j:Nat}{K:Fg}
theorem pset(i:Nat)(G:X.N.Nodup)(z:PE X e te)(hi:X.N[i]?=some x:=by rfl)(p:Loc X.env.scope x:=by walk_at"vi")(q:f9 e (some (.Name x pos')) pos.line X.env=pure false:=by rfl)(u:X.fn x=true \/ X.env.scope.names.lookup x=some .local:=by walk_at"vi"):PS X (.Assign [.Name x pos'] e pos) (tAsg te (zos i)):=zoz G hi p z q u
theorem pgn(i:Nat)(u:X.N.Nodup)(hi:X.N[i]?=some x:=by rfl)(p:Loc X.env.scope x:=by walk_at"vi")(q:X.fn x=true \/ X.env.scope.names.lookup x=some .local:=by walk_at"vi"):PG X (.Name x pos) (zos i):=zz51 u hi p q
theorem pix(w:aR)(K:Fg)(hr:Room k X.A)(u:PE X a ta)(q:PE X b tb)(hw:X.w=w:=by rfl)(z:X.K=K:=by rfl)(p:zru b:=by exact λ_ _=>rfl):PE X (.Subscript a b pos) (tOp (rIxV w K) ta tb):=zkg1 (ix_V (Room.units hr) hw z) u q p
theorem nds(l:List Str)(h:l.Nodup:=by decide +kernel):l.Nodup:=h
theorem rvi{i:Int}:RfV K (tC (.int i)) (dC (.int i)):=RfE.v zc1
theorem rgn(i:Nat)(hi:i < 100:=by decide):RfG K 100 (zos i) (gN i):=zo1 hi
theorem rmn{A:bB}(hr:Room k A)(h:j<=k:=by decide):Room j A:=Room.mono hr h
end
end _4
namespace _5
open PySem PySem.Spec PyProof.Rows _2 _3 _4
variable {n:Nat}{s:aH}
theorem zh31:bH "dict"=some (.type "dict"):=by decide +kernel
theorem zeh:typeLookup (.type "list") "keys"=pure none:=by rw[typeLookup_type,builtinLookup_eq_fast];kernel_rfl
theorem zad:entryFor table "dict.update.loop"=some Builtin.«dict.update.loop»:=entryFor_of_fast (by kernel_rfl)
theorem zk7:plainId "dict.update.loop"=true:=by decide +kernel
section
variable {prog:aQ}{w:aR}{A:bB}{E:aC->aH->Prop}
theorem zz71{l:aE}{ob:Obj}{ys:Array aC}{Q:Option aC->aH->Prop}(B:s.heap.get? l=some ob)(z:ob.cls=.type "list")(u:ob.data=.seq ys n)(q:ob.dict=none)(I:A.handled=none)
  (k:∀g tk e,Heap.NewExcOf s.heap g e "AttributeError"->Q none { s with heap:=g,toks:=tk }):aL (aM prog w) A (getAttr? (.ref l) "keys") Q E s:=by
 obtain⟨c,L,M,sl⟩:=ob;simp only at z u q;subst z;subst u;subst q;obtain⟨G,g,d,tk,os⟩:=s;have p:∀t',(⟨G,g,d,t',os⟩:aH).TypeIs (.ref l) "list":=λ_=>⟨_,B,rfl⟩
 have g1:=sub_AttributeError;have g3:=F.slot_list_getattribute.lookup;have Z:=F.slot_list_getattribute.bind (.ref l);have W:=am_list_getattr_none;unfold getAttr? getAttrBy? getAttrBy
 repeat (any_goals (first|assumption|exact p _|((with_reducible show aL _ _ (call (Value.builtin "list.__getattribute__") _ _) _ _ _);refine eM F.slot_list_getattribute (p _) am_entry_list_getattribute (F.args_list_getattribute_2 _ _) (meets_getattribute_miss_list l ys n sl "keys" _ zeh (by decide +kernel)) ⟨B,I,λg' J e ne=>?_⟩)|wp_step))
 obtain⟨t',O,S⟩:=ne.there;show aL _ _ (iA _ _ _ _ _ _ _) _ _ _;unfold iA
 repeat (any_goals (first|assumption|wp_step))
 exact k _ _ _ ne.of
end
section
variable {X:Cx}{pins:List (aE×Obj)}{Y:_2.St}{A:bB}{E:aC->aH->Prop}
theorem zkt{H H':Hp}{a:aE}{y v:V}{u r:aC}{Q:Unit->aH->Prop}(hu:A.units+1 < cJ)(I:_2.Inv X pins Y H s)(g:DPut H a y v H')(S:RelV y u)(rv:RelV v r)
  (k:∀g t,bM a s.heap g->_2.Inv X pins Y H' { s with heap:=g,toks:=t }->Q () { s with heap:=g,toks:=t }):aL (aM X.prog X.w) A.in1 (dictSet a u r) Q E s:=by
 rcases g with⟨kvs,c,e,L,l,M⟩|⟨kvs,c,b,e,L,Z,l,M⟩
 ·subst L;subst M;obtain⟨z,hd,vs,p,O⟩:=zl81 I.hok e;refine wpAny_dictSet_pairs (hsz:=by rw[<- p.length];exact z) (zux S) O λg B G=>k g _ G ?_;refine zgf I (by rw[e];exact True.intro) G ?_ (zyx (by have:=zz2 kvs c v;lia) hd (p.put c rv) B);obtain⟨q,_,_,J,_⟩:=B;exact⟨q,J⟩
 ·subst L;subst M;cases (show u=vX b from S);obtain⟨z,hd,xs,p,O⟩:=ztd1 I.hok e;refine wpAny_dictSet_heap (hsz:=by rw[<- d9 p];exact z) (dH hu) (zfl I.hok Z) O λg B G=>k g _ G ?_;obtain⟨q,es,ep,J,p2,p3,p4,_,p5⟩:=B;refine zgf I (by rw[e];exact True.intro) G ⟨q,J⟩ ⟨by have:=zz2 kvs c v;lia,hd,_,(p.put c Z rv).keeps λf ys W=>?_,q,es,ep,J,p2,p3,p4,p5⟩;rw[zb1 (zme1 W e (λz=>nomatch z))];exact W
theorem zcu(hA:A.handled=none)(hu:A.units+1 < cJ){R:iS->aH->Prop}{p l it:aE}{ys:List V}{H:Hp}{G:Nat->HO}(hq:SqL X.K H p ys)(hl:H l=none)(nl:it≠l)(fo:FpOk X pins H it)
  (hG:∀(i:Nat) y,ys[i]?=some y->∃q k v,y=.ref q/\SqT X.K H q [k,v]/\DPut (upd H l (G i)) l k v (upd H l (G (i+1)))) (hR:∀s',_2.Inv X pins Y (upd H l (G ys.length)) s'->R (.ok (.ret .none)) s') :
  ∀(n i:Nat)(s:aH)(z:Int)(t:Tok),ys.length - i=n->i<=ys.length->_2.Inv X pins Y (upd H l (G i)) s->s.heap.IsListIter it p i->dZ (aM X.prog X.w) A (.builtin "dict.update.loop" ⟨[.ref l,.ref it,.int z t,.none],[]⟩) R s:=by
 have S:∀o,upd H l o it=none:=λo=>by rw[zb1 nl];exact fo.1
 have u:∀{i:Nat}{s:aH}{g:aX},_2.Inv X pins Y (upd H l (G i)) s->(∀b o,b≠it->s.heap.get? b=some o->g.get? b=some o)->_2.Inv X pins Y (upd H l (G i)) { s with heap:=g }:=λI kp=>I.turned (t':=_) kp (S _) fo.2.1 fo.2.2.2.1 fo.2.2.2.2.1 fo.2.2.2.2.2;intro n
 induction n with
|zero =>
  intro i s z t hn hi I M;have ei:i=ys.length:=by lia
  subst ei;obtain⟨its,rv,pl,_⟩:=I.list ((zs1 hl (G ys.length)).seq hq);have B:=rv.length;refine i8 zad ?_;rw[Around.under_plainId zk7 _];show aL _ A.in1 (gG (.ref it) >>= _) _ _ s;refine aG (gJ hA M pl.isList (by simp[B]) λg hx=>?_);show aL _ _ (Builtin.Dict.addKeywords l [] >>= _) _ _ _;exact aG (aP (aP (hR _ (u I λb o L e=>hx b o L e))))
|succ n ih =>
  intro i s z t hn hi I M;have J:i < ys.length:=by lia
  obtain⟨q,kk,v,ey,sq,dp⟩:=hG i ys[i] (u5 J);obtain⟨its,rv,pl,_⟩:=I.list ((zs1 hl (G i)).seq hq);have B:=rv.length;have hlt2:i < its.length:=by lia
  obtain⟨uq,gq,Z⟩:=rv.get (u5 J);rw[ey]at Z;cases (show uq=vX q from Z);refine i8 zad ?_;rw[Around.under_plainId zk7 _];show aL _ A.in1 (gG (.ref it) >>= _) _ _ s;refine aG (gE M pl.isList (x:=.ref q) (by simpa using gq) λg W hs=>?_);have I2:=u I λb o L e=>(hs.2 b L).trans e;obtain⟨tis,rt,tp,tz⟩:=I2.tuple (znl (zs1 hl (G i)) sq);obtain⟨u1,u2,rfl,r1,r2⟩:=ze81 rt;obtain⟨ob,o1,o2,o3,o4⟩:=tp;refine aG (cO ?_);refine aG (wpAny_tryCatch ?_);unfold Builtin.Dict.pairItems;refine aG (g7 (T := "tuple") ⟨ob,o1,o2⟩ ?_);rw[aF (by decide)];refine aG (b9 o1 o4 (aP ?_));refine cO (zkt hu I2 dp r1 r2 λg2 t2 O I3=>?_);refine aP ⟨plainId_quiet zk7 _,ih (i+1) _ _ _ (by lia) J I3 ?_⟩;obtain⟨oi,j1,j2⟩:=W;exact⟨oi,(O.2 it nl).trans j1,j2⟩
end
def zdd1(K:Fg):List V->Hp->VK->Prop:=λxs H Q=>∃p ys,∃G:Nat->HO,xs=[.ref p]/\SqL K H p ys/\(G 0=.dK [] \/ G 0=.dT []) /\
 (∀l,H l=none->∀(i:Nat) y,ys[i]?=some y->∃q k v,y=.ref q/\SqT K H q [k,v]/\DPut (upd H l (G i)) l k v (upd H l (G (i+1))))/\∀l,H l=none->Q (.ref l) (upd H l (G ys.length))
theorem zcm{X:Cx}{K:Fg}(hK:X.K=K)(hc:X.calm=true)(hu:X.A.units+64 < cJ):CallR X (.type "dict") (zdd1 K):=by
 subst hK;intro pins s Y H xs us Q I r hw;obtain⟨p,ys,G,rfl,M,h0,hG,q⟩:=hw;obtain⟨u,rfl,W⟩:=zry r;cases W;have hl:H s.heap.objs.size=none:=I.hok.fresh (u7 _);have O:=I.ok.hd hc;refine callType_codes (Q₁:=λob s'=>ob=.ref s.heap.objs.size/\s'={ s with heap:=s.heap.push { cls:=.type "dict",data:=.dict #[] } }) F.kt_called_dict (F.kt_typeCall_dict_1 _) F.entry_dict_init (kt_code_dict_new _ ⟨rfl,rfl⟩) ?_;rintro ob s' ⟨rfl,rfl⟩;have S:_2.Inv X pins Y (upd H s.heap.objs.size (G 0)) { s with heap:=s.heap.push { cls:=.type "dict",data:=.dict #[] } }:=by
  rcases h0 with e|e
  ·rw[e];exact I.laid (t':=s.toks) (λ_ _ z=>vS _ z) (u7 _) (zyn s.heap I.big)
  ·rw[e];exact I.laid (t':=s.toks) (λ_ _ z=>vS _ z) (u7 _) (zpn s.heap I.big)
 have tyD:Shared.TypeIs { s with heap:=s.heap.push { cls:=.type "dict",data:=.dict #[] } } (.ref s.heap.objs.size) "dict":=⟨_,wB _ rfl,rfl⟩
 refine⟨tyD,F.args_dict_init_2 _ _,?_⟩;unfold Builtin.«dict.__init__»;refine aG ?_;unfold Builtin.Dict.selfAndRest;refine aG (wpAny_notOrdered_dict tyD ?_);show aL _ _ (pure (s.heap.objs.size,[vX p])) _ _ _;refine aP ?_;show aL _ _ (Builtin.Dict.updateFrom "dict.__init__" s.heap.objs.size (.ref p) [] .none) _ _ _;obtain⟨its,rv,pl,_⟩:=S.list ((zs1 hl (G 0)).seq M);obtain⟨o,n,B,o2,Z,L⟩:=pl;unfold Builtin.Dict.updateFrom;refine aG (g7 (T := "list") ⟨o,B,o2⟩ ?_);rw[aF (by decide)];refine aG (zz71 B o2 L Z O λg tk e ne=>?_);rw[aF (show(none:Option aC).isNone=true from rfl)];refine aG (cK ?_);have J:_2.Inv X pins Y (upd H s.heap.objs.size (G 0)) { s with heap:=g,toks:=tk }:=S.kept ne.keeps;refine aG (fM ⟨o,ne.keeps _ _ B,o2,n,L⟩ ?_);have lt:s.heap.objs.size < g.objs.size:=vY (ne.keeps _ _ (wB _ rfl));have fo:FpOk X pins H g.objs.size:=J.fpOk (u7 _) (by have:=J.hok.fresh (a:=g.objs.size) (u7 _);rw[zb1 (zF lt)]at this;exact this);exact aP ⟨plainId_quiet zk7 _,zcu (A:=X.A.in1) (R:=wants (λr s₂=>r=xM/\EP X pins Y Q (vX s.heap.objs.size) s₂) X.xe) (X:=X) (l:=s.heap.objs.size) (it:=g.objs.size) O (by show X.A.units+1+1 < cJ;lia) M hl (zF lt) fo (hG _ hl) (λs' I'=>⟨rfl,.ref _,_,I',rfl,q _ hl⟩) ys.length 0 _ _ _ (by lia) (wH _)
  (J.kept (t':=tk) λb u z=>vS _ z) ⟨_,wB _ rfl,rfl,rfl⟩⟩
theorem zk51{H:Hp}{l:aE}{a b:HO}:upd (upd H l a) l b=upd H l b:=by funext x;unfold upd;split <;> rfl
section
variable {K:Fg}{te:TE}{de:DE}
theorem za51(k:Key):keyD (kD k)=some k:=by cases k <;> rfl
def mG{κ:Type}[DecidableEq κ](l:List (κ×V)):List (κ×V):=l.foldl (λa x=>putK a x.1 x.2) []
def mD{κ:Type}[DecidableEq κ](l:List (κ×D)):List (κ×D):=l.foldl (λa x=>putD a x.1 x.2) []
theorem zm51{κ:Type}[DecidableEq κ]{l:List (κ×V)}{i:Nat}{k:κ}{v:V}(h:l[i]?=some (k,v)):mG (l.take (i+1))=putK (mG (l.take i)) k v:=by
 unfold mG;rw[xI,h,List.foldl_append];rfl
theorem za91{κ:Type}[DecidableEq κ](l:List (κ×V)):(mG l).length<=l.length:=by
 have:∀(l:List (κ×V))(a:List (κ×V)),(l.foldl (λa x=>putK a x.1 x.2) a).length<=a.length+l.length:=by
  intro l
  induction l with
 |nil=>intro a;simp
 |cons x r p=>intro a;have:=p (putK a x.1 x.2);have:=zz2 a x.1 x.2;simp only[zI,xA];lia
 simpa[mG]using this l []
theorem zwg1{κ:Type}[DecidableEq κ]{F:Hp}{r:List (κ×V)}{t:List (κ×D)}(h:KvIs K F r t):KvIs K F (mG r) (mD t):=by
 have:∀{r:List (κ×V)}{t:List (κ×D)},KvIs K F r t->∀{a:List (κ×V)}{b:List (κ×D)},KvIs K F a b->KvIs K F (r.foldl (λa x=>putK a x.1 x.2) a) (t.foldl (λa x=>putD a x.1 x.2) b):=by
  intro r t h
  induction h with
 |nil=>intro a b h;exact h
 |cons q _ p=>intro a b h;exact p (h.put q)
 exact this h .nil
theorem zf41{F:Hp}{v:V}{B z:D}(h:Is K F v (.tuple [B,z])):∃q u p,v=.ref q/\SqT K F q [u,p]/\Is K F u B/\Is K F p z:=by
 obtain⟨a,xs,rfl,L,J⟩:=h.tuple_inv;cases J with
|cons I r =>
  cases r with
 |cons G r=>cases r;exact⟨a,_,_,rfl,L,I,G⟩
theorem zt51{F:Hp}:∀{ys:List V}{ps:List (Key×D)},IsAll K F ys (ps.map λp=>.tuple [kD p.1,p.2])->∃u:List (Key×V),KvIs K F u ps/\u.length=ys.length/\∀(i:Nat) y,ys[i]?=some y->∃q k v,y=.ref q/\SqT K F q [kV k,v]/\u[i]?=some (k,v)
|_,[],.nil=>⟨[],.nil,rfl,λi y h=>by simp at h⟩
|_,p :: ps,.cons h r=>by
  obtain⟨u,L,J,I⟩:=zt51 r;obtain⟨q,M,z,rfl,s1,G,B⟩:=zf41 h;have:=zgl G (za51 p.1);subst this;refine⟨(p.1,z) :: u,.cons B L,by simp[J],λi y e=>?_⟩;cases i with
 |zero=>simp at e;subst e;exact⟨q,p.1,z,rfl,s1,rfl⟩
 |succ i=>exact I i y (by simpa using e)
def zx71(de:DE):DN:=λU Q=>de U λd=>∃ps:List (Key×D),d=.list (ps.map λp=>.tuple [kD p.1,p.2])/\ps.length < sizeLine/\Q (.dk (mD ps))
theorem zwg(de:DE)(U:DSt)(Q:T->Prop):zx71 de U Q=(de U λd=>∃ps:List (Key×D),d=.list (ps.map λp=>.tuple [kD p.1,p.2])/\ps.length < sizeLine/\Q (.dk (mD ps))):=rfl
theorem zjc1{F H:Hp}{l:aE}(s:Same F H)(h:H l=none):F l=none:=by
 cases e:F l with
|none=>rfl
|some o=>rw[s l o e]at h;cases h
theorem zyw(h:RfE K te de):RfN K (tCB (zdd1 K) (zkm te tNil)) (zx71 de):=by
 walk_at"2";refine h s rv hd λd q v J I B i1=>?_;obtain⟨ps,rfl,hz,q⟩:=q;obtain⟨p,ys,rfl,h1,h2⟩:=i1.list_inv;obtain⟨u,M,k2,Z⟩:=zt51 h2;have hl:=M.len;refine⟨p,ys,λi=>.dK (mG (u.take i)),rfl,B.fh.seq h1,.inl rfl,λl G i y ey=>?_,λl G=>?_⟩
 ·obtain⟨q,L,W,rfl,s1,S⟩:=Z i y ey;have hi:=(wG.mp S).1;refine⟨q,kV L,W,rfl,znl B.fh s1,.inl ⟨mG (u.take i),L,zp0,rfl,?_,?_⟩⟩
  ·have:=za91 (u.take i);rw[wM]at this;lia
  ·show upd I l (.dK (mG (u.take (i+1))))=upd (upd I l (.dK (mG (u.take i)))) l _;rw[zm51 S,zk51]
 ·have fl:=zjc1 B.fh G;have e2:Ext J I J (upd I l (.dK (mG u))):=ztj B.fh G;show Q (.ref l) (upd I l (.dK (mG (u.take ys.length))));rw[<- k2,xR];refine k _ q (.ref l) J _ [l] (B.trans e2) (.dk zp0 fl (zwg1 M)) (by simp) λa O=>?_;simp at O;subst O;cases z:H a with
 |none=>rfl
 |some o=>rw[B.h a o z]at G;cases G
end
section
variable {K:Fg}
def zwr:List D->(D->Prop)->Prop
|[.int i,.int j],Q=>0 < j/\j < 1606938044258990275541962092341162602522202993782792835301376/\Q (.tuple [.int (i / j),.int (i % j)])
|_,_=>False
theorem zjd(i j:Int)(Q:D->Prop):zwr [.int i,.int j] Q=(0 < j/\j < 1606938044258990275541962092341162602522202993782792835301376/\Q (.tuple [.int (i / j),.int (i % j)])):=rfl
theorem zxz:CB K zmv zwr:=by
 intro F H vs ds Qd Q s q h k;unfold zwr at h;split at h
 ·obtain⟨v,u,rfl,G,B⟩:=vw2 q;rw[G.int,B.int];refine⟨_,_,rfl,h.1,h.2.1,λp z=>?_⟩;obtain⟨e,i⟩:=zoc (K:=K) s z (.cons (.int _) (.cons (.int _) .nil));exact k _ h.2.2 _ _ _ e i
 ·exact h.elim
end
theorem zeg1{α β:Type}{xs:List α}{enc:α->D}(ok:β->Prop)(p:β->D){ix:List Nat}{dg:DG}{de:DE}{U:DSt}{Q:List D->Prop}(hz:xs.length<=sizeLine)
  (h:∀x∈xs,dg (enc x) (cST n ix U) λU'=>de U' λr=>∃b,ok b/\r=p b) (q:∀bs:List β,bs.length=xs.length->(∀b∈bs,ok b)->Q (bs.map p)):zk81 (xs.map enc) n ix dg zu81 de U Q:=by
 refine⟨by rw[u4];exact hz,λ_ o=>∃b,ok b/\o=some (p b),λi d e=>?_,λos hl W=>?_⟩
 ·rw[u9]at e;obtain⟨x,L,rfl⟩:=w6.mp e;have:=h x (wK L);have e1:(λr=>∃b,ok b/\some r=some (p b))=λr=>∃b,ok b/\r=p b:=by funext r;simp
  show dg (enc x) (cST n ix U) λU'=>if true=true then de U' λr=>∃b,ok b/\some r=some (p b)else ∃b,ok b/\none=some (p b)
  rw[e1];simp only[if_true];exact this
 ·have key:∀os:List (Option D),(∀o∈os,∃b,ok b/\o=some (p b))->∃bs:List β,bs.length=os.length/\(∀b∈bs,ok b)/\os.filterMap id=bs.map p:=by
   intro os
   induction os with
  |nil=>intro _;exact⟨[],rfl,(λb S=>by simp at S),rfl⟩
  |cons o r J =>
    intro k;obtain⟨b,Z,rfl⟩:=k o (by simp);obtain⟨bs,I,G,B⟩:=J λo u=>k o (by simp[u]);refine⟨b :: bs,by simp[I],λc O=>?_,by simp[B]⟩;rcases vR.mp O with z|z
    ·rw[z];exact Z
    ·exact G c z
  obtain⟨bs,b1,b2,b3⟩:=key os λo u=>by
   obtain⟨j,M⟩:=List.mem_iff_getElem?.mp u;exact W j o M
  rw[b3];exact q bs (by rw[b1,hl,u4]) b2
variable {A:List Ar}{L f0:List Int}{eu ev:Nat->Nat}{k' m m' n w:Nat}{side:List Nat}{x:Nat->Int}
def su{α:Type}(l:List α)(f:α->Int):Int:=(l.map f).sum
section
variable {α β:Type}
theorem zf3(f:α->Int):su [] f=0:=rfl
theorem zt0(x:α)(l:List α)(f:α->Int):su (x :: l) f=f x+su l f:=by unfold su;simp
theorem zv4(l m:List α)(f:α->Int):su (l++m) f=su l f+su m f:=by unfold su;simp
theorem zl4(l:List β)(p:β->α)(f:α->Int):su (l.map p) f=su l λx=>f (p x):=by unfold su;rw[wF];rfl
theorem zn0{l:List α}{f g:α->Int}(h:∀x∈l,f x=g x):su l f=su l g:=by unfold su;rw[yG h]
theorem zea(l:List β)(p:β->List α)(f:α->Int):su (l.flatMap p) f=su l λx=>su (p x) f:=by
 induction l with
|nil=>rfl
|cons x r q=>rw[wE,zv4,q,zt0]
theorem zxa(l:List α):su l (λ_=>0)=0:=by
 induction l with
|nil=>rfl
|cons x r p=>rw[zt0,p];rfl
theorem su_zero'{l:List α}{f:α->Int}(h:∀x∈l,f x=0):su l f=0:=by rw[zn0 h,zxa]
theorem zz5(l:List α)(f g:α->Int):su l (λx=>f x+g x)=su l f+su l g:=by
 induction l with
|nil=>rfl
|cons x r p=>rw[zt0,zt0,zt0,p];lia
theorem zka(l:List α)(f g:α->Int):su l (λx=>f x - g x)=su l f - su l g:=by
 induction l with
|nil=>rfl
|cons x r p=>rw[zt0,zt0,zt0,p];lia
theorem zvr{l:List α}{f g:α->Int}(h:∀x∈l,f x<=g x):su l f<=su l g:=by
 induction l with
|nil=>exact xK _
|cons x r p =>
  have a:=h x wJ;have b:=p λy q=>h y (wA _ q);rw[zt0,zt0];lia
theorem zf8{k:Nat}(d:Nat->Int)(h:k < n):su (u3 n) (λj=>if j=k then d j else 0)=d k:=by
 have:=zrt (j:=k) (d k) h;unfold sm at this;refine Eq.trans (zn0 λj _=>?_) this;by_cases e:j=k
 ·subst e;simp
 ·simp[e]
end
theorem zue{F:List Int}(h:F.length=A.length)(Φ:Nat->Nat->Int->Int->Prop):(∀k,k < A.length->Φ (aU A k) (aV A k) (zq8 A k) (fx F k)) ↔ ∀p∈A.zip F,Φ p.1.1 p.1.2.1 p.1.2.2 p.2:=by
 rw[znr h];constructor
 ·intro q p z;obtain⟨k,u,rfl⟩:=vQ.mp z;exact q k (u8.mp u)
 ·intro q k u;exact q _ (vQ.mpr ⟨k,u8.mpr u,rfl⟩)
theorem ziu{F:List Int}(h:F.length=A.length)(φ:Nat->Nat->Int->Int):(sm A.length λk=>φ (aU A k) (aV A k) (fx F k))=su (A.zip F) λp=>φ p.1.1 p.1.2.1 p.2:=by
 rw[znr h,zl4];rfl
structure Nt where
 N:Nat
 n:Nat
 fl:Nat->Int
 rm:Nat->Int
 P:Nat->List Nat
 U:Nat->Nat
 V:Nat->Nat
 Ln:Nat->Nat
 W:Nat->Nat->Int
structure Fm where
 a:Nat->Int
 r:Nat->Nat->Int
 g:Nat->Nat->Int
 t:List (Nat->Int)
def Nt.nd(T:Nt)(m k:Nat):Nat:=2+m * T.N+k
def Nt.arcs(T:Nt)(cs:List (Nat->Int)):List Ar :=
 (u3 T.N).map (λk=>(0,T.nd 0 k,T.fl k))++((u3 T.n).flatMap λm=>(u3 T.N).map (λk=>(T.nd m k,T.nd (m+1) k,T.rm k))++(T.P m).map λi=>(T.nd m (T.U i),T.nd (m+T.Ln i) (T.V i),T.W i m)) ++
  cs.flatMap λc=>(u3 T.N).map λk=>(T.nd T.n k,1,c k)
def Nt.flow(T:Nt)(f:Fm):List Int :=
 (u3 T.N).map f.a++((u3 T.n).flatMap λm=>(u3 T.N).map (f.r m)++(T.P m).map (f.g m))++f.t.flatMap λt=>(u3 T.N).map t
def Nt.both(T:Nt)(cs:List (Nat->Int))(f:Fm):List (Ar×Int) :=
 (u3 T.N).map (λk=>((0,T.nd 0 k,T.fl k),f.a k))++((u3 T.n).flatMap λm=>(u3 T.N).map (λk=>((T.nd m k,T.nd (m+1) k,T.rm k),f.r m k))++(T.P m).map λi=>((T.nd m (T.U i),T.nd (m+T.Ln i) (T.V i),T.W i m),f.g m i)) ++
  (cs.zip f.t).flatMap λc=>(u3 T.N).map λk=>((T.nd T.n k,1,c.1 k),c.2 k)
section
variable {T:Nt}{cs:List (Nat->Int)}{f:Fm}
theorem zhr{α β γ:Type}{p:γ->List α}{q:γ->List β}(l:List γ)(h:∀x,(p x).length=(q x).length):(l.flatMap p).length=(l.flatMap q).length:=by
 induction l with
|nil=>rfl
|cons x r u=>simp only[wE,vT,u,h]
theorem zg11{α β γ:Type}{p:γ->List α}{q:γ->List β}(l:List γ)(h:∀x,(p x).length=(q x).length):(l.flatMap p).zip (l.flatMap q)=l.flatMap λx=>(p x).zip (q x):=by
 induction l with
|nil=>rfl
|cons x r u=>rw[wE,wE,wE,zA (h x),u]
theorem zaw(n:Nat)(e:(Nat->Int)->Nat->Ar):∀(cs ts:List (Nat->Int)),cs.length=ts.length->(cs.flatMap λc=>(u3 n).map (e c)).zip (ts.flatMap λt=>(u3 n).map t)=(cs.zip ts).flatMap λc=>(u3 n).map λk=>(e c.1 k,c.2 k)
|[],[],_=>rfl
|c :: cs,t :: ts,h=>by
  rw[wE,wE,zA (by simp),ubI,wE,zaw n e cs ts (by simpa using h),k9]
theorem ziw(n:Nat)(e:(Nat->Int)->Nat->Ar):∀(cs ts:List (Nat->Int)),cs.length=ts.length->(cs.flatMap λc=>(u3 n).map (e c)).length=(ts.flatMap λt=>(u3 n).map t).length
|[],[],_=>rfl
|c :: cs,t :: ts,h=>by
  rw[wE,wE,vT,vT,ziw n e cs ts (by simpa using h)];simp
theorem Nt.len(h:cs.length=f.t.length):(T.flow f).length=(T.arcs cs).length:=by
 unfold Nt.flow Nt.arcs;rw[vT,vT,vT,vT,ziw T.N _ cs f.t h];congr 1;congr 1
 ·simp
 ·exact zhr _ λm=>by simp
theorem Nt.zip(h:cs.length=f.t.length):(T.arcs cs).zip (T.flow f)=T.both cs f:=by
 unfold Nt.flow Nt.arcs Nt.both;have u:((u3 T.N).map λk=>((0,T.nd 0 k,T.fl k):Ar)).length=((u3 T.N).map f.a).length:=by simp
 have B:=zhr (p:=λm=>(u3 T.N).map (λk=>((T.nd m k,T.nd (m+1) k,T.rm k):Ar))++(T.P m).map λi=>(T.nd m (T.U i),T.nd (m+T.Ln i) (T.V i),T.W i m)) (q:=λm=>(u3 T.N).map (f.r m)++(T.P m).map (f.g m)) (u3 T.n) λm=>by simp
 rw[zA (by rw[vT,vT,u,B]),zA u,zaw T.N _ cs f.t h,k9,zg11 _ λm=>by simp];congr 1;congr 1;refine congrArg (λz=>List.flatMap z (u3 T.n)) (funext λm=>?_);rw[zA (by simp),k9,k9]
theorem zhn{α:Type}[DecidableEq α](d:Int):∀(l:List α)(xs:List Int),l.Nodup->xs.length=l.length->∃g:α->Int,l.map g=xs
|[],[],_,_=>⟨λ_=>d,rfl⟩
|a :: l,x :: xs,nd,h=>by
  obtain⟨u,q⟩:=v9.mp nd;obtain⟨g,e⟩:=zhn d l xs q (by simpa using h);refine⟨λb=>if b=a then x else g b,?_⟩;rw[v4,aF rfl,<- e];congr 1;exact yG λb p=>aA λ(z:b=a)=>u (by rw[<- z];exact p)
theorem zwf{β:Type}{q:β->Nat}(mk:Nat->List Int->β):∀(n:Nat)(ln:Nat->Nat)(F:List Int),F.length=((u3 n).map ln).sum->∃B:Nat->List Int,(∀m,m < n->(B m).length=ln m)/\F=(u3 n).flatMap B
|0,ln,F,h=>⟨λ_=>[],λm p=>by lia,uaN (by simpa using h)⟩
|n+1,ln,F,h=>by
  rw[wV,v7,y9]at h;simp at h;obtain⟨B,G,z⟩:=zwf (q:=q) mk n ln (F.take ((u3 n).map ln).sum) (by rw[wM];lia);refine⟨λm=>if m=n then F.drop ((u3 n).map ln).sum else B m,λm p=>?_,?_⟩
  ·by_cases e:m=n
   ·subst e;simp only[if_true,yJ];lia
   ·simp only[aA e];exact G m (by lia)
  ·rw[wV,k7];simp only[wE,yL,wQ,aF rfl,if_true];have:((u3 n).flatMap λm=>if m=n then F.drop ((u3 n).map ln).sum else B m)=(u3 n).flatMap B:=by
    have:∀l:List Nat,(∀m∈l,m≠n)->(l.flatMap λm=>if m=n then F.drop ((u3 n).map ln).sum else B m)=l.flatMap B:=by
     intro l
     induction l with
    |nil=>intro _;rfl
    |cons x r u=>intro k;rw[wE,wE,u λm p=>k m (by simp[p]),aA (k x (by simp))]
    exact this _ λm p=>by have:=u8.mp p;lia
   rw[this,<- z,yF]
theorem zqj(n:Nat):∀(c:Nat)(F:List Int),F.length=c * n->∃ts:List (Nat->Int),ts.length=c/\F=ts.flatMap λt=>(u3 n).map t
|0,F,h=>⟨[],rfl,uaN (by simpa using h)⟩
|c+1,F,h=>by
  rw[yT]at h;obtain⟨ts,u,q⟩:=zqj n c (F.drop n) (by rw[yJ];lia);obtain⟨g,p⟩:=zhn 0 (u3 n) (F.take n) zB (by rw[wM,wO];lia);exact⟨g :: ts,by simp[u],by rw[wE,p,<- q,yF]⟩
theorem zf11{α β:Type}(p:β->List α)(l:List β):(l.flatMap p).length=(l.map λx=>(p x).length).sum:=by
 induction l with
|nil=>rfl
|cons x r q=>rw[wE,vT,q,v4,xY]
theorem Nt.split(nd:∀m,(T.P m).Nodup){F:List Int}(h:F.length=(T.arcs cs).length):∃f:Fm,cs.length=f.t.length/\F=T.flow f:=by
 unfold Nt.arcs at h;rw[vT,vT,u4,wO]at h;have e3:(cs.flatMap λc=>(u3 T.N).map λk=>((T.nd T.n k,1,c k):Ar)).length=cs.length * T.N:=by
  have:∀l:List (Nat->Int),(l.flatMap λc=>(u3 T.N).map λk=>((T.nd T.n k,1,c k):Ar)).length=l.length * T.N:=by
   intro l
   induction l with
  |nil=>simp
  |cons c r u=>rw[wE,vT,u,xA,yT];simp;lia
  exact this cs
 rw[e3,zf11]at h;generalize I:((u3 T.n).map λm=>((u3 T.N).map (λk=>((T.nd m k,T.nd (m+1) k,T.rm k):Ar))++(T.P m).map λi=>(T.nd m (T.U i),T.nd (m+T.Ln i) (T.V i),T.W i m)).length).sum=M at h;obtain⟨a,Z⟩:=zhn 0 (u3 T.N) (F.take T.N) zB (by rw[wM,wO];lia);obtain⟨B,J,b2⟩:=zwf (β:=Nat) (q:=id) (λ_ _=>0) T.n (λm=>T.N+(T.P m).length) ((F.drop T.N).take M) (by
  rw[wM,yJ,<- I];have:((u3 T.n).map λm=>((u3 T.N).map (λk=>((T.nd m k,T.nd (m+1) k,T.rm k):Ar))++(T.P m).map λi=>(T.nd m (T.U i),T.nd (m+T.Ln i) (T.V i),T.W i m)).length)=(u3 T.n).map λm=>T.N+(T.P m).length:=yG λm _=>by simp
  rw[this]at I ⊢;lia)
 obtain⟨ts,S,O⟩:=zqj T.N cs.length (F.drop (T.N+M)) (by rw[yJ];lia);have hr:∀m,∃g:Nat->Int,m < T.n->(u3 T.N).map g=(B m).take T.N:=λm=>by
  by_cases e:m < T.n
  ·obtain⟨g,p⟩:=zhn 0 (u3 T.N) ((B m).take T.N) zB (by rw[wM,J m e,wO];lia);exact⟨g,λ_=>p⟩
  ·exact⟨λ_=>0,λz=>aN z e⟩
 have p:∀m,∃g:Nat->Int,m < T.n->(T.P m).map g=(B m).drop T.N:=λm=>by
  by_cases e:m < T.n
  ·obtain⟨g,p⟩:=zhn 0 (T.P m) ((B m).drop T.N) (nd m) (by rw[yJ,J m e];lia);exact⟨g,λ_=>p⟩
  ·exact⟨λ_=>0,λz=>aN z e⟩
 obtain⟨r,hr⟩:=Classical.axiomOfChoice hr;obtain⟨g,p⟩:=Classical.axiomOfChoice p;refine⟨⟨a,r,g,ts⟩,S.symm,?_⟩;unfold Nt.flow;show F=(u3 T.N).map a++((u3 T.n).flatMap λm=>(u3 T.N).map (r m)++(T.P m).map (g m))++ts.flatMap λt=>(u3 T.N).map t;have e2:((u3 T.n).flatMap λm=>(u3 T.N).map (r m)++(T.P m).map (g m))=(u3 T.n).flatMap B:=by
  have:∀l:List Nat,(∀m∈l,m < T.n)->(l.flatMap λm=>(u3 T.N).map (r m)++(T.P m).map (g m))=l.flatMap B:=by
   intro l
   induction l with
  |nil=>intro _;rfl
  |cons x y u=>intro k;rw[wE,wE,u λm G=>k m (by simp[G]),hr x (k x (by simp)),p x (k x (by simp)),yF]
  exact this _ λm G=>u8.mp G
 rw[e2,Z,<- b2,<- O,vW,<- List.drop_drop];rw[yF,yF]
end
def Nt.inn(T:Nt)(f:Fm)(m k:Nat):Int:=su (u3 T.n) λm'=>su (T.P m') λi=>if m'+T.Ln i=m/\T.V i=k then f.g m' i else 0
def Nt.out(T:Nt)(f:Fm)(m k:Nat):Int:=if m < T.n then su (T.P m) λi=>if T.U i=k then f.g m i else 0 else 0
structure Nt.Ok(T:Nt):Prop where
 nd:∀m,(T.P m).Nodup
 ub:∀m,∀i∈T.P m,T.U i < T.N
 vb:∀m,∀i∈T.P m,T.V i < T.N
 ln:∀m,∀i∈T.P m,1<=T.Ln i/\m+T.Ln i<=T.n
section
variable {T:Nt}{cs:List (Nat->Int)}{f:Fm}
theorem Nt.nd_inj{k:Nat}(h:k < T.N)(h':k' < T.N)(e:T.nd m k=T.nd m' k'):m=m'/\k=k':=by
 unfold Nt.nd at e;rcases uaJ m m' with z|z|z
 ·have:=yM T.N (show m+1<=m' from z);rw[yT]at this;lia
 ·subst z;exact⟨rfl,by lia⟩
 ·have:=yM T.N (show m'+1<=m from z);rw[yT]at this;lia
theorem Nt.nd2(m k:Nat):2<=T.nd m k:=by unfold Nt.nd;lia
theorem Nt.is_nd(q:2<=w)(hw:w < T.nd (T.n+1) 0):∃m k,m<=T.n/\k < T.N/\w=T.nd m k:=by
 unfold Nt.nd at hw ⊢;have p:0 < T.N:=by
  rcases ubB T.N with z|z
  ·rw[z]at hw;simp at hw;lia
  ·exact z
 refine⟨(w - 2) / T.N,(w - 2) % T.N,?_,Nat.mod_lt _ p,?_⟩
 ·exact Nat.le_of_lt_succ (Nat.div_lt_of_lt_mul (by rw[zU,Nat.succ_eq_add_one];lia))
 ·have:=Nat.div_add_mod (w - 2) T.N;rw[zU]at this;lia
theorem zw51{q k p:Nat}(h:k < T.N)(h':k' < T.N)(u:p < T.N)(x:Int):trm (T.nd m k) (T.nd m' k') x (T.nd q p)=(if m'=q/\k'=p then x else 0) - (if m=q/\k=p then x else 0):=by
 unfold trm;congr 1
 ·by_cases e:m'=q/\k'=p
  ·obtain⟨rfl,rfl⟩:=e;simp
  ·rw[aA e,aA λz=>e (Nt.nd_inj h' u z)]
 ·by_cases e:m=q/\k=p
  ·obtain⟨rfl,rfl⟩:=e;simp
  ·rw[aA e,aA λz=>e (Nt.nd_inj h u z)]
theorem zgj{N k:Nat}{c:Prop}[Decidable c](d:Nat->Int)(h:k < N):su (u3 N) (λj=>if c/\j=k then d j else 0)=if c then d k else 0:=by
 by_cases e:c
 ·rw[aF e,<- zf8 d h];exact zn0 λj _=>by simp[e]
 ·rw[aA e];exact su_zero' λj _=>by simp[e]
theorem Nt.bal(ok:T.Ok)(hl:cs.length=f.t.length){k:Nat}(O:m<=T.n)(B:k < T.N):bl (T.arcs cs).length (aU (T.arcs cs)) (aV (T.arcs cs)) (fx (T.flow f)) (T.nd m k) =
  (if m=0 then f.a k else f.r (m - 1) k)+T.inn f m k - T.out f m k - (if m < T.n then f.r m k else su f.t λt=>t k):=by
 unfold bl;rw[ziu (Nt.len hl) λu v x=>trm u v x (T.nd m k),Nt.zip hl];unfold Nt.both;rw[zv4,zv4,zl4,zea,zea];have p1:(su (u3 T.N) λj=>trm 0 (T.nd 0 j) (f.a j) (T.nd m k))=if m=0 then f.a k else 0:=by
  rw[<- zgj (c:=m=0) f.a B];refine zn0 λj q=>?_;have q:=u8.mp q;unfold trm;have J:=Nt.nd2 (T:=T) m k;rw[aA (show(0:Nat)≠T.nd m k by lia)];by_cases e:m=0/\j=k
  ·obtain⟨rfl,rfl⟩:=e;simp
  ·rw[aA e,aA λz=>e (by have:=Nt.nd_inj q B z;exact⟨this.1.symm,this.2⟩)];rfl
 have I:(su (cs.zip f.t) λx=>su ((u3 T.N).map λj=>(((T.nd T.n j,1,x.1 j):Ar),x.2 j)) λp=>trm p.1.1 p.1.2.1 p.2 (T.nd m k))=- if m=T.n then su f.t (λt=>t k)else 0:=by
  have G:∀x∈cs.zip f.t,(su ((u3 T.N).map λj=>(((T.nd T.n j,1,x.1 j):Ar),x.2 j)) λp=>trm p.1.1 p.1.2.1 p.2 (T.nd m k))=0 - if m=T.n then x.2 k else 0:=λx _=>by
   rw[zl4,<- zgj (c:=m=T.n) x.2 B];refine Eq.trans (zn0 (g:=λj=>0 - if m=T.n/\j=k then x.2 j else 0) λj q=>?_) (by rw[zka,zxa]);have q:=u8.mp q;unfold trm;have J:=Nt.nd2 (T:=T) m k;show(if 1=T.nd m k then x.2 j else 0) - (if T.nd T.n j=T.nd m k then x.2 j else 0)=_;rw[aA (show(1:Nat)≠T.nd m k by lia)];by_cases e:m=T.n/\j=k
   ·obtain⟨rfl,rfl⟩:=e;simp
   ·rw[aA e,aA λz=>e (by have:=Nt.nd_inj q B z;exact⟨this.1.symm,this.2⟩)]
  rw[zn0 G,zka,zxa];have M:(su (cs.zip f.t) λx=>if m=T.n then x.2 k else 0)=if m=T.n then su f.t (λt=>t k)else 0:=by
   by_cases e:m=T.n
   ·simp only[aF e];have:f.t=(cs.zip f.t).map (·.2):=by rw[uaR (by lia)]
    conv=>rhs;rw[this]
    rw[zl4]
   ·simp only[aA e];exact zxa _
  rw[M];lia
 have p2:(su (u3 T.n) λm'=>su ((u3 T.N).map (λj=>(((T.nd m' j,T.nd (m'+1) j,T.rm j):Ar),f.r m' j))++(T.P m').map λi=>((T.nd m' (T.U i),T.nd (m'+T.Ln i) (T.V i),T.W i m'),f.g m' i)) λp=>trm p.1.1 p.1.2.1 p.2 (T.nd m k)) =
   (if m=0 then 0 else f.r (m - 1) k) - (if m < T.n then f.r m k else 0)+(T.inn f m k - T.out f m k):=by
  have G:∀m'∈u3 T.n,(su ((u3 T.N).map (λj=>(((T.nd m' j,T.nd (m'+1) j,T.rm j):Ar),f.r m' j))++(T.P m').map λi=>((T.nd m' (T.U i),T.nd (m'+T.Ln i) (T.V i),T.W i m'),f.g m' i)) λp=>trm p.1.1 p.1.2.1 p.2 (T.nd m k)) =
    ((if m'+1=m then f.r m' k else 0) - (if m'=m then f.r m' k else 0))+((su (T.P m') λi=>if m'+T.Ln i=m/\T.V i=k then f.g m' i else 0) - (if m'=m then su (T.P m') λi=>if T.U i=k then f.g m' i else 0 else 0)):=λm' _=>by
   rw[zv4,zl4,zl4];congr 1
   ·rw[<- zgj (c:=m'+1=m) (f.r m') B,<- zgj (c:=m'=m) (f.r m') B,<- zka];exact zn0 λj q=>zw51 (u8.mp q) (u8.mp q) B _
   ·have:(if m'=m then su (T.P m') λi=>if T.U i=k then f.g m' i else 0 else 0)=su (T.P m') λi=>if m'=m/\T.U i=k then f.g m' i else 0:=by
     by_cases e:m'=m
     ·rw[aF e];exact zn0 λi _=>by simp[e]
     ·rw[aA e];exact(su_zero' λi _=>by simp[e]).symm
    rw[this,<- zka];exact zn0 λi hi=>zw51 (ok.ub m' i hi) (ok.vb m' i hi) B _
  rw[zn0 G,zz5,zka,zka];congr 1
  ·congr 1
   ·by_cases e:m=0
    ·rw[aF e];exact su_zero' λj _=>aA (by lia)
    ·rw[aA e,<- zf8 (λj=>f.r j k) (show m - 1 < T.n by lia)];refine zn0 λj _=>?_;by_cases z:j=m - 1
     ·rw[aF z,aF (by lia)]
     ·rw[aA z,aA (by lia)]
   ·by_cases e:m < T.n
    ·rw[aF e,<- zf8 (λj=>f.r j k) e]
    ·rw[aA e];exact su_zero' λj q=>aA (by have:=u8.mp q;lia)
  ·congr 1;unfold Nt.out;by_cases e:m < T.n
   ·rw[aF e,<- zf8 (λj=>su (T.P j) λi=>if T.U i=k then f.g j i else 0) e]
   ·rw[aA e];exact su_zero' λj q=>aA (by have:=u8.mp q;lia)
 rw[p1,p2,I];have S:¬m < T.n ↔ m=T.n:=by lia
 by_cases e:m=0
 ·rw[aF e,aF e,aF e];by_cases z:m < T.n
  ·rw[aF z,aF z,aA (by lia)];lia
  ·rw[aA z,aA z,aF (by lia)];lia
 ·rw[aA e,aA e,aA e];by_cases z:m < T.n
  ·rw[aF z,aF z,aA (by lia)];lia
  ·rw[aA z,aA z,aF (by lia)];lia
theorem Nt.worth(hl:cs.length=f.t.length):bl (T.arcs cs).length (aU (T.arcs cs)) (aV (T.arcs cs)) (fx (T.flow f)) 0=- su (u3 T.N) f.a:=by
 unfold bl;rw[ziu (Nt.len hl) λu v x=>trm u v x 0,Nt.zip hl];unfold Nt.both;rw[zv4,zv4,zl4,zea,zea];have z:∀u v x,2<=u->1<=v->trm u v x 0=0:=λu v x q p=>by
  unfold trm;rw[aA (by lia),aA (by lia)];rfl
 rw[su_zero' (l:=u3 T.n) λm _=>?_,su_zero' (l:=cs.zip f.t) λx _=>?_,zn0 (g:=λk=>0 - f.a k) λk _=>?_,zka,zxa]
 ·lia
 ·have p:=Nt.nd2 (T:=T) 0 k;unfold trm;show(if T.nd 0 k=0 then f.a k else 0) - (if 0=0 then f.a k else 0)=_;rw[aA (by lia),aF rfl]
 ·rw[zl4];exact su_zero' λk _=>z _ _ _ (Nt.nd2 _ _) (by show 1<=1;lia)
 ·rw[zv4,zl4,zl4,su_zero' λk _=>z _ _ _ (Nt.nd2 _ _) (by have:=Nt.nd2 (T:=T) (m+1) k;show 1<=T.nd (m+1) k;lia),su_zero' λi _=>z _ _ _ (Nt.nd2 _ _) (by have:=Nt.nd2 (T:=T) (m+T.Ln i) (T.V i);show 1<=T.nd (m+T.Ln i) (T.V i);lia)];rfl
structure Nt.Fl(T:Nt)(cs:List (Nat->Int))(f:Fm):Prop where
 t:cs.length=f.t.length
 a:∀k,k < T.N->0<=f.a k/\f.a k<=T.fl k
 r:∀m k,m < T.n->k < T.N->0<=f.r m k/\f.r m k<=T.rm k
 g:∀m i,m < T.n->i∈T.P m->0<=f.g m i/\f.g m i<=T.W i m
 s:∀c∈cs.zip f.t,∀k,k < T.N->0<=c.2 k/\c.2 k<=c.1 k
 b:∀m k,m<=T.n->k < T.N->(if m=0 then f.a k else f.r (m - 1) k)+T.inn f m k=T.out f m k+(if m < T.n then f.r m k else su f.t λt=>t k)
theorem Nt.both_iff(hl:cs.length=f.t.length)(Φ:Nat->Nat->Int->Int->Prop):(∀p∈T.both cs f,Φ p.1.1 p.1.2.1 p.1.2.2 p.2) ↔ (∀k,k < T.N->Φ 0 (T.nd 0 k) (T.fl k) (f.a k))/\(∀m k,m < T.n->k < T.N->Φ (T.nd m k) (T.nd (m+1) k) (T.rm k) (f.r m k)) /\
  (∀m i,m < T.n->i∈T.P m->Φ (T.nd m (T.U i)) (T.nd (m+T.Ln i) (T.V i)) (T.W i m) (f.g m i))/\∀c∈cs.zip f.t,∀k,k < T.N->Φ (T.nd T.n k) 1 (c.1 k) (c.2 k):=by
 constructor
 ·intro h;unfold Nt.both at h;refine⟨λk u=>?_,λm k z u=>?_,λm i z hi=>?_,λc B k u=>?_⟩
  ·exact h _ (xN _ (xN _ (vQ.mpr ⟨k,u8.mpr u,rfl⟩)))
  ·exact h _ (xN _ (w9 _ (yU.mpr ⟨m,u8.mpr z,xN _ (vQ.mpr ⟨k,u8.mpr u,rfl⟩)⟩)))
  ·exact h _ (xN _ (w9 _ (yU.mpr ⟨m,u8.mpr z,w9 _ (vQ.mpr ⟨i,hi,rfl⟩)⟩)))
  ·exact h _ (w9 _ (yU.mpr ⟨c,B,vQ.mpr ⟨k,u8.mpr u,rfl⟩⟩))
 ·rintro⟨M,J,I,G⟩ p q;unfold Nt.both at q;rcases vV.mp q with q|q
  ·rcases vV.mp q with q|q
   ·obtain⟨k,u,rfl⟩:=vQ.mp q;exact M k (u8.mp u)
   ·obtain⟨m,z,q⟩:=yU.mp q;have z:=u8.mp z;rcases vV.mp q with q|q
    ·obtain⟨k,u,rfl⟩:=vQ.mp q;exact J m k z (u8.mp u)
    ·obtain⟨i,hi,rfl⟩:=vQ.mp q;exact I m i z hi
  ·obtain⟨c,B,q⟩:=yU.mp q;obtain⟨k,u,rfl⟩:=vQ.mp q;exact G c B k (u8.mp u)
theorem Nt.Fl.within(h:T.Fl cs f):within (T.arcs cs).length (zq8 (T.arcs cs)) (fx (T.flow f)):=by
 refine(zue (Nt.len h.t) λ_ _ c x=>0<=x/\x<=c).mpr ?_;rw[Nt.zip h.t];exact(Nt.both_iff h.t λ_ _ c x=>0<=x/\x<=c).mpr ⟨h.a,h.r,h.g,h.s⟩
theorem Nt.Fl.bal(ok:T.Ok)(h:T.Fl cs f){w:Nat}(u:2<=w)(hw:w < T.nd (T.n+1) 0):bl (T.arcs cs).length (aU (T.arcs cs)) (aV (T.arcs cs)) (fx (T.flow f)) w=0:=by
 obtain⟨m,k,p,q,rfl⟩:=Nt.is_nd u hw;have:=h.b m k p q;rw[Nt.bal ok h.t p q];lia
theorem Nt.Fl.of(ok:T.Ok)(p:cs.length=f.t.length)(hw:_5.within (T.arcs cs).length (zq8 (T.arcs cs)) (fx (T.flow f)))(B:∀w,w≠0->w≠1->bl (T.arcs cs).length (aU (T.arcs cs)) (aV (T.arcs cs)) (fx (T.flow f)) w=0):T.Fl cs f:=by
 have:=(zue (Nt.len p) λ_ _ c x=>0<=x/\x<=c).mp hw;rw[Nt.zip p]at this;obtain⟨J,q,I,G⟩:=(Nt.both_iff p λ_ _ c x=>0<=x/\x<=c).mp this;refine⟨p,J,q,I,G,λm k u z=>?_⟩;have q:=Nt.nd2 (T:=T) m k;have:=B (T.nd m k) (by lia) (by lia);rw[Nt.bal ok p u z]at this;lia
theorem bl_flux'{s:Nat}(nd:side.Nodup)(p:s∈side)(h:∀w∈side,w≠s->bl m eu ev x w=0):bl m eu ev x s=flux m eu ev x side:=by
 rw[zj9 m eu ev x nd,zej nd p h]
theorem zm91{y:Nat->Int}(h:∀k,k < m->x k=y k)(w:Nat):bl m eu ev x w=bl m eu ev y w:=zy0 λk p=>by show trm _ _ (x k) w=trm _ _ (y k) w;rw[h k p]
theorem ztk{k:Nat}(h:k < m):fx ((u3 m).map x) k=x k:=by
 unfold fx;rw[u9,xL h];rfl
theorem Nt.best(ok:T.Ok){c:Nat}(b:Best c (T.arcs cs) f0 0 1 L side)(u:∀v,v≠0->v≠1->_5.bal (T.arcs cs).length (zf6 (T.arcs cs)) L v=0) :
  ∃f,T.Fl cs f/\(u3 (T.arcs cs).length).map (λk=>lf L (2 * k+1))=T.flow f:=by
 obtain⟨f,q,e⟩:=Nt.split (cs:=cs) ok.nd (F:=(u3 (T.arcs cs).length).map (λk=>lf L (2 * k+1))) (by simp);have ex:∀k,k < (T.arcs cs).length->fx (T.flow f) k=lf L (2 * k+1):=λk p=>by rw[<- e,ztk p]
 refine⟨f,Nt.Fl.of ok q (λk p=>by rw[ex k p];exact b.within k p) λw B z=>?_,e⟩;rw[zm91 ex];have:=u w B z;rw[zgu]at this;exact this
theorem Nt.most(ok:T.Ok)(b:Best (T.nd (T.n+1) 0) (T.arcs cs) f0 0 1 L side)(h:T.Fl cs f)(e:(u3 (T.arcs cs).length).map (λk=>lf L (2 * k+1))=T.flow f){q:Fm}(h':T.Fl cs q):su (u3 T.N) q.a<=su (u3 T.N) f.a:=by
 have ex:∀k,k < (T.arcs cs).length->lf L (2 * k+1)=fx (T.flow f) k:=λk p=>by rw[<- e,ztk p]
 have u:tight (T.arcs cs).length (aU (T.arcs cs)) (aV (T.arcs cs)) (zq8 (T.arcs cs)) (fx (T.flow f)) side:=λk p=>by rw[<- ex k p];exact b.tight k p
 have l:=zuv u h'.within;have go:∀{g:Fm},T.Fl cs g->bl (T.arcs cs).length (aU (T.arcs cs)) (aV (T.arcs cs)) (fx (T.flow g)) 0=flux (T.arcs cs).length (aU (T.arcs cs)) (aV (T.arcs cs)) (fx (T.flow g)) side:=λ{g} B =>
  bl_flux' b.nd b.inn λw hw G=>B.bal ok (by
   rcases wX w 2 with z|z
   ·have:w=1:=by lia
    exact aN (this ▸ hw) b.out
   ·exact z) (b.bd w hw)
 rw[<- go h,<- go h',Nt.worth h.t,Nt.worth h'.t]at l;lia
end
theorem zyg{c:Nat}(g:Nat->Int):∀{l:List Nat},l.Nodup->(∀x∈l,x < c)->su (u3 c) (λi=>if i∈l then g i else 0)=su l g
|[],_,_=>by rw[zf3];exact su_zero' λi _=>by simp
|x :: l,nd,h=>by
  obtain⟨u,q⟩:=v9.mp nd;rw[zt0,<- zyg g q λy p=>h y (wA _ p),<- zf8 g (h x wJ),<- zz5];refine zn0 λi _=>?_;by_cases e:i=x
  ·subst e;simp[u]
  ·simp[e]
theorem su_sub'{c:Nat}{g:Nat->Int}(p:∀i,i < c->0<=g i){l:List Nat}(nd:l.Nodup)(h:∀x∈l,x < c):su l g<=su (u3 c) g:=by
 rw[<- zyg g nd h];refine zvr λi hi=>?_;have:=p i (u8.mp hi);split <;> lia
structure Nt.Lk(T:Nt)(cs:List (Nat->Int))(f:Fm):Prop where
 t:cs.length=f.t.length
 a:∀k,k < T.N->0<=f.a k/\f.a k<=T.fl k
 r:∀m k,m < T.n->k < T.N->0<=f.r m k/\f.r m k<=T.rm k
 g:∀m i,m < T.n->i∈T.P m->0<=f.g m i/\f.g m i<=T.W i m
 s:∀c∈cs.zip f.t,∀k,k < T.N->0<=c.2 k/\c.2 k<=c.1 k
 b:∀m k,m<=T.n->k < T.N->T.out f m k+(if m < T.n then f.r m k else su f.t λt=>t k)<=(if m=0 then f.a k else f.r (m - 1) k)+T.inn f m k
section
variable {T:Nt}{cs:List (Nat->Int)}{f:Fm}
theorem Nt.Fl.lk(h:T.Fl cs f):T.Lk cs f:=⟨h.t,h.a,h.r,h.g,h.s,λm k p q=>by have:=h.b m k p q;lia⟩
theorem Nt.Lk.within(h:T.Lk cs f):within (T.arcs cs).length (zq8 (T.arcs cs)) (fx (T.flow f)):=by
 refine(zue (Nt.len h.t) λ_ _ c x=>0<=x/\x<=c).mpr ?_;rw[Nt.zip h.t];exact(Nt.both_iff h.t λ_ _ c x=>0<=x/\x<=c).mpr ⟨h.a,h.r,h.g,h.s⟩
theorem Nt.Lk.bal(ok:T.Ok)(h:T.Lk cs f){w:Nat}(u:2<=w)(hw:w < T.nd (T.n+1) 0):0<=bl (T.arcs cs).length (aU (T.arcs cs)) (aV (T.arcs cs)) (fx (T.flow f)) w:=by
 obtain⟨m,k,p,q,rfl⟩:=Nt.is_nd u hw;have:=h.b m k p q;rw[Nt.bal ok h.t p q];lia
theorem Nt.nd_lt{k:Nat}(p:m<=T.n)(q:k < T.N):T.nd m k < T.nd (T.n+1) 0:=by
 unfold Nt.nd;have:=yM T.N (show m+1<=T.n+1 by lia);rw[yT]at this;lia
theorem Nt.sink(hl:cs.length=f.t.length):bl (T.arcs cs).length (aU (T.arcs cs)) (aV (T.arcs cs)) (fx (T.flow f)) 1=su (u3 T.N) λk=>su f.t λt=>t k:=by
 unfold bl;rw[ziu (Nt.len hl) λu v x=>trm u v x 1,Nt.zip hl];unfold Nt.both;rw[zv4,zv4,zl4,zea,zea];have z:∀u v x,u≠1->v≠1->trm u v x 1=0:=λu v x J I=>by
  unfold trm;rw[aA I,aA J];rfl
 have q:∀m k,T.nd m k≠1:=λm k=>by have:=Nt.nd2 (T:=T) m k;lia
 rw[su_zero' (l:=u3 T.N) λk _=>z _ _ _ (by show(0:Nat)≠1;lia) (q _ _),su_zero' (l:=u3 T.n) λm _=>?_]
 ·have e:∀c∈cs.zip f.t,(su ((u3 T.N).map λk=>(((T.nd T.n k,1,c.1 k):Ar),c.2 k)) λp=>trm p.1.1 p.1.2.1 p.2 1)=su (u3 T.N) c.2:=λc _=>by
   rw[zl4];refine zn0 λk _=>?_;show(if 1=1 then c.2 k else 0) - (if T.nd T.n k=1 then c.2 k else 0)=_;rw[aF rfl,aA (q _ _)];lia
  rw[zn0 e];have M:(su (cs.zip f.t) λc=>su (u3 T.N) c.2)=su f.t λt=>su (u3 T.N) t:=by
   have:f.t=(cs.zip f.t).map (·.2):=by rw[uaR (by lia)]
   conv=>rhs;rw[this]
   rw[zl4]
  rw[M];have B:∀l:List (Nat->Int),(su l λt=>su (u3 T.N) t)=su (u3 T.N) λk=>su l λt=>t k:=by
   intro l
   induction l with
  |nil=>rw[zf3];exact(su_zero' λ_ _=>rfl).symm
  |cons t r G=>rw[zt0,G,<- zz5];exact zn0 λk _=>(zt0 t r λt=>t k).symm
  rw[B];lia
 ·rw[zv4,zl4,zl4,su_zero' λk _=>z _ _ _ (q _ _) (q _ _),su_zero' λi _=>z _ _ _ (q _ _) (q _ _)];rfl
theorem Nt.ends(ok:T.Ok)(hl:cs.length=f.t.length):∀k,k < (T.arcs cs).length->aU (T.arcs cs) k < T.nd (T.n+1) 0/\aV (T.arcs cs) k < T.nd (T.n+1) 0:=by
 have z:=Nt.nd2 (T:=T) (T.n+1) 0;refine(zue (Nt.len hl) λu v _ _=>u < T.nd (T.n+1) 0/\v < T.nd (T.n+1) 0).mpr ?_;rw[Nt.zip hl];exact(Nt.both_iff hl λu v _ _=>u < T.nd (T.n+1) 0/\v < T.nd (T.n+1) 0).mpr ⟨λk p=>⟨by lia,Nt.nd_lt (by lia) p⟩,λm k q p=>⟨Nt.nd_lt (by lia) p,Nt.nd_lt (by lia) p⟩,λm i q hi=>⟨Nt.nd_lt (by lia) (ok.ub m i hi),Nt.nd_lt (ok.ln m i hi).2 (ok.vb m i hi)⟩,λc _ k p=>⟨Nt.nd_lt (u7 _) p,by lia⟩⟩
theorem Nt.total(ok:T.Ok)(hl:cs.length=f.t.length):su ((u3 (T.nd (T.n+1) 0)).filter λw=>decide (2<=w)) (bl (T.arcs cs).length (aU (T.arcs cs)) (aV (T.arcs cs)) (fx (T.flow f)))=su (u3 T.N) f.a - su (u3 T.N) λk=>su f.t λt=>t k:=by
 have q:=Nt.nd2 (T:=T) (T.n+1) 0;have z:flux (T.arcs cs).length (aU (T.arcs cs)) (aV (T.arcs cs)) (fx (T.flow f)) (u3 (T.nd (T.n+1) 0))=0:=by
  unfold flux;rw[zy0 (h:=λ_=>0) λk p=>?_,zf2];obtain⟨B,u⟩:=Nt.ends ok hl k p;rw[aF (u8.mpr B),aF (u8.mpr u)];lia
 rw[zj9 _ _ _ _ zB]at z;have z:su (u3 (T.nd (T.n+1) 0)) (bl (T.arcs cs).length (aU (T.arcs cs)) (aV (T.arcs cs)) (fx (T.flow f)))=0:=z;have e:u3 (T.nd (T.n+1) 0)=0 :: 1 :: (u3 (T.nd (T.n+1) 0)).filter λw=>decide (2<=w):=by
  obtain⟨d,hd⟩:=Nat.exists_eq_add_of_le' q;rw[hd,uaV,uaV];simp;rw[List.filter_map];congr 1;rw[List.filter_eq_self.mpr λx _=>by simp]
 rw[e,zt0,zt0,Nt.worth hl,Nt.sink hl]at z;lia
theorem Nt.Fl.total(ok:T.Ok)(h:T.Fl cs f):su (u3 T.N) f.a=su (u3 T.N) λk=>su f.t λt=>t k:=by
 have:=Nt.total (cs:=cs) (f:=f) ok h.t;rw[su_zero' λw hw=>?_]at this
 ·lia
 obtain⟨q,p⟩:=yO.mp hw;exact h.bal ok (cS p) (u8.mp q)
theorem Nt.leak(ok:T.Ok)(h:T.Fl cs f)(I:tight (T.arcs cs).length (aU (T.arcs cs)) (aV (T.arcs cs)) (zq8 (T.arcs cs)) (fx (T.flow f)) side)(B:0∈side)(M:1 ∉ side)(u:∀v∈side,v < T.nd (T.n+1) 0)(nd:side.Nodup){p:Fm}(h':T.Lk cs p) :
  (su (u3 T.N) λk=>su p.t λt=>t k)<=su (u3 T.N) f.a:=by
 have l:=zuv I h'.within;have two:∀w∈side,w≠0->2<=w:=λw hw q=>by
  rcases wX w 2 with z|z
  ·have:w=1:=by lia
   exact aN (this ▸ hw) M
  ·exact z
 rw[<- bl_flux' nd B λw hw q=>h.bal ok (two w hw q) (u w hw),Nt.worth h.t,zj9 _ _ _ _ nd]at l;have tot:=Nt.total (cs:=cs) (f:=p) ok h'.t;have G:=Nt.worth (T:=T) (cs:=cs) (f:=p) h'.t;have sp:(side.map (bl (T.arcs cs).length (aU (T.arcs cs)) (aV (T.arcs cs)) (fx (T.flow p)))).sum<=- su (u3 T.N) p.a+su ((u3 (T.nd (T.n+1) 0)).filter λw=>decide (2<=w)) (bl (T.arcs cs).length (aU (T.arcs cs)) (aV (T.arcs cs)) (fx (T.flow p))):=by
  have S:(side.map (bl (T.arcs cs).length (aU (T.arcs cs)) (aV (T.arcs cs)) (fx (T.flow p)))).sum=su side (λw=>(if w=0 then bl (T.arcs cs).length (aU (T.arcs cs)) (aV (T.arcs cs)) (fx (T.flow p)) 0 else 0))+su side λw=>if 2<=w then bl (T.arcs cs).length (aU (T.arcs cs)) (aV (T.arcs cs)) (fx (T.flow p)) w else 0:=by
   rw[<- zz5];refine zn0 λw hw=>?_;by_cases z:w=0
   ·subst z;simp
   ·rw[aA z,aF (two w hw z)];lia
  have O:su side (λw=>(if w=0 then bl (T.arcs cs).length (aU (T.arcs cs)) (aV (T.arcs cs)) (fx (T.flow p)) 0 else 0))=- su (u3 T.N) p.a:=by
   have:=zej (g:=λw=>(if w=0 then bl (T.arcs cs).length (aU (T.arcs cs)) (aV (T.arcs cs)) (fx (T.flow p)) 0 else 0)) nd B λw _ q=>aA q;unfold su;rw[this,aF rfl];exact G
  have Z:(su side λw=>if 2<=w then bl (T.arcs cs).length (aU (T.arcs cs)) (aV (T.arcs cs)) (fx (T.flow p)) w else 0)<=su (u3 (T.nd (T.n+1) 0)) λw=>if 2<=w then bl (T.arcs cs).length (aU (T.arcs cs)) (aV (T.arcs cs)) (fx (T.flow p)) w else 0:=su_sub' (λw hw=>by
   by_cases z:2<=w
   ·rw[aF z];exact h'.bal ok z hw
   ·rw[aA z];exact xK _) nd u
  have W:(su (u3 (T.nd (T.n+1) 0)) λw=>if 2<=w then bl (T.arcs cs).length (aU (T.arcs cs)) (aV (T.arcs cs)) (fx (T.flow p)) w else 0)=su ((u3 (T.nd (T.n+1) 0)).filter λw=>decide (2<=w)) (bl (T.arcs cs).length (aU (T.arcs cs)) (aV (T.arcs cs)) (fx (T.flow p))):=by
   have:∀l:List Nat,(su l λw=>if 2<=w then bl (T.arcs cs).length (aU (T.arcs cs)) (aV (T.arcs cs)) (fx (T.flow p)) w else 0)=su (l.filter λw=>decide (2<=w)) (bl (T.arcs cs).length (aU (T.arcs cs)) (aV (T.arcs cs)) (fx (T.flow p))):=by
    intro l
    induction l with
   |nil=>rfl
   |cons x r J =>
     rw[zt0,List.filter_cons,J];by_cases z:2<=x
     ·rw[aF z,aF (bK z),zt0]
     ·rw[aA z,aA (by simpa using z)];lia
   exact this _
  rw[S,O];lia
 lia
end
structure Nt.Val(T:Nt)(c:Nat->Int)(M:Int):Prop where
 ex:∃f t,T.Fl [c] f/\f.t=[t]/\su (u3 T.N) t=M
 mx:∀f t,T.Lk [c] f->f.t=[t]->su (u3 T.N) t<=M
section
variable {T:Nt}{c c':Nat->Int}{M M':Int}
theorem znc1{f:Fm}{t:Nat->Int}(h:f.t=[t]):(su (u3 T.N) λk=>su f.t λt=>t k)=su (u3 T.N) t:=by
 rw[h];exact zn0 λk _=>by rw[zt0,zf3];lia
theorem Nt.val(ok:T.Ok){f:Fm}{t:Nat->Int}(b:Best (T.nd (T.n+1) 0) (T.arcs [c]) f0 0 1 L side)(h:T.Fl [c] f)(e:(u3 (T.arcs [c]).length).map (λk=>lf L (2 * k+1))=T.flow f)(u:f.t=[t]):T.Val c (su (u3 T.N) t):=by
 have ex:∀k,k < (T.arcs [c]).length->lf L (2 * k+1)=fx (T.flow f) k:=λk p=>by rw[<- e,ztk p]
 have z:tight (T.arcs [c]).length (aU (T.arcs [c])) (aV (T.arcs [c])) (zq8 (T.arcs [c])) (fx (T.flow f)) side:=λk p=>by rw[<- ex k p];exact b.tight k p
 refine⟨⟨f,t,h,u,rfl⟩,λB t' h' q=>?_⟩;have l:=Nt.leak ok h z b.inn b.out b.bd b.nd h';rw[h.total ok,znc1 u,znc1 q]at l;exact l
theorem Nt.Val.le(v:T.Val c M):M<=su (u3 T.N) c:=by
 obtain⟨f,t,h,p,rfl⟩:=v.ex;refine zvr λk q=>(h.s (c,t) (by rw[p];simp) k (u8.mp q)).2
end
theorem zqo{l:List Nat}{a b:Nat->Int}(h:∀k∈l,a k<=b k)(e:su l b<=su l a):∀k∈l,a k=b k:=by
 induction l with
|nil=>intro k p;simp at p
|cons x r q =>
  rw[zt0,zt0]at e;have G:=h x (by simp);have B:=zvr λk p=>h k (wA x p);intro k p;rcases vR.mp p with z|z
  ·subst z;lia
  ·exact q (λj u=>h j (wA x u)) (by lia) k z
def Fm.pad(f:Fm):Fm:=⟨f.a,f.r,f.g,f.t++[λ_=>0]⟩
section
variable {T:Nt}{c d t:Nat->Int}{f:Fm}
theorem Nt.Fl.pad(h:T.Fl [c] f)(u:f.t=[t])(hd:∀k,k < T.N->0<=d k):T.Fl [c,d] f.pad:=by
 refine⟨by show 2=(f.t++[_]).length;rw[u];rfl,h.a,h.r,h.g,λx p k q=>?_,λm k B q=>?_⟩
 ·have p:x∈[c,d].zip (f.t++[λ_=>0]):=p;rw[u]at p;rcases vR.mp p with z|z
  ·subst z;exact h.s (c,t) (by rw[u];simp) k q
  ·have z:=uaW.mp z;subst z;exact⟨xK _,hd k q⟩
 ·have:=h.b m k B q;have e:(su f.pad.t λt=>t k)=su f.t λt=>t k:=by
   show(su (f.t++[_]) λt=>t k)=_;rw[zv4,zt0,zf3];show _+((0:Int)+0)=_;lia
  rw[e];exact this
theorem Nt.flow_pad:T.flow f.pad=T.flow f++vU T.N 0:=by
 unfold Nt.flow Fm.pad;rw[k7,vW,vW,vW];have:(u3 T.N).map (λ_=>(0:Int))=vU T.N 0:=by rw[List.map_const',wO]
 simp only[wE,yL,wQ,this,vW]
theorem zpc1(h:∀k,k < A.length->aU A k < n/\aV A k < n)(hw:n<=w):bl A.length (aU A) (aV A) x w=0:=by
 unfold bl;rw[zy0 (h:=λ_=>0) λk p=>?_,zf2];obtain⟨u,q⟩:=h k p;unfold trm;rw[aA (by lia),aA (by lia)];rfl
def Nt.stay(T:Nt)(c:Nat->Int):Fm:=⟨T.fl,λ_ k=>T.fl k,λ_ _=>0,[λk=>min (T.fl k) (c k),λk=>T.fl k - min (T.fl k) (c k)]⟩
theorem Nt.stay_fl(q:∀k,k < T.N->0<=T.fl k/\T.fl k<=T.rm k/\0<=c k/\0<=d k/\T.fl k<=c k+d k)(hw:∀m i,m < T.n->i∈T.P m->0<=T.W i m):T.Fl [c,d] (T.stay c):=by
 refine⟨rfl,λk p=>⟨(q k p).1,xK _⟩,λm k _ p=>⟨(q k p).1,(q k p).2.1⟩,λm i B hi=>⟨xK _,hw m i B hi⟩,λx u k p=>?_,λm k B p=>?_⟩
 ·obtain⟨Z,S,O,M,J⟩:=q k p;have u:x∈[(c,λk=>min (T.fl k) (c k)),(d,λk=>T.fl k - min (T.fl k) (c k))]:=u;rcases vR.mp u with z|z
  ·subst z;show 0<=min (T.fl k) (c k)/\min (T.fl k) (c k)<=c k;lia
  ·have z:=uaW.mp z;subst z;show 0<=T.fl k - min (T.fl k) (c k)/\T.fl k - min (T.fl k) (c k)<=d k;lia
 ·have I:T.inn (T.stay c) m k=0:=su_zero' λm' _=>su_zero' λi _=>by
   show(if m'+T.Ln i=m/\T.V i=k then(0:Int)else 0)=0;split <;> rfl
  have G:T.out (T.stay c) m k=0:=by
   unfold Nt.out;split
   ·exact su_zero' λi _=>by
     show(if T.U i=k then(0:Int)else 0)=0;split <;> rfl
   ·rfl
  rw[I,G];have e:(su (T.stay c).t λt=>t k)=T.fl k:=by
   show su [_,_] _=_;rw[zt0,zt0,zf3];show min (T.fl k) (c k)+(T.fl k - min (T.fl k) (c k)+0)=_;lia
  rw[e];show(if m=0 then T.fl k else T.fl k)+0=0+if m < T.n then T.fl k else T.fl k
  split <;> split <;> lia
theorem zc51{cs:List (Nat->Int)}{k:Nat}(p:k < T.N):(T.arcs (c :: cs))[(T.arcs []).length+k]?=some (T.nd T.n k,1,c k):=by
 have e:T.arcs (c :: cs)=T.arcs []++((u3 T.N).map (λk=>(T.nd T.n k,1,c k))++cs.flatMap λc=>(u3 T.N).map λk=>(T.nd T.n k,1,c k)):=by
  unfold Nt.arcs;simp only[wE,yL,wQ]
 rw[e,wR (by lia),zN,wU (by simpa using p),u9,xL p];rfl
theorem zhf1{f:Fm}{t:Nat->Int}{ts:List (Nat->Int)}(q:f.t=t :: ts){k:Nat}(p:k < T.N):fx (T.flow f) ((T.arcs []).length+k)=t k:=by
 have e:T.flow f=T.flow ⟨f.a,f.r,f.g,[]⟩++((u3 T.N).map t++ts.flatMap λt=>(u3 T.N).map t):=by
  unfold Nt.flow;rw[q];simp only[wE,yL,wQ]
 have l:(T.flow ⟨f.a,f.r,f.g,[]⟩).length=(T.arcs []).length:=Nt.len (cs:=[]) (f:=⟨f.a,f.r,f.g,[]⟩) rfl;unfold fx;rw[e,<- l,wR (by lia),zN,wU (by simpa using p),u9,xL p];rfl
theorem Nt.again(ok:T.Ok)(h:T.Fl [c] f)(J:f.t=[t])(M:∀k,k < T.N->0<=T.fl k/\T.fl k<=T.rm k/\0<=c k/\0<=d k/\T.fl k<=c k+d k)(hw:∀m i,m < T.n->i∈T.P m->0<=T.W i m)  
  (b:Best (T.nd (T.n+1) 0) (T.arcs [c,d]) (T.flow f++vU T.N 0) 0 1 L side) :
  ∃f2 B s2,T.Fl [c,d] f2/\(u3 (T.arcs [c,d]).length).map (λk=>lf L (2 * k+1))=T.flow f2/\(∀k,k < T.N->f2.a k=T.fl k)/\f2.t=[B,s2]/\∀k,k < T.N->t k<=B k:=by
 have I:=h.pad (d:=d) J λk p=>(M k p).2.2.2.1;rw[<- Nt.flow_pad]at b;have hl:=Nt.len (T:=T) (cs:=[c,d]) (f:=f.pad) I.t;have O:=b.bal hl λw Z S=>by
  rcases wX w (T.nd (T.n+1) 0)with z|z
  ·exact I.bal ok (by lia) z
  ·exact zpc1 (Nt.ends ok I.t) z
 obtain⟨f2,q,e⟩:=Nt.best ok b O;obtain⟨B,s2,G⟩:∃B s2,f2.t=[B,s2]:=by
  have:=q.t
  match hq:f2.t,this with
 |[x,y],_=>exact⟨x,y,rfl⟩
 refine⟨f2,B,s2,q,e,λk p=>?_,G,λk p=>?_⟩
 ·have m:=Nt.most ok b q e (Nt.stay_fl M hw);exact zqo (λk p=>(q.a k (u8.mp p)).2) m k (u8.mpr p)
 ·have ga:=zc51 (T:=T) (c:=c) (cs:=[d]) p;have u:=(wG.mp ga).1;have:=b.up.inn _ u (zod ga).1;rw[zb51 hl u,zhf1 (f:=f.pad) (ts:=[λ_=>0]) (by show f.t++_=_;rw[J];rfl) p]at this;rw[<- zhf1 (T:=T) G p,<- e,ztk u];exact this
end
section
variable {T:Nt}{c t:Nat->Int}{f:Fm}
def Nt.over(T:Nt)(c:Nat->Int)(X:Nat->Nat->Prop)[∀m k,Decidable (X m k)]:Int :=
 su (u3 T.N) (λk=>if X 0 k then T.fl k else 0)+(su (u3 T.n) λm=>su (u3 T.N) (λk=>if ¬X m k/\X (m+1) k then T.rm k else 0)+su (T.P m) λi=>if ¬X m (T.U i)/\X (m+T.Ln i) (T.V i)then T.W i m else 0)+su (u3 T.N) λk=>if ¬X T.n k then c k else 0
theorem Nt.cut(ok:T.Ok){side:List Nat}(h:T.Fl [c] f)(M:f.t=[t])(O:tight (T.arcs [c]).length (aU (T.arcs [c])) (aV (T.arcs [c])) (zq8 (T.arcs [c])) (fx (T.flow f)) side)(Z:0∈side)(J:1 ∉ side)(hb:∀v∈side,v < T.nd (T.n+1) 0)(nd:side.Nodup) :
  su (u3 T.N) t=T.over c λm k=>T.nd m k ∉ side:=by
 have two:∀w∈side,w≠0->2<=w:=λw hw S=>by
  have:w≠1:=λz=>J (z ▸ hw);lia
 have e1:=bl_flux' nd Z λw hw S=>h.bal ok (two w hw S) (hb w hw);rw[Nt.worth h.t,zup O,h.total ok,znc1 M]at e1;have e2:su (u3 T.N) t=sm (T.arcs [c]).length λk=>if aU (T.arcs [c]) k∈side/\aV (T.arcs [c]) k ∉ side then fx (T.flow f) k else 0:=by lia
 have tz:∀p∈T.both [c] f,p.1.1∈side->p.1.2.1 ∉ side->p.2=p.1.2.2:=by
  have:=(zue (Nt.len h.t) λu v G x=>u∈side->v ∉ side->x=G).mp λk B=>(O k B).1;rw[Nt.zip h.t]at this;exact this
 obtain⟨t1,t2,t3,t4⟩:=(Nt.both_iff h.t λu v G x=>u∈side->v ∉ side->x=G).mp tz;have q:∀{u v:Nat}{x G:Int}{p:Prop} [Decidable p],(u∈side->v ∉ side->x=G)->(p ↔ u∈side/\v ∉ side)->(if u∈side/\v ∉ side then x else 0)=if p then G else 0:=λ{u v x G p} _ J W=>by
  by_cases z:u∈side/\v ∉ side
  ·rw[aF z,aF (W.mpr z),J z.1 z.2]
  ·rw[aA z,aA λy=>z (W.mp y)]
 rw[e2,ziu (Nt.len h.t) λu v x=>if u∈side/\v ∉ side then x else 0,Nt.zip h.t];unfold Nt.both Nt.over;rw[zv4,zv4,zl4,zea,zea,M,ubI,List.zip_nil_right,zt0,zf3,zl4,yN];refine congr (congrArg _ (congr (congrArg _ (zn0 λk B=>?_)) (zn0 λm I=>?_))) (zn0 λk B=>?_)
 ·exact q (t1 k (u8.mp B)) ⟨λz=>⟨Z,z⟩,λz=>z.2⟩
 ·have I:=u8.mp I;rw[zv4,zl4,zl4];refine congr (congrArg _ (zn0 λk B=>?_)) (zn0 λi hi=>?_)
  ·exact q (t2 m k I (u8.mp B)) ⟨λz=>⟨Decidable.not_not.mp z.1,z.2⟩,λz=>⟨λy=>y z.1,z.2⟩⟩
  ·exact q (t3 m i I hi) ⟨λz=>⟨Decidable.not_not.mp z.1,z.2⟩,λz=>⟨λy=>y z.1,z.2⟩⟩
 ·exact q (t4 (c,t) (by rw[M];simp) k (u8.mp B)) ⟨λz=>⟨Decidable.not_not.mp z,J⟩,λz y=>y z.1⟩
end
theorem zha{α β:Type}(l:List α)(m:List β)(f:α->β->Int):su l (λa=>su m λb=>f a b)=su m λb=>su l λa=>f a b:=by
 induction l with
|nil=>rw[zf3];exact(su_zero' λb _=>zf3 _).symm
|cons a l p=>rw[zt0,p,<- zz5];exact zn0 λb _=>(zt0 a l λa=>f a b).symm
theorem su_nn'{α:Type}{l:List α}{f:α->Int}(h:∀x∈l,0<=f x):0<=su l f:=by
 have:=zvr (f:=λ_=>0) h;rw[zxa]at this;exact this
variable {m:Nat}
theorem zk61{n:Nat}{f:Nat->Int}(h:∀j,j < n->0<=f j)(p:m < n):f m<=su (u3 n) f:=by
 rw[<- zf8 f p];exact zvr λj q=>by
  have:=h j (u8.mp q);split <;> lia
theorem zhd(a b:Nat)(f:Nat->Int):su (u3 (a+b)) f=su (u3 a) f+su (u3 b) λj=>f (a+j):=by
 rw[List.range_add,zv4,zl4]
theorem za01{X:Nat->Prop}:∀{n m:Nat},m<=n->¬X m->X n->∃j,j < n/\¬X j/\X (j+1)
|0,m,h,a,b=>aN b (by rwa [show m=0 by lia]at a)
|n+1,m,h,a,b=>by
  by_cases z:X n
  ·have q:m≠n+1:=λe=>a (e ▸ b);obtain⟨j,u,p⟩:=za01 (show m<=n by lia) a z;exact⟨j,by lia,p⟩
  ·exact⟨n,by lia,z,b⟩
section
variable {T:Nt}{c:Nat->Int}{X:Nat->Nat->Prop}{np B s:Nat}
theorem grow(hB:su (u3 np) (λi=>(T.Ln i:Int))=(B:Int))(hp:∀i,i < np->T.U i < T.N/\1<=T.Ln i)
  (hX:∀m i,s<=m->m < s+B->i < np->m+T.Ln i<=s+B->X (m+T.Ln i) (T.V i)->X m (T.U i)) :
  ∀(q:Nat)(S u:List Nat),S.Nodup->(∀v∈S,v < T.N)->u.Nodup->(∀i∈u,i < np/\T.U i∈S) ->
   (∀v∈S,∃m:Nat,((s+B:Nat):Int)<=(m:Int)+su u (λi=>(T.Ln i:Int))/\m<=s+B/\X m v)->T.N<=S.length+q ->
   ∃G:List Nat,G.Nodup/\(∀v∈G,v < T.N)/\(∀v∈S,v∈G)/\(∀i,i < np->T.V i∈G->T.U i∈G)/\∀v∈G,∃m,m<=s+B/\X m v:=by
 intro q
 induction q with
|zero =>
  intro S u nd J _ _ p hN;refine⟨S,nd,J,λ_ h=>h,λi hi I=>?_,λv I=>(p v I).imp λm h=>h.2⟩;rcases Classical.em (T.U i∈S)with z|z
  ·exact z
  ·have:=zx0 T.N (T.U i :: S) (v9.mpr ⟨z,nd⟩) λx W=>by
    rcases vR.mp W with e|e
    ·rw[e];exact(hp i hi).1
    ·exact J x e
   rw[xA]at this;lia
|succ q ih =>
  intro S u nd J ndu O p hN;rcases Classical.em (∀i,i < np->T.V i∈S->T.U i∈S)with z|z
  ·exact⟨S,nd,J,λ_ h=>h,z,λv I=>(p v I).imp λm h=>h.2⟩
  ·obtain⟨i,z⟩:=Classical.not_forall.mp z;obtain⟨hi,z⟩:=Classical.not_imp.mp z;obtain⟨I,z⟩:=Classical.not_imp.mp z;have hl:=hp i hi;have Z:i ∉ u:=λh=>z (O i h).2;have M:(i :: u).Nodup:=v9.mpr ⟨Z,ndu⟩;have le:=su_sub' (c:=np) (g:=λi=>(T.Ln i:Int)) (λi _=>by lia) M λx W=>by
    rcases vR.mp W with e|e
    ·rw[e];exact hi
    ·exact(O x e).1
   rw[zt0,hB]at le;obtain⟨m,h1,h2,h3⟩:=p _ I;have hm:s+T.Ln i<=m:=by lia
   obtain⟨m,rfl⟩:∃d,m=d+T.Ln i:=⟨m - T.Ln i,by lia⟩
   have x:=hX m i (by lia) (by lia) hi h2 h3;obtain⟨G,g1,g2,g3,g4⟩:=ih (T.U i :: S) (i :: u) (v9.mpr ⟨z,nd⟩) (λv h=>by
    rcases vR.mp h with e|e
    ·rw[e];exact hl.1
    ·exact J v e) M (λj h=>by
    rcases vR.mp h with e|e
    ·rw[e];exact⟨hi,by simp⟩
    ·exact⟨(O j e).1,by simp[(O j e).2]⟩) (λv h=>by
    rw[zt0];rcases vR.mp h with e|e
    ·rw[e];exact⟨m,by lia,by lia,x⟩
    ·obtain⟨m,a,b⟩:=p v e;exact⟨m,by lia,b⟩) (by rw[xA];lia)
   exact⟨G,g1,g2,λv h=>g3 v (by simp[h]),g4⟩
variable [∀m k,Decidable (X m k)]
def Nt.aK(T:Nt)(c:Nat->Int)(X:Nat->Nat->Prop)[∀m k,Decidable (X m k)](k:Nat):Int:=(if X 0 k then T.fl k else 0)+(su (u3 T.n) λm=>if ¬X m k/\X (m+1) k then T.rm k else 0)+(if ¬X T.n k then c k else 0)
def Nt.crM(T:Nt)(X:Nat->Nat->Prop)[∀m k,Decidable (X m k)](m:Nat):Int:=su (T.P m) λi=>if ¬X m (T.U i)/\X (m+T.Ln i) (T.V i)then T.W i m else 0
theorem Nt.over_eq:T.over c X=su (u3 T.N) (T.aK c X)+su (u3 T.n) (T.crM X):=by
 unfold Nt.over Nt.aK Nt.crM;rw[zz5,zz5,zz5,zha];lia
theorem Nt.aK_rm{k:Nat}(v:0<=T.fl k/\T.fl k<=T.rm k/\0<=c k/\c k<=T.rm k)(a:¬X m k)(b:X (m+1) k)(h:m < T.n):T.rm k<=T.aK c X k:=by
 have:=zk61 (f:=λm=>if ¬X m k/\X (m+1) k then T.rm k else 0) (λj _=>by split <;> lia) h;rw[aF ⟨a,b⟩]at this;unfold Nt.aK;have q:0<=(if X 0 k then T.fl k else 0):=by split <;> lia
 have p:0<=(if ¬X T.n k then c k else 0):=by split <;> lia
 lia
theorem Nt.aK_ever{k:Nat}(v:0<=T.fl k/\T.fl k<=T.rm k/\0<=c k/\c k<=T.rm k)(G:m<=T.n)(h:X m k):T.fl k<=T.aK c X k:=by
 by_cases z:X 0 k
 ·unfold Nt.aK;rw[aF z];have u:0<=su (u3 T.n) λm=>if ¬X m k/\X (m+1) k then T.rm k else 0:=su_nn' λj _=>by split <;> lia
  have p:0<=(if ¬X T.n k then c k else 0):=by split <;> lia
  lia
 ·obtain⟨j,u,p,q⟩:=za01 (X:=λm=>X m k) (wH m) z h;have:=Nt.aK_rm v p q (by lia);lia
theorem Nt.aK_not{k:Nat}(v:0<=T.fl k/\T.fl k<=T.rm k/\0<=c k/\c k<=T.rm k)(u:m<=T.n)(h:¬X m k):c k<=T.aK c X k:=by
 by_cases z:X T.n k
 ·obtain⟨j,q,p,G⟩:=za01 (X:=λm=>X m k) u h z;have:=Nt.aK_rm v p G q;lia
 ·unfold Nt.aK;rw[aF z];have q:0<=su (u3 T.n) λm=>if ¬X m k/\X (m+1) k then T.rm k else 0:=su_nn' λj _=>by split <;> lia
  have p:0<=(if X 0 k then T.fl k else 0):=by split <;> lia
  lia
end
end _5
namespace _3
open PySem PySem.Spec PyProof.Rows _2
def zzu(K:Fg):R2:=λx y H Q=>∃d ds,Is K H x d/\Is K H y (.list ds)/\Fit 8 d/\(∀e∈ds,Fit 8 e)/\Q (.bl (!ds.any λe=>xD e d)) H
theorem zge{X:Cx}{K:Fg}(h:X.K=K)(M:X.A.units+64 < cJ):OpR X (bC .NotIn) (zzu K):=by
 subst h;intro pins s Y H x y v u Q I B z q;obtain⟨d,ds,hd,L,p,fs,q⟩:=q;obtain⟨as,J⟩:=zo8 I hd B;obtain⟨bs,G⟩:=zo8 I L z;have:=p.2;exact SeqAt.notIn_list_reads G J (Fit.lst fs).1 p.1 (by lia) ⟨.bl _,H,I,rfl,q⟩
end _3
namespace _4
open PySem PySem.Spec PyProof.Rows _2 _3
section
variable {K:Fg}
def zsp(d e:D)(Q:D->Prop):Prop:=match e with
|.list ds=>Fit 8 d/\(∀e∈ds,Fit 8 e)/\Q (.bool (!ds.any λe=>xD e d))
|_=>False
theorem zth:R2H K (zzu K) zsp:=by
 walk_at"6";cases e with
|list ds=>exact⟨d,ds,q,p,h.1,h.2.1,k _ h.2.2 _ F H (Ext.refl s) (.bl _)⟩
|_=>exact h.elim
theorem zwd(d:D)(ds:List D)(Q:D->Prop):zsp d (.list ds) Q=(Fit 8 d/\(∀e∈ds,Fit 8 e)/\Q (.bool (!ds.any λe=>xD e d))):=rfl
end
theorem zxx{α β:Type}(f:α->β)(a:α)(l:List α):yV f (a :: l)=f a :: yV f l:=rfl
theorem zsz{α β:Type}(f:α->β):yV f []=[]:=rfl
theorem zt01{α:Type}(a d:α)(l:List α):List.getD (a :: l) 0 d=a:=rfl
theorem zd01{α:Type}(a d:α)(l:List α)(n:Nat):List.getD (a :: l) (n+1) d=List.getD l n d:=rfl
theorem r_nt:(!true)=false:=rfl
theorem r_nf:(!false)=true:=rfl
theorem zbc1{α:Sort u}(a b:α):(if true=true then a else b)=a:=rfl
theorem zra1{α:Sort u}(a b:α):(if false=true then a else b)=b:=rfl
theorem zxb1{α:Sort u}(a b:α):(if true=false then a else b)=b:=rfl
theorem zoc1{α:Sort u}(a b:α):(if false=false then a else b)=a:=rfl
end _4
open PySem PySem.Spec PyProof.Rows _2 _3 _4 _5
namespace _5
theorem zzp(x:D->Prop)(i j:Int):fAdd (u6 i) (u6 j) x=x (u6 (i+j)):=rfl
theorem zho(x:D->Prop)(a b:Str):fAdd (wI a) (wI b) x=(a.length+b.length<=sizeLine/\x (wI (a++b))):=rfl
theorem zdq(x:D->Prop)(a b:List a6):fAdd (v5 a) (v5 b) x=(a.length+b.length<=sizeLine/\x (v5 (a++b))):=rfl
theorem ztq(x:D->Prop)(a b:List a6):fAdd (xC a) (xC b) x=(a≠[]/\b≠[]/\a.length+b.length<=sizeLine/\x (xC (a++b))):=rfl
theorem zio(x:List D->Prop)(a b:List a6):fCat (v5 a) (v5 b) x=(a.length+b.length<=sizeLine/\x (a++b)):=rfl
theorem zlc1(C:Int->Int->Prop)(g:Int->Int->D)(x:D->Prop)(i j:Int):fI C g (u6 i) (u6 j) x=(C i j/\x (g i j)):=rfl
theorem ze11(g:Int->Int->D)(x:D->Prop)(i j:Int):fI0 g (u6 i) (u6 j) x=x (g i j):=rfl
theorem zbo(x:D->Prop)(i j:Int):fMul (u6 i) (u6 j) x=(CMul i j/\x (u6 (i * j))):=rfl
theorem zvm(x:D->Prop)(z:Str)(n:Int):fMul (wI z) (u6 n) x=(0<=n/\z.length * n.toNat<=sizeLine/\n<=↑sizeLine/\x (wI (repS z n.toNat))):=rfl
theorem zfo(x:List D)(p:List D->Prop)(n:Int):fRep x (u6 n) p=(n < 2 ^ 62/\-2 ^ 62<=n/\x.length * n.toNat<=sizeLine/\p (vU n.toNat x).flatten):=rfl
theorem zdz(x:D->Prop)(i j:Int):fEq (u6 i) (u6 j) x=x (wT (decide (i=j))):=rfl
theorem zb21(x:D->Prop)(i j:Str):fEq (wI i) (wI j) x=x (wT (decide (i=j))):=rfl
theorem zrz(x:D->Prop)(i j:Bool):fEq (wT i) (wT j) x=x (wT (decide (i=j))):=rfl
theorem zj11(x:D->Prop)(i j:Int):fNe (u6 i) (u6 j) x=x (wT !decide (i=j)):=rfl
theorem zm01(x:D->Prop)(i j:Str):fNe (wI i) (wI j) x=x (wT !decide (i=j)):=rfl
theorem zlz(x:D->Prop)(i j:Bool):fNe (wT i) (wT j) x=x (wT !decide (i=j)):=rfl
theorem zro(x:D)(p:D->Prop):fIsN x y4 p=p (wT (zxs x)):=rfl
theorem zdi(x:D)(p:D->Prop):zna1 x y4 p=p (wT !zxs x):=rfl
theorem zyz(x:D->Prop)(ds:List a6)(i:Int):fIx (v5 ds) (u6 i) x=∃d,atI ds i=some d/\x d:=rfl
theorem zy01(x:D->Prop)(ds:List a6)(i:Int):fIx (xC ds) (u6 i) x=∃d,atI ds i=some d/\x d:=rfl
theorem znz(x:D->Prop)(z:Str)(i:Int):fIx (wI z) (u6 i) x=(z.length<=sizeLine/\∃c,atI z.cps.toList i=some c/\x (wI { cps:=#[c] })):=rfl
theorem zuy(neg:Bool)(x:D)(p:D->Prop)(ds:List a6):fIn neg x (v5 ds) p=(zbc x=true/\ds.all zbc=true/\p (wT (if neg=true then !ds.any λy=>eqF y x else ds.any λy=>eqF y x))):=rfl
theorem ze01(neg:Bool)(x:D)(p:D->Prop)(ds:List a6):fIn neg x (xC ds) p=(zbc x=true/\ds.all zbc=true/\p (wT (if neg=true then !ds.any λy=>eqF y x else ds.any λy=>eqF y x))):=rfl
theorem zjy(neg:Bool)(x:D->Prop)(c z:Str):fIn neg (wI c) (wI z) x=∃n,c={ cps:=#[n] }/\x (wT (if neg=true then !decide (n∈z.cps.toList)else decide (n∈z.cps.toList))):=rfl
theorem zep(x:D->Prop)(i:Int):fNeg (u6 i) x=x (u6 (-i)):=rfl
theorem zvb1(Q:Bool->Prop)(b:Bool):fB (wT b) Q=Q b:=rfl
theorem zfr(x:Bool->Prop):fTru y4 x=x false:=rfl
theorem zwo(x:Bool->Prop)(b:Bool):fTru (wT b) x=x b:=rfl
theorem ztl(x:Bool->Prop)(i:Int):fTru (u6 i) x=x (i != 0):=rfl
theorem zbp(x:Bool->Prop)(z:Str):fTru (wI z) x=(z.length<=sizeLine/\x ((z.length:Int) != 0)):=rfl
theorem ztr(x:Bool->Prop)(ds:List a6):fTru (v5 ds) x=x !ds.isEmpty:=rfl
theorem zln(x:Bool->Prop)(ds:List a6):fTru (xC ds) x=x !ds.isEmpty:=rfl
theorem zto(x:Bool->Prop)(kvs:List (a6×a6)):fTru (PyData.dict kvs) x=False:=rfl
theorem zbm(x:D->Prop)(ds:List a6):fLen [v5 ds] x=x (u6 ↑ds.length):=rfl
theorem zfm(x:D->Prop)(ds:List a6):fLen [xC ds] x=x (u6 ↑ds.length):=rfl
theorem zxn(x:D->Prop)(z:Str):fLen [wI z] x=(z.length<=sizeLine/\x (u6 ↑z.length)):=rfl
theorem zpi(x:D->Prop)(i j:Int):zzc1 [u6 i,u6 j] x=x (u6 (if j < i then j else i)):=rfl
theorem zvo(x:D->Prop)(ds:List a6):fSum [v5 ds] x=∃ns,zfj ds=some ns/\x (u6 ns.sum):=rfl
theorem zmh(x:List D->Prop)(ds:List a6):zx81 [v5 ds] x=x ds:=rfl
theorem zuh(x:List D->Prop)(ds:List a6):zx81 [xC ds] x=x ds:=rfl
theorem zvg(x:D->Prop)(ds:List a6):zhc1 [v5 ds] x=∃ns,zfj ds=some ns/\ns≠[]/\∀(M:Int),M∈ns->(∀(x:Int),x∈ns->M<=x)->x (u6 M):=rfl
theorem zc21(lo hi:Option Int)(Q:D->Prop)(ds:List a6):fSl (v5 ds) lo hi Q=Q (v5 (cutD ds lo hi)):=rfl
theorem zd21(lo hi:Option Int)(Q:D->Prop)(z:Str):fSl (wI z) lo hi Q=(z.length<=sizeLine/\Q (wI (Txt.slice z lo hi))):=rfl
theorem zp11(lo hi:Option Int)(Q:D->Prop)(ds:List a6):fSl (xC ds) lo hi Q=(¬(HT.sIx ds.length 0 lo=0/\HT.sIx ds.length ds.length hi=ds.length)/\Q (xC (cutD ds lo hi))):=rfl
theorem zhi(x:List D->Prop)(ds:List a6):zg21 (v5 ds) x=x ds:=rfl
theorem zzh(x:List D->Prop)(ds:List a6):zg21 (xC ds) x=x ds:=rfl
theorem zhg(x:List D->Prop)(z:Str):zg21 (wI z) x=((z.cps.all λx=>decide (x < 128))=true/\x (yV (λc=>wI { cps:=#[c] }) z.cps.toList)):=rfl
theorem zdm(x:List D->Prop)(a b:List a6):fZip [v5 a,v5 b] x=x (zipD a b):=rfl
theorem zmp(x:List D->Prop)(a b:List a6):fZip [v5 a,xC b] x=x (zipD a b):=rfl
theorem zhq(x:List D->Prop)(a b:List a6):fZip [xC a,v5 b] x=x (zipD a b):=rfl
theorem zb11(x:D->Prop)(d:D):fzT (T.fz d) x=x d:=rfl
theorem zjz(x:D->Prop)(d:D):vwT (T.fz d) x=x d:=rfl
theorem zzx(x:D->Prop)(ds:List D):vwT (T.li ds) x=x (v5 ds):=rfl
theorem zim(N:T->D->Prop)(xs:List D)(d:D):mApp (T.li xs) [d] N=(xs.length < sizeLine/\N (T.li (xs++[d])) y4):=rfl
theorem zgo(N:T->D->Prop)(xs:List D)(es:List a6):mExt (T.li xs) [v5 es] N=(xs.length+es.length<=sizeLine/\N (T.li (xs++es)) y4):=rfl
theorem zer(N:T->D->Prop)(xs:List D):mPop (T.li xs) [] N=∃d,xs[xs.length - 1]?=some d/\N (T.li xs.dropLast) d:=rfl
theorem zam(d:D)(N:T->Prop)(ds:List D)(z:Int):fPut (T.li ds) (u6 z) d N=∃j,ixN ds.length z=some j/\N (T.li (ds.set j d)):=rfl
theorem zmm(k d:D)(N:T->Prop)(kvs:List (Key×D)):fPut (T.dk kvs) k d N=∃key,keyD k=some key/\kvs.length < sizeLine/\N (T.dk (putD kvs key d)):=rfl
theorem zwm(k d:D)(N:T->Prop)(kvs:List (List Key×D)):fPut (T.dt kvs) k d N=∃key,keyT k=some key/\kvs.length < sizeLine/\N (T.dt (putD kvs key d)):=rfl
theorem zcs(Q:D->Prop)(ds:List D)(z:Int):fGet (T.li ds) (u6 z) Q=(0<=z/\∃d,ds[z.toNat]?=some d/\Q d):=rfl
theorem zxm(k:D)(Q:D->Prop)(kvs:List (Key×D)):fGet (T.dk kvs) k Q=∃key d,keyD k=some key/\getA kvs key=some d/\Q d:=rfl
theorem zsm(k:D)(Q:D->Prop)(kvs:List (List Key×D)):fGet (T.dt kvs) k Q=∃key d,keyT k=some key/\getA kvs key=some d/\Q d:=rfl
theorem zwn(neg:Bool)(k:D)(Q:D->Prop)(kvs:List (Key×D)):fHas neg (T.dk kvs) k Q=∃key,keyD k=some key/\Q (wT (if neg=true then !(getA kvs key).isSome else(getA kvs key).isSome)):=rfl
theorem zdr(neg:Bool)(k:D)(Q:D->Prop)(kvs:List (List Key×D)):fHas neg (T.dt kvs) k Q=∃key,keyT k=some key/\Q (wT (if neg=true then !(getA kvs key).isSome else(getA kvs key).isSome)):=rfl
theorem zyy(f:Int->Int->Int)(Q:D->Prop)(i j:Int):fII f (u6 i) (u6 j) Q=Q (u6 (f i j)):=rfl
theorem zun(f:Str)(Q:T->Prop)(C:aE)(fs:List (Str×T)):nFld f (T.ob C fs) Q=∃t,xB f fs=some t/\Q t:=rfl
theorem zxq(C C_1:aE)(fs:List (Str×T)):nCls C (T.ob C_1 fs)=(C_1=C):=rfl
theorem zgr(f:Str)(r:T)(N:T->Prop)(C:aE)(fs:List (Str×T)):nSet f (T.ob C fs) r N=(fs.length < 1000/\N (T.ob C (putA f r fs))):=rfl
theorem zuw(Q:Nat->T->Prop)(ts:List T)(z:Int):nIx (T.ls ts) (u6 z) Q=∃j t,ixN ts.length z=some j/\ts[j]?=some t/\Q j t:=rfl
theorem znx(Q:Nat->T->Prop)(ts:List T)(z:Int):nIx (T.tp ts) (u6 z) Q=∃j t,ixN ts.length z=some j/\ts[j]?=some t/\Q j t:=rfl
theorem zs11(d:D):toD (T.fz d)=some d:=rfl
theorem zlx(ds:List D):toD (T.li ds)=some (v5 ds):=rfl
theorem zkx(ts:List T):toD (T.ls ts)=Option.map (λp=>v5 (yV v5 p)) (znv ts):=rfl
theorem zur(x p:T):setP x [] p=p:=rfl
theorem zpq(x:T)(ts:List T)(j:Nat)(p:List Stp):setP (T.ls ts) (Stp.ix j :: p) x=match ts[j]? with|some t=>T.ls (ts.set j (setP t p x))|none=>T.ls ts:=rfl
theorem zfp(x:T)(ts:List T)(j:Nat)(p:List Stp):setP (T.tp ts) (Stp.ix j :: p) x=match ts[j]? with|some t=>T.tp (ts.set j (setP t p x))|none=>T.tp ts:=rfl
theorem zqr(x:T)(C:aE)(fs:List (Str×T))(f:Str)(p:List Stp):setP (T.ob C fs) (Stp.fl f :: p) x=match xB f fs with|some t=>T.ob C (putA f (setP t p x) fs)|none=>T.ob C fs:=rfl
theorem zjq(x:T):getP x []=some x:=rfl
theorem zyr(ts:List T)(j:Nat)(p:List Stp):getP (T.ls ts) (Stp.ix j :: p)=ts[j]?.bind λt=>getP t p:=rfl
theorem zsr(ts:List T)(j:Nat)(p:List Stp):getP (T.tp ts) (Stp.ix j :: p)=ts[j]?.bind λt=>getP t p:=rfl
theorem zdo(C:aE)(fs:List (Str×T))(f:Str)(p:List Stp):getP (T.ob C fs) (Stp.fl f :: p)=(xB f fs).bind λt=>getP t p:=rfl
theorem zsw(a b:List D)(Q:D->Prop):fEq (.list a) (.list b) Q=(bI (.list a)=true/\bI (.list b)=true/\Q (.bool (xD (.list a) (.list b)))):=rfl
theorem zax(a b:List D)(Q:D->Prop):fEq (.tuple a) (.tuple b) Q=(bI (.tuple a)=true/\bI (.tuple b)=true/\Q (.bool (xD (.tuple a) (.tuple b)))):=rfl
theorem zh21(a b:List D)(Q:D->Prop):fNe (.list a) (.list b) Q=(bI (.list a)=true/\bI (.list b)=true/\Q (.bool (!PyData.eqv (.list a) (.list b)))):=rfl
theorem zxy(a b:List D)(Q:D->Prop):fNe (.tuple a) (.tuple b) Q=(bI (.tuple a)=true/\bI (.tuple b)=true/\Q (.bool (!PyData.eqv (.tuple a) (.tuple b)))):=rfl
end _5
open PySem PySem.Spec PyProof.Rows _2 _3 _4 _5
local macro_rules|`(tactic| walk_at "sc")=>`(tactic| exact ⟨rfl,rfl,rfl,by decide +kernel,rfl,by decide +kernel,by decide +kernel⟩)
local macro_rules|`(tactic| walk_at "csc")=>`(tactic| exact ⟨rfl,by decide +kernel,by decide +kernel,by decide +kernel,by decide +kernel⟩)
local macro_rules|`(tactic| walk_at "ds")=>do `(tactic| simp only [$(<- ("zrd zrk ztb1 List.map_cons List.map_nil List.length_cons List.length_nil Nat.reduceAdd Nat.reduceSub List.replicate List.cons_append List.nil_append".splitOn " ").toArray.mapM λ s=>`(Lean.Parser.Tactic.simpLemma| $(Lean.mkIdent s.toName):ident)),*])
local macro_rules|`(tactic| walk_at "cs")=>do `(tactic| simp only [$(<- ("cST List.map_cons List.map_nil List.replicate List.cons_append List.nil_append List.getD_cons_zero List.getD_cons_succ".splitOn " ").toArray.mapM λ s=>`(Lean.Parser.Tactic.simpLemma| $(Lean.mkIdent s.toName):ident)),*])
local macro_rules|`(tactic| walk_at "dd")=>do let f:=λ t:String=>(t.splitOn " ").toArray.mapM λ s=>`(Lean.Parser.Tactic.simpLemma| $(Lean.mkIdent s.toName):ident);let A <- f "zwd e_dF nI ztc zwg zjd e_dC zob1 zqy zf91 zqq zpo zum zvy za11 zmc1 zfx zv01 zhz zzr zty zmy zyo zla1 zga1 zua1 zbe znm zdc1 zq01 zha1 zsn zxp zpy zcp e_gN zgp zgh e_gT zjm zcz zea1 zwc1 zw91 e_cE e_cF zas zzz zz11 zrr ziy ziq zol zt91 zfa1 zc11 zgz zdn zdy zly zhb1 zj91 e_nF e_cN zwx zex zm11 e_aD e_aB e_aO zem zdp zpp e_eN zkn e_gL zxi zky zuo znw zj01 zl11 zn11 zja1 zyp zrc1 zcc1 zaa1 zxr zan zqx zjo ze91 zi11 zcn zzp zho zdq ztq zio zlc1 ze11 zbo zvm zfo zdz zb21 zrz zsw zax zj11 zm01 zlz zh21 zxy zxs zro zdi zyz zy01 znz zbc zuy ze01 zjy zep zvb1 zfr zwo ztl zbp ztr zln zto zbm zfm zxn zpi zvo zmh zuh zvg zni zbi zlg zc21 zd21 zp11 zhi zzh zhg zdm zmp zhq zn01 zrx ze21 zpx zb11 zjz zzx slT slot Sl.wth zim zgo zer zam zmm zwm zcs zxm zsm zwn zdr zyy keyD zun zxq noM zgr zuw znx noO noS zgs oneO zlv ArgP.arg zs11 zlx zkx zo81 exA oIx List.getElem?_cons_zero List.getElem?_cons_succ List.set_cons_zero List.set_cons_succ List.length_cons List.length_nil List.nil_append List.cons_append List.lookup putA zur zpq zfp zqr zjq zyr zsr zdo Nat.reduceAdd Nat.reduceSub Nat.reduceMul Int.reduceAdd Int.reduceSub Int.reduceMul Int.reduceNeg Int.reduceLT Int.reduceLE Int.reducePow Int.reduceToNat Nat.reducePow Nat.reduceLT Nat.reduceLeDiff Nat.reduceEqDiff Int.reduceEq Int.reduceMod Int.reduceDiv Int.reduceBEq Int.reduceBNe Int.reduceGT Int.reduceGE zr21 CPow Option.map_some Option.map_none Option.bind_some zi5 zr3 zh5 zv3 zt3 zw3 ze4 zo4 zl3 zn5 zm5 zm4 zh2 zg2 zc2 zq4 zh4 zb3 zj5 zf5 zj4 zn4 zi4 zj3 zs6 zn6 zg5 zg8 zh7 zn8 zw6 zb7 zh6 zz3 zb4 zb5 zu6 zv6 zy3 zh8 za7 zk3 zr2 zu2 zd3 zd7 ze7 zp8 zt6 zxx zsz zt01 zd01 r_nt r_nf zbc1 zra1 zxb1 zoc1";let B <- f "zvv zv31 zr41 zh61 zg61 zu51 zt41 zyu zp31 zw41 zke1 zg31 zcw List.map_cons List.map_nil beq_self_eq_true sizeLine_eq decide_eq_true_eq decide_true decide_false Bool.not_true Bool.not_false Bool.not_eq_true' Bool.not_eq_eq_eq_not Bool.not_not decide_eq_false_iff_not decide_not true_and and_true if_true if_false Bool.false_eq_true reduceCtorEq ite_true ite_false not_false_eq_true not_true_eq_false ne_eq Option.some.injEq exists_eq_left' exists_eq_left";`(tactic| first|(dsimp only [$A,*];repeat (simp -iota only [$A,*,$B,*];try dsimp only [$A,*]))|(simp -iota only [$A,*,$B,*];try dsimp only [$A,*];repeat (simp -iota only [$A,*,$B,*];try dsimp only [$A,*])))
local macro_rules | `(tactic| walk_at "k") => `(tactic| (refine ⟨_,rfl,?_⟩; walk_at "dd"))
local macro_rules | `(tactic| walk_at "a") => do let J:=Lean.mkIdent `J; let h:=Lean.mkIdent `hJ; `(tactic| (refine zf0 fun $J $h => ?_; walk_at "dd"))
local macro_rules | `(tactic| walk_at "f") => do let h:=Lean.mkIdent `hJ; `(tactic| (refine $h _ ?_; clear $h))
local macro_rules | `(tactic| walk_at "c") => do let h:=Lean.mkIdent `hJ; `(tactic| (clear $h; walk_at "a"))
local macro_rules | `(tactic| walk_at "b") => `(tactic| (walk_at "f"; walk_at "a"))
local macro_rules | `(tactic| walk_at "g") => do let f:=Lean.mkIdent; `(tactic| intro $(f `f) $(f `cdv) $(f `A) $(f `outer) $(f `s) $(f `H) $(f `E) $(f `hr))
local macro_rules | `(tactic| walk_at "h") => `(tactic| (refine fun _ _ _ _ _ _ us hl => ?_; first | (obtain ⟨_,e⟩:=ar1 hl;subst e;rfl) | (obtain ⟨_,_,e⟩:=ar2 hl;subst e;rfl) | (obtain ⟨_,_,_,e⟩:=ar3 hl;subst e;rfl) | (obtain ⟨_,_,_,_,e⟩:=ar4 hl;subst e;rfl) | (obtain ⟨_,_,_,_,_,e⟩:=ar5 hl;subst e;rfl)))
local macro_rules | `(tactic| walk_at "i") => `(tactic| (refine fun ds Qd h => ?_; first | (obtain ⟨e,_⟩:=h;subst e;rfl) | (obtain ⟨_,e,_⟩:=h;subst e;rfl) | (obtain ⟨_,_,e,_⟩:=h;subst e;rfl) | (obtain ⟨_,_,_,e,_⟩:=h;subst e;rfl) | (obtain ⟨_,_,_,_,e,_⟩:=h;subst e;rfl) | (obtain ⟨_,_,_,_,_,e,_⟩:=h;subst e;rfl) | (obtain ⟨_,_,_,_,_,_,e,_⟩:=h;subst e;rfl) | (obtain ⟨_,_,_,_,_,_,_,e,_⟩:=h;subst e;rfl)))
local macro_rules|`(tactic| walk_at "dn")=>`(tactic| (refine zf0 λ J hJ=>?_;walk_at "dd";refine hJ _ ?_;clear hJ))
local macro_rules|`(tactic| walk_at "dns")=>`(tactic| repeat walk_at "dn")
namespace _53
open PySem PySem.Spec PyProof.Rows _2 _3 _4 _5
variable {G:Nat->Nat->Int}{L ws:List Int}{M:Int}{gv_SINK gv_SOURCE:aC}{i m n:Nat}{side:List Nat}
def top(i:Nat):Stmt:=PySem.Challenge.pw_vatyard_k53_soonest_far.main.body.getD i (.Pass ⟨0,0,0,0⟩)
abbrev zcg:Stmt:=top 1
abbrev zw1:Stmt:=zx3 (top 2) 0
abbrev zh3:Stmt:=zx3 (top 2) 1
abbrev zg4:Stmt:=zx3 (top 2) 2
abbrev za2:Stmt:=zx3 (top 2) 3
abbrev zd2:Stmt:=zx3 (top 2) 4
abbrev zf4:Stmt:=zx3 (top 2) 5
abbrev zm3:Stmt:=zx3 (top 2) 6
abbrev zy2:Stmt:=zx3 (top 2) 7
abbrev zcb:Stmt:=top 3
abbrev zt2:Stmt:=zx3 (top 6) 0
abbrev zs2:Stmt:=zx3 (top 6) 1
abbrev zk4:Stmt:=zx3 (top 7) 0
abbrev zr4:Stmt:=zx3 (top 7) 1
abbrev zg3:Stmt:=zx3 (top 8) 0
abbrev zi3:Stmt:=zx3 (top 8) 1
abbrev zgd:Stmt:=top 9
abbrev zmr:Stmt:=top 10
abbrev ztz:Stmt:=top 14
abbrev zf01:Stmt:=top 15
abbrev zr8:Stmt:=top 16
abbrev zqa:Stmt:=top 17
abbrev zh41:Stmt:=top 18
abbrev ztd:Stmt:=top 19
abbrev zvb:Stmt:=top 21
abbrev zq2:Stmt:=top 22
abbrev zlh:Stmt:=top 23
abbrev zc3:Stmt:=top 25
abbrev zra:Stmt:=top 26
abbrev zde:Stmt:=top 27
abbrev zl9:Stmt:=top 28
abbrev zp5:Stmt:=top 30
abbrev ze8:Stmt:=top 31
abbrev zb8:Stmt:=top 32
abbrev zu9:Stmt:=top 33
abbrev zk8:Stmt:=top 34
abbrev zr9:Stmt:=top 35
abbrev zc9:Stmt:=top 36
abbrev zs9:Stmt:=top 37
abbrev zi8:Stmt:=top 38
abbrev zm9:Stmt:=top 39
abbrev zi21:Stmt:=top 40
section
variable {P:aQ}{w:aR}{K:Fg}{mg:Str->Option aC}{base:aX}{jA:aE}
def zo6(C:aE):DSpT:=λas Q=>E7 λ(m:Nat)(E:List Nat)(L:List Int)(S:List (List Nat))(q:List (Nat×Nat))(p:List Nat)(lev:Nat)=>A5 (as=[.b (oS C E L S),.b (.dk (kN q)),.o (.li (p.map nI)),.d (nI lev)]) (E.length=2 * m) (L.length=2 * m) ((∀s∈p,s < 2 * m/\(0 < lf L s->(lkp q (hd E s)).isSome=true))) (∀j,j<=p.length->(∀(i:Nat) s,j<=i->p[i]?=some s->¬(0 < lf L s/\lkp q (hd E s)=some lev))->(j=0->Q (.fz .none) (.li []))/\∀s,0 < j->p[j - 1]?=some s->0 < lf L s->lkp q (hd E s)=some lev->Q (.fz (nI s)) (.li ((p.take j).map nI)))
theorem zs5:FnScope ["self", "levels", "steps", "level", "step"] ["self", "levels", "steps", "level"] (zh0 zm3):=by walk_at"sc"
theorem zia(jB:Cls K jA)(T:TopMeth K jA "step_up" "Stream.step_up" zm3)(jL:mg "len"=none)(jC:NoAttr K jA "left")(jE:NoAttr K jA "ends"):MethD P w K mg base jA "step_up" 1 ["self", "levels", "steps", "level"] (spT K (zo6 jA)):=by
 refine zz7 jB T zs5 (by walk_at"h") (zti λas Qd h=>by obtain⟨_,_,_,_,_,_,_,rfl,_⟩:=h;rfl) (zm8 ?_);walk_at"g";have nd:=zs5.nd;refine⟨_,_,(zd0 (zi9 a8 (zc4 (K:=K) rfl (pv 2) (λ_=>rfl)) (zd0 (pset 4 nd (pix w K hr (pv 2) (zl1 zy8 (zu0 (zk1 (K:=K) rfl) rfl jL zb6 (za0 (pv 2) zg0)) ze0)))
   (zd0 (zm7 (PW.pt (zsk (zr0 zbw (pix w K hr (zu1 (K:=K) rfl (pv 0) rfl) (pv 4)) ze0 (zf1 _)) (zbg (zr0 (zo5 (K:=K) rfl (Room.units hr)) (pix w K hr (pv 1) (pix w K hr (zu1 (K:=K) rfl (pv 0) rfl) (pv 4))) (pv 3) (zf1 _))))) (zj0 (zz0 (pv 4))) zm1)
   (zj0 (zm2 (zzq (K:=K) rfl ğa ğf ğg zey (pv 2)))))))
   (zj0 (zz0 zzo))),(zl0 (zq9 (zv8 (zc0 2)) (zl0 (za1 (zm0 r_ix (zc0 2) (RfE.v (zm0 zgk (RfE.v (zf9 zle (zw0 (zc0 2) zq1))) rvi))) (rgn 4))
   (zl0 (zj7 (zel (zq0 (zm0 r_gt (RfE.v (zm0 r_ix (RfP.v (zq3 jB jC (zv0 0))) (zc0 4))) rvi)) (zq0 (zz1 q_eq (RfV.h (RfE.v (zzm (zv0 1) (zm0 r_ix (RfP.v (zq3 jB jE (zv0 0))) (zc0 4))))) (RfV.h (zc0 3))))) (zd1 (RfE.c (zi0 4))) zn1)
   (zp2 (zby zdx (zv0 2))))))
   (zd1 (RfE.c zxo))),?_⟩
 rintro as Qd a ⟨m,E,L,S,u,p,lev,rfl,hE,hL,hb,q⟩;walk_at"ds";refine zls ?_;refine⟨λμ U=>∃Z,μ<=p.length/\(∀(i:Nat) s,μ<=i->p[i]?=some s->¬(0 < lf L s/\lkp u (hd E s)=some lev))/\U=[.bo (oS jA E L S),.bo (.dk (kN u)),.io a (.li ((p.take μ).map nI)),.sh (nI lev),Z],⟨p.length,.un,u7 _,λi s hi e=>?_,?_⟩,?_⟩
 ·rw[v8 hi]at e;cases e
 ·rw[xR]
 rintro μ U ⟨Z,hμ,bad,rfl⟩;obtain⟨q0,q1⟩:=q μ hμ bad;walk_at"dd";cases μ with
|zero =>
  simp only[List.take_zero,yR,List.isEmpty_nil];walk_at"dd";exact⟨_,rfl,q0 rfl⟩
|succ μ =>
  obtain⟨s,hs⟩:∃s,p[μ]?=some s:=⟨p[μ]'(by lia),u5 _⟩
  have O:=hb s (wK hs);have el:((p.take (μ+1)).map nI).length=μ+1:=by rw[u4,wM];lia
  have e1:((p.take (μ+1)).map nI).isEmpty=false:=by
   rw[List.isEmpty_eq_false_iff];intro z;rw[z]at el;simp at el
  have es:(p.take (μ+1))[μ]?=some s:=by rw[ua2 (by lia)];exact hs
  rw[e1];walk_at"dd";walk_at"a";rw[el,show((μ+1:Nat):Int) - 1=(μ:Int) by lia];refine⟨_,zpf1 es,?_⟩;walk_at"dd";walk_at"f";have next:¬(0 < lf L s/\lkp u (hd E s)=some lev)->∃I,I < μ+1/\∃Z,I<=p.length/\(∀(i:Nat) s,I<=i->p[i]?=some s->¬(0 < lf L s/\lkp u (hd E s)=some lev))/\([Sl.bo (oS jA E L S),Sl.bo (.dk (kN u)),Sl.io a (.li ((p.take (μ+1)).map nI).dropLast),Sl.sh (nI lev),Sl.sh (nI s)]:DSt)=[.bo (oS jA E L S),.bo (.dk (kN u)),.io a (.li ((p.take I).map nI)),.sh (nI lev),Z]:=λhn=>by
   refine⟨μ,by lia,.sh (nI s),by lia,λi s' hi e=>?_,?_⟩
   ·rcases wX μ i with z|z
    ·exact bad i s' (by lia) e
    ·have:i=μ:=by lia
     subst this;rw[hs]at e;cases e;exact hn
   ·rw[uaL,el,zO,<- z8,List.take_take,zM (by lia)]
  have pop:¬(0 < lf L s/\lkp u (hd E s)=some lev)->∃d,((p.take (μ+1)).map nI)[((p.take (μ+1)).map nI).length - 1]?=some d/\∃I,I < μ+1/\∃Z,I<=p.length/\(∀(i:Nat) s,I<=i->p[i]?=some s->¬(0 < lf L s/\lkp u (hd E s)=some lev))/\([Sl.bo (oS jA E L S),Sl.bo (.dk (kN u)),Sl.io a (.li ((p.take (μ+1)).map nI).dropLast),Sl.sh (nI lev),Sl.sh (nI s)]:DSt)=[.bo (oS jA E L S),.bo (.dk (kN u)),.io a (.li ((p.take I).map nI)),.sh (nI lev),Z]:=λhn =>
   ⟨nI s,by rw[el,zO,u9,es];rfl,next hn⟩
  walk_at"a";refine⟨_,zec1 hL O.1,?_⟩;walk_at"dd";refine two (λhp=>?_) λhp=>hJ _ ?_
  ·obtain⟨b,W⟩:=xO.mp (O.2 hp);refine⟨_,zr81 hE O.1,?_⟩;walk_at"dd";refine⟨_,nI b,rfl,by rw[ztc,W];rfl,?_⟩;walk_at"dd";refine two (λhe=>?_) λhe=>hJ _ ?_
   ·have:b=lev:=by lia
    subst this;exact⟨_,rfl,q1 s (by lia) (by rw[zO];exact hs) hp W⟩
   ·walk_at"dd";exact pop λz=>by rw[W]at z;exact he (by have:=z.2;injection this with this;rw[this])
  ·walk_at"dd";exact pop λz=>hp z.1
def zd9(C:aE):DSpT:=λas Q=>E5 λ(m:Nat)(E:List Nat)(L:List Int)(S:List (List Nat))(p:List Nat)=>A7 (as=[.o (oS C E L S),.d (.list (p.map nI))]) (E.length=2 * m) (L.length=2 * m) (p≠[]) (p.length<=1000000) ((∀s∈p,s < 2 * m)) (∀a,(∃s∈p,a=lf L s)->(∀s∈p,a<=lf L s)->Q (.fz .none) (oS C E (za3 L p a) S))
theorem zkl(L:List Int)(p:List Nat)(s:Nat)(a:Int):za3 L (p++[s]) a=zmi (za3 L p a) s a:=by unfold za3;rw[List.foldl_append];rfl
theorem zs7:FnScope ["self", "path", "amount", "step"] ["self", "path"] (zh0 zy2):=by walk_at"sc"
theorem zec(jB:Cls K jA)(T:TopMeth K jA "carry" "Stream.carry" zy2)(uU:mg "min"=none)(jC:NoAttr K jA "left"):MethD P w K mg base jA "carry" 1 ["self", "path"] (spT K (zd9 jA)):=by
 refine zz7 jB T zs7 (by walk_at"h") (zti λas Qd h=>by obtain⟨_,_,_,_,_,rfl,_⟩:=h;rfl) (zm8 ?_);walk_at"g";have nd:=zs7.nd;refine⟨_,_,(zd0 (pset 2 nd (zu0 (zvs (K:=K) rfl rfl) rfl uU zd41 (za0 (zz4 (sc:=zh0 zy2) (N:=["self", "path", "amount", "step"]) (own:=["step"]) (ix:=[0]) rfl rfl rfl (by walk_at"csc") (pi_W (K:=K) rfl (pv 1)) (λ_ _ _ _=>⟨(pgn 0 (nds ["step", "self"])),zy4,(pix w K hr (zu1 (K:=K) rfl (pv 1) rfl) (pv 0))⟩)) zg0)))
   (zj0 (zo7 a8 rfl (pi_W (K:=K) rfl (pv 1)) (pgn 3 nd) (zd0 (zkv (zu1 (K:=K) rfl (pv 0) rfl) (pv 3) (zne1 (K:=K) (Room.units hr) rfl) (pv 2) zys (zg81 (Room.units hr)))
   (zj0 (zkv (zu1 (K:=K) rfl (pv 0) rfl) (zl1 ze71 (pv 3) ze0) (zne1 (K:=K) (Room.units hr) rfl) (pv 2) zbl (zg81 (Room.units hr)))))))),(zl0 (za1 (zf9 zpa1 (zw0 (RfE.v (RfF.e (zx2 (zu61 (zc0 1)) (zo1 (i:=0) (n:=1) (by decide)) zk6 (zm0 r_ix (RfP.v (zq3 jB jC (zv0 1))) (zc0 0))))) zq1)) (rgn 2))
   (zp7 (zgv (zi0 1)) (rgn 3) (zl0 (zew (zq3 jB jC (zv0 0)) (zi0 3) (zi0 2))
   (zew (zq3 jB jC (zv0 0)) (zm0 zge1 (zc0 3) rvi) (zi0 2))))),?_⟩
 rintro as Qd a ⟨m,E,L,S,p,rfl,hE,hL,hne,hz,hb,q⟩;walk_at"ds";walk_at"a";refine zes (λs=>.int (lf L s)) (by rw[aY];lia) (λs O=>?_) ?_
 ·walk_at"cs";walk_at"dd";exact⟨_,zec1 hL (hb s O),rfl⟩
 refine⟨p.map (lf L),?_,by simpa using hne,λM hM hx=>hJ _ ?_⟩
 ·rw[<- _4.ints_map (p.map (lf L)),wF];rfl
 clear hJ;walk_at"dd";refine zn3 (λi U=>∃s3,U=[.io a (oS jA E (za3 L (p.take i) M) S),.sh (.list (p.map nI)),.sh (.int M),s3]) ⟨.un,rfl⟩ ?_ ?_
 ·rintro i s U' O ⟨s3,rfl⟩;have Z:=hb s (wK O);have hl:(za3 L (p.take i) M).length=2 * m:=by rw[zzb];exact hL
  rw[show p.take (i+1)=p.take i++[s] by rw[xI,O];rfl,zkl];generalize za3 L (p.take i) M=u at hl ⊢;walk_at"dd";walk_at"a";have get:∀{I:List Int}{j:Nat},j < I.length->(I.map u6)[((j:Nat):Int).toNat]?=some (.int (lf I j)):=λ{I j} h=>by
   rw[v6,u9];unfold lf;rw[wD,u5 h];rfl
  have W:∀{I:List Int}{j:Nat},j < I.length->ixN (I.map u6).length ((j:Nat):Int)=some j:=λ{I j} h=>by
   unfold ixN;rw[aF (by lia),aF (by rw[u4];lia),v6]
  refine⟨by lia,_,get (by lia),?_⟩;walk_at"dd";refine⟨s,W (by lia),hJ _ ?_⟩;clear hJ;rw[show(u.map u6).set s (.int (lf u s - M))=(u.set s (lf u s - M)).map .int from(uaX ..).symm];walk_at"dd";rw[zs41];have hx:xr s < 2 * m:=zi81 Z;refine⟨by lia,_,get (by rw[wN];lia),?_⟩;walk_at"dd";refine⟨xr s,W (by rw[wN];lia),.sh (nI s),?_⟩;rw[show((u.set s (lf u s - M)).map u6).set (xr s) (.int (lf (u.set s (lf u s - M)) (xr s)+M))=((u.set s (lf u s - M)).set (xr s) (lf (u.set s (lf u s - M)) (xr s)+M)).map .int from(uaX ..).symm];rw[zny (by lia),aA (λz=>zeb1 s z.symm)];rfl
 ·rintro U' ⟨s3,rfl⟩;rw[xR];obtain⟨s0,hs0,e0⟩:=vQ.mp hM;walk_at"dd";exact⟨_,rfl,q M ⟨s0,hs0,e0.symm⟩ λs O=>hx _ (kP O)⟩
def zu3(C:aE):DSpT:=λas Q=>E9 λ(n m:Nat)(E:List Nat)(L:List Int)(S:List (List Nat))(src:Nat)(u:List (Nat×Nat))(row:List Nat)(lev:Nat)=>A6 (as=[.b (oS C E L S),.d (.list (row.map nI)),.o (.dk (kN u))]) (n<=100000) (Net n m E S) (L.length=2 * m) (Bfs n m E L src u row lev) (∀q p,Bfs n m E L src q p (lev+1)->q.length=u.length+p.length->Q (.fz (.list (p.map nI))) (.dk (kN q)))
theorem zp3:FnScope ["self", "row", "told", "behind", "here", "step", "goal"] ["self", "row", "told"] (zh0 za2):=by walk_at"sc"
theorem zj8(jB:Cls K jA)(T:TopMeth K jA "row_behind" "Stream.row_behind" za2)(jF:NoAttr K jA "steps")(jE:NoAttr K jA "ends")(jC:NoAttr K jA "left"):MethD P w K mg base jA "row_behind" 1 ["self", "row", "told"] (spT K (zu3 jA)):=by
 refine zz7 jB T zp3 (by walk_at"h") (zti λas Qd h=>by obtain⟨_,_,_,_,_,_,_,_,_,rfl,_⟩:=h;rfl) (zm8 ?_);walk_at"g";have nd:=zp3.nd;refine⟨_,_,(zd0 (pset 3 nd (zb2 zg0))
   (zd0 (zo7 a8 rfl (pi_W (K:=K) rfl (pv 1)) (pgn 4 nd) (zj0 (zo7 a8 rfl (pi_W (K:=K) rfl (pix w K hr (zu1 (K:=K) rfl (pv 0) rfl) (pv 4))) (pgn 5 nd) (zd0 (pset 6 nd (pix w K hr (zu1 (K:=K) rfl (pv 0) rfl) (pv 5)))
   (zj0 (zm7 (PW.pt (zsk (zr0 zbw (pix w K hr (zu1 (K:=K) rfl (pv 0) rfl) (pv 5)) ze0 (zf1 _)) (zbg (zr0 (zzd (w:=w) (K:=K) (Room.units hr) rfl rfl) (pv 6) (pv 2) (by with_unfolding_all rfl))))) (zd0 (zuz (zl1 (zg1 (K:=K) rfl) (pix w K hr (pv 2) (pv 4)) ze0) (zd71 (pv 2) (pv 6) (zg81 (Room.units hr))))
   (zj0 (zm2 (zn9 (K:=K) rfl ğa ğb ğc zd4 (pv 3) (za0 (pv 6) zg0))))) zm1))))))
   (zj0 (zz0 (pv 3))))),(zl0 (ze6 (RfF.c (zd6 zk0)))
   (zl0 (zp7 (zgv (zi0 1)) (rgn 4) (zp7 (zgv (zm0 r_ix (RfP.v (zq3 jB jF (zv0 0))) (zc0 4))) (rgn 5) (zl0 (za1 (zm0 r_ix (RfP.v (zq3 jB jE (zv0 0))) (zc0 5)) (rgn 6))
   (zj7 (zel (zq0 (zm0 r_gt (RfE.v (zm0 r_ix (RfP.v (zq3 jB jC (zv0 0))) (zc0 5))) rvi)) (zq0 (zxu (zi0 6) (zv0 2)))) (zl0 (zd61 (zm0 zq7 (RfE.v (zzm (zv0 2) (zi0 4))) rvi) (zv0 2) (zi0 6))
   (zp2 (zcl zii (zv0 3) (zb0 (zi0 6) zk0)))) zn1))))
   (zki 3 [] (zqc (i:=3))))),?_⟩
 rintro as Qd a ⟨n,m,E,L,S,src,lv,row,lev,rfl,hn,N,hL,B,q⟩;walk_at"ds";walk_at"a";walk_at"b";refine zn3 (λi U=>E5 λI O s4 s5 s6=>A3 (Mid n m E L lv lev I O) ((∀v∈row.take i,∀l,S[v]?=some l->∀s∈l,0 < lf L s->(lkp I (hd E s)).isSome=true)) (U=[.bo (oS jA E L S),.sh (.list (row.map nI)),.io a (.dk (kN I)),.ow (.li (O.map nI)),s4,s5,s6])) ⟨lv,[],.un,.un,.un,Mid.start B,λv hv=>by simp at hv,rfl⟩ ?_ ?_
 ·rintro i v U hv ⟨I,O,s4,s5,s6,M,cl,rfl⟩;have hvr:=wK hv;have hvl:=M.old _ _ (B.ro v hvr);have hvn:=B.bd _ (zqn (B.ro v hvr));obtain⟨l,hl⟩:∃l,S[v]?=some l:=⟨S[v]'(by rw[N.lS];exact hvn),u5 _⟩
  walk_at"dd";refine⟨_,zig1 hl,?_⟩;walk_at"dd";refine zn3 (λj U=>∃I O s5 s6,Mid n m E L lv lev I O/\(∀v∈row.take i,∀l,S[v]?=some l->∀s∈l,0 < lf L s->(lkp I (hd E s)).isSome=true)/\(∀s∈l.take j,0 < lf L s->(lkp I (hd E s)).isSome=true) /\
   U=[.bo (oS jA E L S),.sh (.list (row.map nI)),.io a (.dk (kN I)),.ow (.li (O.map nI)),.sh (nI v),s5,s6]) ⟨I,O,s5,s6,M,cl,λs hs=>by simp at hs,rfl⟩ ?_ ?_
  ·clear M hvl cl I O s4 s5 s6;rintro j s U hs ⟨I,O,s5,s6,M,cl,cj,rfl⟩;have hvl:=M.old _ _ (B.ro v hvr);have hsl:=wK hs;obtain⟨hsm,hst⟩:=N.s1 v l hl s hsl;have hz:I.length<=n:=by
    have:=zx0 n (I.map (·.1)) M.nd (λx Z=>by obtain⟨p,hp,rfl⟩:=vQ.mp Z;exact M.bd p hp)
    rwa [u4]at this
   have hz2:=M.len;have tk:∀x∈l.take (j+1),x∈l.take j \/ x=s:=λx Z=>by
    rw[xI,hs]at Z;rcases vV.mp Z with z|z
    ·exact .inl z
    ·simp at z;exact .inr z
   walk_at"dd";refine zf0 λJ2 hJ2=>?_;walk_at"dd";refine⟨_,zr81 N.lE hsm,?_⟩;walk_at"dd";refine hJ2 _ ?_;clear hJ2;walk_at"dd";refine⟨_,zec1 hL hsm,?_⟩;walk_at"dd";refine two (λhp=>?_) λhp=>?_
   ·rw[zL];refine two (λhg=>?_) λhg=>?_
    ·have hg:lkp I (hd E s)=none:=by simpa using hg
     refine zf0 λJ2 hJ2=>?_;walk_at"dd";refine⟨_,nI lev,rfl,by rw[ztc,hvl];rfl,?_⟩;walk_at"dd";refine⟨by rw[kN,u4];lia,hJ2 _ ?_⟩;clear hJ2;rw[show(u6 ((lev:Int)+1))=nI (lev+1)from rfl,zv41 hg];walk_at"dd";refine⟨by rw[u4];lia,I++[(hd E s,lev+1)],O++[hd E s],_,_,M.put hsm hp (by rw[hst];exact hvl) (N.bE s hsm) hg,λu hu k hk x Z hp'=>?_,λx Z W=>?_,by rw[v7];rfl⟩
     ·obtain⟨b,hb⟩:=xO.mp (cl u hu k hk x Z hp');rw[zdd,hb];rfl
     ·rcases tk x Z with z|z
      ·obtain⟨b,hb⟩:=xO.mp (cj x z W);rw[zdd,hb];rfl
      ·rw[z,zdd,hg];simp
    ·exact⟨I,O,_,_,M,cl,λx Z W=>(tk x Z).elim (λz=>cj x z W) λz=>by rw[z];cases q:lkp I (hd E s)with|none=>exact aN (by rw[q];rfl) hg|some b=>rfl,rfl⟩
   ·exact⟨I,O,_,_,M,cl,λx Z W=>(tk x Z).elim (λz=>cj x z W) λz=>aN (z ▸ W) hp,rfl⟩
  ·rintro U ⟨I,O,s5,s6,M,cl,cj,rfl⟩;refine⟨I,O,_,_,_,M,λu hu k hk s hs hp=>?_,rfl⟩;rw[xI,hv]at hu;rcases vV.mp hu with z|z
   ·exact cl u z k hk s hs hp
   ·simp at z;subst z;rw[hl]at hk;cases hk;rw[xR]at cj;exact cj s hs hp
 ·rintro U ⟨I,O,s4,s5,s6,M,cl,rfl⟩;rw[xR]at cl;refine hJ _ ?_;walk_at"dd";refine⟨_,_,rfl,rfl,?_⟩;exact⟨_,rfl,q _ _ (Mid.bfs N B M cl) M.len⟩
def zw7(C:aE):DSpT:=λas Q=>E6 λ(n m:Nat)(E:List Nat)(L:List Int)(S:List (List Nat))(src:Nat)=>A6 (as=[.b (oS C E L S),.d (nI src)]) (n<=100000) (Net n m E S) (L.length=2 * m) (src < n) (∀p,Lev n m E L src p->∀t,Q (.dk (kN p)) t)
theorem zi6:FnScope ["self", "source", "told", "row"] ["self", "source"] (zh0 zg4):=by walk_at"sc"
theorem zxb(jB:Cls K jA)(T:TopMeth K jA "levels" "Stream.levels" zg4)(jY:MethD P w K mg base jA "row_behind" 1 ["self", "row", "told"] (spT K (zu3 jA))):MethD P w K mg base jA "levels" 2 ["self", "source"] (spT K (zw7 jA)):=by
 refine zz7 jB T zi6 (by walk_at"h") (zti λas Qd h=>by obtain⟨_,_,_,_,_,_,rfl,_⟩:=h;rfl) (zm8 ?_);walk_at"g";have nd:=zi6.nd;refine⟨_,_,(zd0 (pset 2 nd (zw61 (zix (pv 1) ze0 zj41) rfl rfl (by simp) (by decide)))
   (zd0 (pset 3 nd (zb2 (za0 (pv 1) zg0)))
   (zd0 (zi9 a8 (zc4 (K:=K) rfl (pv 3) (λ_=>rfl)) (zj0 (pset 3 nd (zp6 jY (rmn hr) (pv 0) (za0 (pv 3) (za0 (pv 2) zg0))))))
   (zj0 (zz0 (pv 2)))))),(zl0 (ze6 (zma1 (zi0 1) zc1))
   (zl0 (za1 (RfF.e (zd6 (zb0 (zi0 1) zk0))) (rgn 3))
   (zl0 (zq9 (zv8 (zc0 3)) (ze6 (zda false (zv0 0) (at_d (zi0 3) (at_o (zv0 2) zx8)))))
   (zqc (i:=2))))),?_⟩
 rintro as Qd a ⟨n,m,E,L,S,src,rfl,hn,N,hL,hs,q⟩;walk_at"ds";walk_at"a";walk_at"b";walk_at"f";refine zls ?_;refine⟨λμ U=>E3 λW row lev=>A3 (Bfs n m E L src W row lev) (μ=2 * (n - W.length)+(if row=[]then 0 else 1)) (U=[.bo (oS jA E L S),.sh (nI src),.ow (.dk (kN W)),.sh (.list (row.map nI))]),⟨_,[(src,0)],[src],0,Bfs.start hs,rfl,rfl⟩,?_⟩;rintro μ U ⟨W,row,lev,B,rfl,rfl⟩;walk_at"dd";refine two (λu=>?_) λu=>?_
 ·refine⟨n,m,E,L,S,src,W,row,lev,rfl,hn,N,hL,B,λZ I B' e=>⟨_,?_,Z,I,lev+1,B',rfl,rfl⟩⟩;have hz:=zx0 n (Z.map (·.1)) B'.nd (λx hx=>by obtain⟨p,hp,rfl⟩:=vQ.mp hx;exact B'.bd p hp);rw[u4]at hz;have O:row≠[]:=λz=>by rw[z]at u;cases u
  rw[aA O];by_cases z:I=[]
  ·subst z;rw[aF rfl];simp at e;lia
  ·have:=List.length_pos_iff.mpr z;rw[aA z];lia
 ·have O:row=[]:=by
   cases row with
  |nil=>rfl
  |cons x r=>exact aN rfl u
  subst O;exact q W B.lev _
abbrev tT(TT:List (List Nat)):_4.T:=.ls (TT.map λl=>.li (l.map nI))
theorem setT{p:List (List Nat)}{v:Nat}(x:List Nat):(p.map λl=>_4.T.li (l.map nI)).set v (.li (x.map nI))=(p.set v x).map λl=>_4.T.li (l.map nI):=by rw[uaX]
def zy7(C:aE):DSpT:=λas Q=>E9 λ(n m:Nat)(E:List Nat)(L:List Int)(S:List (List Nat))(u:List (Nat×Nat))(TT:List (List Nat))(src q:Nat)=>A11 (as=[.b (oS C E L S),.b (.dk (kN u)),.o (tT TT),.d (nI src),.d (nI q)]) (m<=400000) (Net n m E S) (L.length=2 * m) (src < n) (src≠q) (lkp u src=some 0) ((∀s,s < 2 * m->0 < lf L s->(lkp u (tl E s)).isSome=true->(lkp u (hd E s)).isSome=true)) (Tri m E S L u q TT) ((∀TT',¬Rch m E L u q src->Q (.fz (.list [])) (tT TT'))) (∀p TT',Tri m E S L u q TT'->Way m E L u src p q->Q (.fz (.list (p.map nI))) (tT TT'))
theorem zj6:FnScope ["self", "levels", "tries", "source", "sink", "path", "here", "step"] ["self", "levels", "tries", "source", "sink"] (zh0 zf4):=by walk_at"sc"
theorem zgb(jB:Cls K jA)(T:TopMeth K jA "way_up" "Stream.way_up" zf4)(jE:NoAttr K jA "ends")(kK:MethD P w K mg base jA "step_up" 1 ["self", "levels", "steps", "level"] (spT K (zo6 jA))):MethD P w K mg base jA "way_up" 2 ["self", "levels", "tries", "source", "sink"] (spT K (zy7 jA)):=by
 refine zz7 jB T zj6 (by walk_at"h") (zti λas Qd h=>by obtain⟨_,_,_,_,_,_,_,_,_,rfl,_⟩:=h;rfl) (zm8 ?_);walk_at"g";have nd:=zj6.nd;refine⟨_,_,(zd0 (pset 5 nd (zb2 zg0))
   (zd0 (pset 6 nd (pv 3))
   (zd0 (zi9 a8 (zr0 (zxe (K:=K) rfl (Room.units hr)) (pv 6) (pv 4) (zf1 _)) (zd0 (pset 7 nd (zp6 kK (rmn hr) (pv 0) (za0 (pv 1) (za0 (pix w K hr (pv 2) (pv 6)) (za0 (zl1 (zg1 (K:=K) rfl) (pix w K hr (pv 1) (pv 6)) ze0) zg0)))))
   (zj0 (zm7 (zr0 zwv (pv 7) zzo (zf1 _)) (zd0 (zm2 (zn9 (K:=K) rfl ğa ğb ğc zd4 (pv 5) (za0 (pv 7) zg0)))
   (zj0 (pset 6 nd (pix w K hr (zu1 (K:=K) rfl (pv 0) rfl) (pv 7))))) (zj0 (zm7 (zc4 (K:=K) rfl (pv 5) (λ_=>rfl)) (zd0 (pset 6 nd (pix w K hr (zu1 (K:=K) rfl (pv 0) rfl) (zl1 ze71 (zzq (K:=K) rfl ğa ğf ğg zey (pv 5)) ze0)))
   (zj0 (zm2 (zzq (K:=K) rfl ğa ğf ğg zey (pix w K hr (pv 2) (pv 6)))))) (zj0 (zz0 (pv 5)))))))))
   (zj0 (zz0 (pv 5)))))),(zl0 (ze6 (RfF.c (zd6 zk0)))
   (zl0 (za1 (zi0 3) (rgn 6))
   (zl0 (zq9 (zq0 (zz1 q_ne (RfV.h (zc0 6)) (RfV.h (zc0 4)))) (zl0 (ze6 (zda false (zv0 0) (at_b (zv0 1) (at_o (zs81 (zv0 2) (zi0 6)) (at_d (zm0 zq7 (RfE.v (zzm (zv0 1) (zi0 6))) rvi) zx8)))))
   (zj7 (zq0 (zm0 zo31 (zc0 7) (RfE.v zxo))) (zl0 (zp2 (zcl zii (zv0 5) (zb0 (zi0 7) zk0)))
   (za1 (zm0 r_ix (RfP.v (zq3 jB jE (zv0 0))) (zc0 7)) (rgn 6))) (zj7 (zv8 (zc0 5)) (zl0 (ze6 (zk41 (RfP.e (zq3 jB jE (zv0 0))) zge1 (zby zdx (zv0 5)) zc1))
   (zp2 (zby zdx (zs81 (zv0 2) (zi0 6))))) (zki 5 [] (zqc (i:=5)))))))
   (zki 5 [] (zqc (i:=5)))))),?_⟩
 rintro as Qd a ⟨n,m,E,L,S,lv,TT,src,I,rfl,hm,N,hL,hsn,hss,l0,cl,tri,q0,q1⟩;walk_at"ds";walk_at"a";walk_at"b";walk_at"f";refine zls ?_;refine⟨λμ U=>E4 λp here TT s7=>A3 (Go m E S L lv I src p here TT) (μ=szT TT * (2 * m+2)+(2 * m+1 - p.length)) (U=[.bo (oS jA E L S),.bo (.dk (kN lv)),.io a (tT TT),.sh (nI src),.sh (nI I),.ow (.li (p.map nI)),.sh (nI here),s7]),
  ⟨_,[],src,TT,.un,⟨tri,rfl,l0,λs hs=>by simp at hs⟩,rfl,rfl⟩,?_⟩
 rintro μ U ⟨p,here,W,s7,g,rfl,rfl⟩;have hpl:=g.short g.way.lt;have hln:p.length=p.length:=rfl;walk_at"dd";refine two (λq=>?_) λq=>?_
 ·have q:here≠I:=λz=>q (by rw[z]);obtain⟨k,Z⟩:∃k,W[here]?=some k:=by
   have:here < n:=by
    cases p with
   |nil=>have e:src=here:=g.way;rw[<- e];exact hsn
   |cons x r =>
     obtain⟨y,hy⟩:∃y,(x :: r).getLast?=some y:=⟨_,ubJ⟩
     obtain⟨r0,e⟩:=ubK.mp hy;have gw:=g.way;rw[e]at gw;obtain⟨_,w2,w3,_⟩:=gw.unsnoc;rw[<- w2];exact N.bE y w3
   exact⟨W[here]'(by rw[g.tri.len,N.lS];exact this),u5 _⟩
  have hkl:=zif Z;have gT:(W.map λl=>_4.T.li (l.map nI))[here]?=some (_4.T.li (k.map nI)):=by rw[u9,Z];rfl
  walk_at"a";refine⟨here,.li (k.map nI),by rw[u4];exact zxj hkl,by rw[u9,Z];rfl,_,nI p.length,rfl,by rw[ztc,g.lev];rfl,?_⟩;walk_at"dd";refine⟨m,E,L,S,lv,k,p.length+1,rfl,N.lE,hL,λs hs=>?_,λj hj bad=>⟨λh0=>hJ _ ?_,λs h0 hs u hlv=>hJ _ ?_⟩⟩
  ·obtain⟨k2,h1,h2⟩:=g.tri.pre here k Z;obtain⟨O,hst⟩:=N.s1 here k2 h1 s (h2.subset hs);exact⟨O,λu=>cl s O u (by rw[hst,g.lev];rfl)⟩
  ·subst h0;have eT:(W.map λl=>_4.T.li (l.map nI)).set here (.li [])=(W.set here []).map λl=>_4.T.li (l.map nI):=setT [];rw[gT];simp only[];rw[eT];walk_at"dd";refine two (λu=>?_) λu=>?_
   ·obtain⟨y,hy⟩:∃y,p.getLast?=some y:=by
     cases p with
    |nil=>cases u
    |cons x r=>exact⟨_,ubJ⟩
    obtain⟨p0,rfl⟩:=ubK.mp hy;obtain⟨hym,k2,hk2,g2,hsz⟩:=g.back N Z q bad;walk_at"a";refine⟨nI y,by simp,?_⟩;walk_at"dd";rw[zs41];refine⟨_,zr81 N.lE (zi81 hym),hJ _ ?_⟩;clear hJ;rw[show(yV nI (p0++[y])).dropLast=p0.map nI by rw[v7];exact ubL,zt71];have hz2:=zif hk2;have gT2:((W.set here []).map λl=>_4.T.li (l.map nI))[tl E y]?=some (_4.T.li ((k2++[y]).map nI)):=by rw[u9,hk2];rfl
    walk_at"dd";refine⟨tl E y,_,by rw[u4];exact zxj hz2,gT2,?_⟩;walk_at"dd";refine⟨nI y,by simp,_,?_,p0,tl E y,_,.sh .none,g2,rfl,?_⟩
    ·have:=yM (2 * m+2) hsz;rw[yT]at this;rw[vT];simp only[zJ];lia
    ·rw[gT2,show(yV nI (k2++[y])).dropLast=k2.map nI by rw[v7];exact ubL];simp only[];rw[setT]
   ·have u:p=[]:=by
     cases p with
    |nil=>rfl
    |cons x r=>exact aN rfl u
    subst u;exact⟨_,_,rfl,rfl,_,rfl,q0 _ (g.dead N Z q bad)⟩
  ·rw[gT];simp only[];rw[setT];obtain⟨g2,hsz,O⟩:=g.fwd N Z h0 hj bad hs u hlv;walk_at"dd";walk_at"a";refine⟨by rw[u4];lia,hJ _ ?_⟩;clear hJ;walk_at"dd";refine⟨_,zr81 N.lE O,?_⟩;walk_at"dd";refine⟨_,?_,p++[s],hd E s,W.set here (k.take j),_,g2,rfl,by rw[v7];rfl⟩;rw[vT];have:=yM (2 * m+2) hsz;simp only[zJ];lia
 ·have q:here=I:=by lia
  subst q;exact⟨_,_,rfl,rfl,_,rfl,q1 p W g.tri g.way⟩
def zq6(C:aE):DSpT:=λas Q=>E9 λ(n m:Nat)(most:Nat->Int)(E:List Nat)(L:List Int)(S:List (List Nat))(q:List (Nat×Nat))(src p:Nat)=>A10 (as=[.o (oS C E L S),.b (.dk (kN q)),.d (nI src),.d (nI p)]) (n<=100000) (m<=400000) (Net n m E S) (Cap m most L) (src < n) (src≠p) (Lev n m E L src q) ((lkp q p).isSome=true) (∀u,Up m most E L u src p->bal m E L p < bal m E u p->Q (.fz .none) (oS C E u S))
theorem zr5:FnScope ["self", "levels", "source", "sink", "tries", "path"] ["self", "levels", "source", "sink"] (zh0 zd2):=by walk_at"sc"
theorem zoa(jB:Cls K jA)(T:TopMeth K jA "push_up" "Stream.push_up" zd2)(kE:mg "list"=none)(jF:NoAttr K jA "steps")(kB:MethD P w K mg base jA "way_up" 2 ["self", "levels", "tries", "source", "sink"] (spT K (zy7 jA)))(qF:MethD P w K mg base jA "carry" 1 ["self", "path"] (spT K (zd9 jA))):MethD P w K mg base jA "push_up" 3 ["self", "levels", "source", "sink"] (spT K (zq6 jA)):=by
 refine zz7 jB T zr5 (by walk_at"h") (zti λas Qd h=>by obtain⟨_,_,_,_,_,_,_,_,_,rfl,_⟩:=h;rfl) (zm8 ?_);walk_at"g";have nd:=zr5.nd;refine⟨_,_,(zd0 (zg7 (i:=4) (sc:=zh0 zd2) (N:=["self", "levels", "source", "sink", "tries", "path"]) (own:=["steps"]) (ix:=[]) rfl rfl rfl (by walk_at"csc") nd rfl rfl (pi_W (K:=K) rfl (zu1 (K:=K) rfl (pv 0) rfl)) (λ_ _ _ _=>⟨(pgn 0 (nds ["steps"])),zy4,(zb9 (zt8 (K:=K) rfl) rfl kE zrb (za0 (pv 0) zg0))⟩))
   (zd0 (pset 5 nd (zp6 kB (rmn hr) (pv 0) (za0 (pv 1) (za0 (pv 4) (za0 (pv 2) (za0 (pv 3) zg0))))))
   (zj0 (zi9 a8 (zc4 (K:=K) rfl (pv 5) (λ_=>rfl)) (zd0 (zm2 (zp6 qF (rmn hr) (pv 0) (za0 (pv 5) zg0)))
   (zj0 (pset 5 nd (zp6 kB (rmn hr) (pv 0) (za0 (pv 1) (za0 (pv 4) (za0 (pv 2) (za0 (pv 3) zg0)))))))))))),(zl0 (ze6 (RfN.c (zqv (zu61 (RfP.v (zq3 jB jF (zv0 0)))) (zo1 (i:=0) (n:=1) (by decide)) (RfF.new (zd81 zet (zw0 (zc0 0) zq1))))))
   (zl0 (ze6 (zda false (zv0 0) (at_b (zv0 1) (at_o (zv0 4) (at_d (zi0 2) (at_d (zi0 3) zx8))))))
   (zq9 (zv8 (zc0 5)) (zl0 (zp2 (zda true (zv0 0) (at_d (zi0 5) zx8)))
   (ze6 (zda false (zv0 0) (at_b (zv0 1) (at_o (zv0 4) (at_d (zi0 2) (at_d (zi0 3) zx8)))))))))),?_⟩
 rintro as Qd a ⟨n,m,most,E,L,S,O,src,u,rfl,hn,hm,N,c,hsn,hss,Z,ht,q⟩;walk_at"ds";walk_at"a";refine zk71 (λl=>.li (l.map nI)) (by rw[aY,N.lS];lia) (λl hl=>?_) (hJ _ ?_)
 ·walk_at"cs";walk_at"dd"
 clear hJ;obtain⟨b0,hb0⟩:=xO.mp ht;have rch:Rch m E L O u src:=zkf Z b0 u hb0 .here;walk_at"a";refine⟨n,m,E,L,S,O,S,src,u,rfl,hm,N,c.len,hsn,hss,Z.l0,Z.cl,Tri.all,λTT' h=>aN rch h,λp TT' tri hw=>hJ _ ?_⟩;clear hJ;refine⟨λμ U=>E3 λI p TT=>A8 (Up m most E L I src u) ((p≠[]->Tri m E S I O u TT)) ((∀s,s < 2 * m->0 < lf I s->(lkp O (tl E s)).isSome=true->(lkp O (hd E s)).isSome=true)) (bal m E L u<=bal m E I u) ((p=[]->bal m E L u < bal m E I u)) ((p≠[]->Way m E I O src p u)) (μ=(tot m most - bal m E I u).toNat) (U=[.io a (oS jA E I S),.bo (.dk (kN O)),.sh (nI src),.sh (nI u),.ow (tT TT),.sh (.list (p.map nI))]),
  ⟨_,L,p,TT',Up.refl c,λ_=>tri,Z.cl,xK _,λz=>?_,λ_=>hw,rfl,rfl⟩,?_⟩
 ·subst z;exact aN hw hss
 clear tri hw TT' p;rintro μ U ⟨I,p,TT,up,tri,cl,le,hlt,hw,rfl,rfl⟩;walk_at"dd";refine two (λW=>?_) λW=>?_
 ·have W:p≠[]:=λz=>by rw[z]at W;cases W
  have hw:=hw W;walk_at"a";have hpl:p.length<=2 * m:=zx0 _ p (hw.nodup Z.l0).1 hw.lt;refine⟨m,E,I,S,p,rfl,N.lE,up.cap.len,W,by lia,hw.lt,λam ham hmin=>hJ _ ?_⟩;clear hJ;obtain⟨s0,hs0,e0⟩:=ham;have pos:0 < am:=by
   rw[e0];obtain⟨_,hadm⟩:True/\∀{v:Nat}{p:List Nat}{t:Nat},Way m E I O v p t->∀s∈p,0 < lf I s:=⟨trivial,by
    intro v p
    induction p generalizing v with
   |nil=>intro t _ s hs;simp at hs
   |cons x r ih =>
     intro t h s hs;rcases vR.mp hs with z|z
     ·rw[z];exact h.2.2.1.1
     ·exact ih h.2.2.2 s z⟩
   exact hadm hw s0 hs0
  have up2:=up.trans (Up.carry up.cap hw Z.l0 (by lia) hmin);have hb:bal m E (za3 I p am) u=bal m E I u+am:=by
   rw[zz8 up.cap.len hw,aF rfl,aA hss];lia
  have hle:=zo71 (E:=E) up2.cap u;have cl2:=zzs up.cap.len hw Z.l0 cl (a:=am) (by lia);have tri2:Tri m E S (za3 I p am) O u TT:=(tri W).mono (zgt up.cap.len hw Z.l0 (by lia)) λv k h s hs=>(N.s1 v k h s hs).1;generalize za3 I p am=_2 at *;walk_at"dd";refine⟨n,m,E,_2,S,O,TT,src,u,rfl,hm,N,up2.cap.len,hsn,hss,Z.l0,cl2,tri2,λTT' h=>?_,λp' TT' tri' hw'=>?_⟩
  ·exact⟨_,by lia,_2,[],TT',up2,λz=>aN rfl z,cl2,by lia,λ_=>by lia,λz=>aN rfl z,rfl,rfl⟩
  ·exact⟨_,by lia,_2,p',TT',up2,λ_=>tri',cl2,by lia,λ_=>by lia,λ_=>hw',rfl,rfl⟩
 ·have W:p=[]:=by
   cases p with
  |nil=>rfl
  |cons x r=>exact aN rfl W
  exact⟨_,rfl,q I up (hlt W)⟩
def zc7(C:aE):DSpT:=λas Q=>E4 λ(m:Nat)(E:List Nat)(L:List Int)(S:List (List Nat))=>A4 (as=[.b (oS C E L S)]) (L.length=2 * m) (m<=400000) (∀t,Q (.fz (.list ((u3 m).map λk=>.int (lf L (2 * k+1))))) t)
theorem zq5:FnScope ["self"] ["self"] (zh0 zh3):=by walk_at"sc"
theorem zma(jB:Cls K jA)(T:TopMeth K jA "amounts" "Stream.amounts" zh3)(jC:NoAttr K jA "left"):MethD P w K mg base jA "amounts" 1 ["self"] (spT K (zc7 jA)):=by
 refine zz7 jB T zq5 (by walk_at"h") (zti λas Qd h=>by obtain⟨_,_,_,_,rfl,_⟩:=h;rfl) (zm8 ?_);walk_at"g";have nd:=zq5.nd;refine⟨_,_,(zj0 (zz0 (zfu (K:=K) rfl (zu1 (K:=K) rfl (pv 0) rfl) (zsa ze0) zyi (zsa ze0)))),(zd1 (RfE.c (RfF.e (zy91 (RfP.v (zq3 jB jC (zv0 0))) (zef zc1) zij (zef zc1))))),?_⟩;rintro as Qd a ⟨m,E,L,S,rfl,p,u,q⟩;walk_at"ds";walk_at"dd";rw[zbz p];exact q _
def zv5(C:aE):DSpT:=λas Q=>E3 λ(n:Nat)(A:List Ar)(f:List Int)=>A6 (as=[.o (.ob C []),.d (nI n),.d (.list (A.map dAr)),.d (.list (f.map .int))]) (f.length=A.length) (n<=100000) (A.length<=400000) ((∀a∈A,a.1 < n/\a.2.1 < n)) (∀S,Net n A.length (zf6 A) S->Q (.fz .none) (.ob C [("ends",.li ((zf6 A).map nI)),("left",.li ((zy9 A f).map .int)),("steps",tT S)]))
theorem za5:FnScope ["self", "count", "arcs", "flow", "number", "arc"] ["self", "count", "arcs", "flow"] (zh0 zw1):=by walk_at"sc"
theorem zt9(M:Md K mg)(cT:TopCls K "Stream" jA)(T:TopMeth K jA "__init__" "Stream.__init__" zw1)(jD:mg "enumerate"=none)(jI:mg "range"=none)(jE:NoAttr K jA "ends")(jC:NoAttr K jA "left")(jF:NoAttr K jA "steps"):zhs P w K mg base "Stream" jA 1 ["self", "count", "arcs", "flow"] (spT K (zv5 jA)):=by
 have jB:=cT.cls;refine zuj M cT T za5 (by walk_at"h") (zti λas Qd h=>by obtain⟨_,_,_,rfl,_⟩:=h;rfl) (zm8 ?_);walk_at"g";have nd:=za5.nd;refine⟨_,_,(zd0 (zkd (pv 0) (zb2 zg0) rfl)
   (zd0 (zkd (pv 0) (zb2 zg0) rfl)
   (zd0 (zkd (pv 0) (zz4 (sc:=zh0 zw1) (N:=["self", "count", "arcs", "flow", "number", "arc"]) (own:=["number"]) (ix:=[]) rfl rfl rfl (by walk_at"csc") (zl2 rfl jI (za0 (pv 1) zg0)) (λ_ _ _ _=>⟨(pgn 0 (nds ["number"])),zy4,(zb2 zg0)⟩)) rfl)
   (zj0 (zo7 a8 rfl (zfa (K:=K) rfl rfl jD (za0 (pv 2) zg0)) (zr6 (K:=K) (n:=2) rfl rfl (zj1 (pgn 4 nd) (zj1 (pgn 5 nd) zz6))) (zd0 (zm2 (zn9 (K:=K) rfl ğa ğd ğe (zx4 (K:=K) rfl) (zu1 (K:=K) rfl (pv 0) rfl) (za0 (zb2 (za0 (pix w K hr (pv 5) ze0) (za0 (pix w K hr (pv 5) ze0) zg0))) zg0)))
   (zd0 (zm2 (zn9 (K:=K) rfl ğa ğd ğe (zx4 (K:=K) rfl) (zu1 (K:=K) rfl (pv 0) rfl) (za0 (zb2 (za0 (zl1 zy8 (pix w K hr (pv 5) ze0) (pix w K hr (pv 3) (pv 4))) (za0 (pix w K hr (pv 3) (pv 4)) zg0))) zg0)))
   (zd0 (zm2 (zn9 (K:=K) rfl ğa ğb ğc zd4 (pix w K hr (zu1 (K:=K) rfl (pv 0) rfl) (pix w K hr (pv 5) ze0)) (za0 (zl1 zib ze0 (pv 4)) zg0)))
   (zj0 (zm2 (zn9 (K:=K) rfl ğa ğb ğc zd4 (pix w K hr (zu1 (K:=K) rfl (pv 0) rfl) (pix w K hr (pv 5) ze0)) (za0 (zl1 (zg1 (K:=K) rfl) (zl1 zib ze0 (pv 4)) ze0) zg0)))))))))))),(zl0 (zvd jB jE (RfF.c (zd6 zk0)) (zv0 0))
   (zl0 (zvd jB jC (RfF.c (zd6 zk0)) (zv0 0))
   (zl0 (zvd jB jF (RfN.c (zqv (RfI.j (zu7 (zb0 (zi0 1) zk0))) (zo1 (i:=0) (n:=1) (by decide)) (RfF.new (zd6 zk0)))) (zv0 0))
   (zp7 (zdw (zb0 (zi0 2) zk0)) (ztb (zi1 (rgn 4) (zi1 (rgn 5) zy6))) (zl0 (zp2 (zcl zzk (zq3 jB jE (zv0 0)) (zb0 (RfF.e (zd6 (zb0 (zm0 r_ix (zc0 5) rvi) (zb0 (zm0 r_ix (zc0 5) rvi) zk0)))) zk0)))
   (zl0 (zp2 (zcl zzk (zq3 jB jC (zv0 0)) (zb0 (RfF.e (zd6 (zb0 (zm0 zgk (RfE.v (zm0 r_ix (zc0 5) rvi)) (RfE.v (zm0 r_ix (zc0 3) (zc0 4)))) (zb0 (zm0 r_ix (zc0 3) (zc0 4)) zk0)))) zk0)))
   (zl0 (zp2 (zcl zii (zs81 (zq3 jB jF (zv0 0)) (zm0 r_ix (zc0 5) rvi)) (zb0 (zm0 zl31 rvi (zc0 4)) zk0)))
   (zp2 (zcl zii (zs81 (zq3 jB jF (zv0 0)) (zm0 r_ix (zc0 5) rvi)) (zb0 (zm0 zq7 (RfE.v (zm0 zl31 rvi (zc0 4))) rvi) zk0)))))))))),?_⟩
 rintro as Qd a ⟨n,A,f,rfl,hf,hn,hA,hb,q⟩;walk_at"ds";walk_at"dn";walk_at"dn";walk_at"a";refine⟨by lia,by lia,?_⟩;rw[v6];refine zk71 (λ_=>.li []) (by rw[wO,aY];lia) (λi hi=>?_) (hJ _ ?_)
 ·walk_at"cs" <;> walk_at"dd"
 clear hJ;have e0:(u3 n).map (λ_=>(_4.T.li []:_4.T))=(vU n []).map λl=>.li (l.map nI):=by simp[List.map_const']
 rw[e0];walk_at"dd";refine⟨λi U=>E3 λS s4 s5=>A4 (i<=A.length) (szT S=2 * i) (Net n i (zf6 (A.take i)) S) (U=[.io a (.ob jA [("ends",.li ((zf6 (A.take i)).map nI)),("left",.li ((zy9 (A.take i) (f.take i)).map .int)),("steps",tT S)]),.sh (nI n),.sh (.list (A.map dAr)),.sh (.list (f.map .int)),s4,s5]),⟨vU n [],.un,.un,wH _,by simp[szT],Net.nil n,rfl⟩,?_,?_⟩
 ·rintro i d U hd ⟨S,s4,s5,hi,hsz,N,rfl⟩;obtain⟨x,hx,rfl⟩:=zck hd;rw[u9]at hx;obtain⟨u,hu,rfl⟩:=w6.mp hx;have hil:i < A.length:=by
   rcases wX i A.length with z|z
   ·exact z
   ·rw[v8 z]at hu;cases hu
  obtain⟨y,hy⟩:∃y,f[i]?=some y:=⟨f[i]'(by lia),u5 _⟩
  obtain⟨b1,b2⟩:=hb u (wK hu);have tA:A.take (i+1)=A.take i++[u]:=by rw[xI,hu];rfl
  have tF:f.take (i+1)=f.take i++[y]:=by rw[xI,hy];rfl
  have lE:(zf6 (A.take i)).length=2 * i:=N.lE;have lL:(zy9 (A.take i) (f.take i)).length=2 * i:=by
   rw[zpd (by rw[wM,wM];lia),wM];lia
  have eF:=zxl (A:=A.take i) (f:=f.take i) (a:=u) (x:=y) (by rw[wM,wM];lia);dsimp only;rw[tA,tF,zpm,eF];generalize zf6 (A.take i)=E at lE N ⊢;generalize zy9 (A.take i) (f.take i)=L at lL ⊢;rw[show dAr u=.tuple [nI u.1,nI u.2.1,.int u.2.2]from rfl];have Z:atI (f.map u6) (i:Int)=some (.int y):=zie (by lia) (by rw[v6,u9,hy];rfl);have a0:atI [nI u.1,nI u.2.1,u6 u.2.2] 0=some (nI u.1):=rfl;have a1:atI [nI u.1,nI u.2.1,u6 u.2.2] 1=some (nI u.2.1):=rfl;have a2:atI [nI u.1,nI u.2.1,u6 u.2.2] 2=some (.int u.2.2):=rfl;walk_at"dd";walk_at"a";refine⟨nI u.2.1,rfl,nI u.1,rfl,by rw[u4];lia,hJ _ ?_⟩;clear hJ;rw[show E.map nI++[nI u.2.1,nI u.1]=(E++[u.2.1,u.1]).map nI by rw[v7];rfl];walk_at"a";refine⟨_,rfl,_,Z,?_⟩;walk_at"dd";refine⟨_,Z,by rw[u4];lia,hJ _ ?_⟩;clear hJ;rw[show L.map u6++[.int (u.2.2 - y),.int y]=(L++[u.2.2 - y,y]).map .int by rw[v7];rfl];obtain⟨p,O⟩:∃p,S[u.1]?=some p:=⟨S[u.1]'(by rw[N.lS];exact b1),u5 _⟩
  obtain⟨W,I⟩:∃W,(S.set u.1 (p++[2 * i]))[u.2.1]?=some W:=⟨(S.set u.1 (p++[2 * i]))[u.2.1]'(by rw[wN,N.lS];exact b2),u5 _⟩
  have N2:=N.push b1 b2 O I;have z1:=zx21 O;have z2:=zx21 I;have z3:=zbb (p++[2 * i]) O;have z4:=zbb (W++[2 * i+1]) I;rw[vT,zJ]at z3 z4;have g1:(S.map λl=>_4.T.li (l.map nI))[u.1]?=some (_4.T.li (p.map nI)):=by rw[u9,O];rfl
  have g2:((S.set u.1 (p++[2 * i])).map λl=>_4.T.li (l.map nI))[u.2.1]?=some (_4.T.li (W.map nI)):=by rw[u9,I];rfl
  have i1:ixN (S.map λl=>_4.T.li (l.map nI)).length ((u.1:Nat):Int)=some u.1:=by rw[u4];exact zxj (by rw[N.lS];exact b1)
  have i2:ixN ((S.set u.1 (p++[2 * i])).map λl=>_4.T.li (l.map nI)).length ((u.2.1:Nat):Int)=some u.2.1:=by rw[u4,wN];exact zxj (by rw[N.lS];exact b2)
  walk_at"a";refine⟨nI u.1,rfl,u.1,_,i1,g1,rfl,zm41 i,?_⟩;walk_at"dd";refine⟨by rw[u4];lia,hJ _ ?_⟩;clear hJ;rw[g1];dsimp only;rw[show p.map nI++[u6 (2 * (i:Int))]=(p++[2 * i]).map nI by rw[v7];rfl,setT];walk_at"dd";refine⟨nI u.2.1,rfl,u.2.1,_,i2,g2,rfl,zm41 i,?_⟩;walk_at"dd";refine⟨by rw[u4];lia,_,.sh (nI i),.sh (.tuple [nI u.1,nI u.2.1,.int u.2.2]),by lia,by lia,N2,?_⟩;rw[g2];dsimp only;rw[show W.map nI++[u6 (2 * (i:Int)+1)]=(W++[2 * i+1]).map nI by rw[v7];rfl,setT];rfl
 ·rintro U ⟨S,s4,s5,hi,hsz,N,rfl⟩;rw[zqd,u4,xR]at N;rw[zqd,u4,xR,yC (by lia)];exact⟨_,rfl,q S N⟩
theorem frzT(S:List (List Nat)):(znv (S.map λl=>_4.T.li (l.map nI))).map (λp=>v5 (p.map .list))=some (dSt S):=by
 have:∀S:List (List Nat),znv (S.map λl=>_4.T.li (l.map nI))=some (S.map λl=>l.map nI):=by
  intro S
  induction S with
 |nil=>rfl
 |cons l r q=>simp only[v4,znv,q];rfl
 rw[this];simp only[Option.map_some,wF];rfl
def zjb:DSp:=λds Q=>E6 λ(n:Nat)(A:List Ar)(src p:Nat)(fl:D)(f:List Int)=>A11 (ds=[nI n,.list (A.map dAr),nI src,nI p,fl]) (((fl=.none/\f=vU A.length 0) \/ fl=.list (f.map .int))) (f.length=A.length) (n<=900) (A.length<=400000) ((∀a∈A,a.1 < n/\a.2.1 < n)) ((∀(k:Nat) a x,A[k]?=some a->f[k]?=some x->0<=x/\x<=a.2.2)) (src < n) (p < n) (src≠p) (∀(L:List Int)(side:List Nat),Best n A f src p L side->Q (.tuple [.list ((u3 A.length).map λk=>.int (lf L (2 * k+1))),.list (side.map nI)]))
theorem zfd:FnScope ["count", "arcs", "source", "sink", "flow", "stream", "levels"] ["count", "arcs", "source", "sink", "flow"] (zh0 zcb):=by walk_at"sc"
theorem zhl(M:Md K mg)(T:TopDefN K "greatest" zcb)(jL:mg "len"=none)(qQ:mg "sorted"=none)(jB:Cls K jA)(kC:MethD P w K mg base jA "levels" 2 ["self", "source"] (spT K (zw7 jA)))(kL:MethD P w K mg base jA "push_up" 3 ["self", "levels", "source", "sink"] (spT K (zq6 jA)))(kM:MethD P w K mg base jA "amounts" 1 ["self"] (spT K (zc7 jA)))(uV:zhs P w K mg base "Stream" jA 1 ["self", "count", "arcs", "flow"] (spT K (zv5 jA))):DefN P w K mg base "greatest" 4 ["count", "arcs", "source", "sink", "flow"] (spD K zjb):=by
 refine zf31 M T zfd (qs:=["count", "arcs", "source", "sink"]) rfl (λ_ _ _ _ _ _ _ us hl=>match us,hl with|[_,_,_,_,_],_=>⟨_,rfl,rfl⟩) (λ_ _ _ _ _ _ _ us hl=>match us,hl with|[_,_,_,_],_=>⟨_,rfl,rfl⟩) (zba (by walk_at"i")) (zo2 ?_);walk_at"g";have nd:=zfd.nd;refine⟨_,_,(zd0 (pset 5 nd (zfe uV (rmn hr) rfl (za0 (pv 0) (za0 (pv 1) (za0 (zqi (zr0 zia1 (pv 4) zzo (zf1 _)) (zl1 zib (zb2 (za0 ze0 zg0)) (zu0 (zk1 (K:=K) rfl) rfl jL zb6 (za0 (pv 1) zg0))) (pv 4)) zg0)))))
   (zd0 (pset 6 nd (zp6 kC (rmn hr) (pv 5) (za0 (pv 2) zg0)))
   (zd0 (zi9 a8 (zr0 (zq51 (w:=w) (K:=K) (Room.units hr) rfl rfl) (pv 3) (pv 6) (by with_unfolding_all rfl)) (zd0 (zm2 (zp6 kL (rmn hr) (pv 5) (za0 (pv 6) (za0 (pv 2) (za0 (pv 3) zg0)))))
   (zj0 (pset 6 nd (zp6 kC (rmn hr) (pv 5) (za0 (pv 2) zg0))))))
   (zj0 (zz0 (ze1 (za0 (zct kM (rmn hr) (pv 5)) (za0 (zu0 (zog (K:=K) rfl rfl) rfl qQ zrs (za0 (pv 6) zg0)) zg0)))))))),(zl0 (ze6 (RfN.c (zdk (at_d (zi0 0) (at_d (zi0 1) (at_d (zb01 (zq0 (zm0 zjg1 (zc0 4) (RfE.v zxo))) (RfF.e (zm71 (zd6 (zb0 zc1 zk0)) (zf9 zle (zw0 (zc0 1) zq1)))) (zi0 4)) zx8))))))
   (zl0 (zki 5 [.fl "steps"] (zki 5 [.fl "ends"] (ze6 (zda false (zv0 5) (at_d (zi0 2) zx8)))))
   (zl0 (zq9 (zq0 (zy31 (zi0 3) (zv0 6))) (zl0 (zp2 (zda true (zv0 5) (at_b (zv0 6) (at_d (zi0 2) (at_d (zi0 3) zx8)))))
   (ze6 (zda false (zv0 5) (at_d (zi0 2) zx8)))))
   (zd1 (RfE.c (zy1 (zb0 (RfN.ex (zj51 (zv0 5) zx8)) (zb0 (RfF.e (zmx (zv0 6))) zk0)))))))),?_⟩
 rintro ds Qd ⟨n,A,src,u,fl,f,rfl,hfl,hf,hn,hA,hb,hc,W,hs2,hss,q⟩;walk_at"ds";refine zf0 λJ hJ=>?_;have start:∀S,Net n A.length (zf6 A) S->J [.sh (nI n),.sh (.list (A.map dAr)),.sh (nI src),.sh (nI u),.sh fl,.ow (.ob jA [("ends",.li ((zf6 A).map nI)),("left",.li ((zy9 A f).map .int)),("steps",tT S)]),.un]:=λS N=>by
  walk_at"f";have Z:=zvt hf hc;walk_at"a";refine⟨_,dSt S,rfl,frzT S,_,_,rfl,rfl,?_⟩;refine⟨n,A.length,zf6 A,zy9 A f,S,src,rfl,by lia,N,Z.len,W,λz I t=>hJ _ ?_⟩;clear hJ;refine zls ?_;refine⟨λμ U=>E2 λL z=>A4 (Up A.length (zq8 A) (zf6 A) (zy9 A f) L src u) (Lev n A.length (zf6 A) L src z) (μ=(tot A.length (zq8 A) - bal A.length (zf6 A) L u).toNat) (U=[.sh (nI n),.sh (.list (A.map dAr)),.sh (nI src),.sh (nI u),.sh fl,.ow (oS jA (zf6 A) L S),.ow (.dk (kN z))]),
   ⟨_,zy9 A f,z,Up.refl Z,I,rfl,rfl⟩,?_⟩
  clear I z;rintro μ U ⟨L,z,up,I,rfl,rfl⟩;walk_at"dd";rw[zL];refine two (λht=>?_) λht=>?_
  ·walk_at"a";refine⟨n,A.length,zq8 A,zf6 A,L,S,z,src,u,rfl,by lia,by lia,N,up.cap,W,hss,I,ht,λL' up' hlt=>hJ _ ?_⟩;clear hJ;walk_at"dd";have O:=up.trans up';have hle:=zo71 (E:=zf6 A) O.cap u;refine⟨n,A.length,zf6 A,L',S,src,rfl,by lia,N,O.cap.len,W,λlv' hv' t=>⟨_,by lia,L',lv',O,hv',rfl,rfl⟩⟩
  ·refine⟨A.length,zf6 A,L,S,rfl,up.cap.len,hA,λt=>?_⟩;have hz:=zx0 n (z.map (·.1)) I.nd (λx hx=>by obtain⟨p,hp,rfl⟩:=vQ.mp hx;exact I.bd p hp);rw[u4]at hz;refine⟨z.map λp=>((p.1:Nat):Int),?_,by rw[u4];lia,λns' hp=>?_⟩
   ·unfold kN;rw[wF,wF];rfl
   ·obtain⟨side,e,b⟩:=zn51 up I (by simpa using ht) hp;rw[e];exact q L side b
 clear hJ;rcases hfl with⟨rfl,rfl⟩|rfl
 ·walk_at"dd";refine⟨by rw[u4];lia,by rw[u4];lia,by rw[u4];lia,n,A,vU A.length 0,by rw[u4,v6,show(vU A.length [u6 0]).flatten=(vU A.length 0).map .int by rw[ubM,ubN]];rfl,hf,by lia,hA,hb,λS N=>⟨trivial,start S N⟩⟩
 ·walk_at"dd";exact⟨n,A,f,rfl,hf,by lia,hA,hb,λS N=>⟨trivial,start S N⟩⟩
end
inductive Gt where
|st (x:Int)|la (x:Int) (f:Nat)|ti (x y:Int) (t:Nat)
def Gt.d:Gt->D
|.st x=>.tuple [.str "steady",.int x]
|.la x f=>.tuple [.str "late",.int x,.int (f:Int)]
|.ti x y t=>.tuple [.str "tidal",.int x,.int y,.int (t:Int)]
def Gt.at:Gt->Nat->Int
|.st x,_=>x
|.la x f,m=>if f<=m then x else 0
|.ti x y t,m=>if m % t=0 then x else y
def Gt.ob(u q p:aE):Gt->_4.T
|.st x=>.ob u [("wide",.fz (.int x))]
|.la x f=>.ob q [("wide",.fz (.int x)),("since",.fz (.int (f:Int)))]
|.ti x y t=>.ob p [("wide",.fz (.int x)),("other",.fz (.int y)),("turn",.fz (.int (t:Int)))]
def Gt.ok:Gt->Prop
|.ti _ _ t=>0 < t/\t < 1000
|_=>True
section
variable {P:aQ}{w:aR}{K:Fg}{mg:Str->Option aC}{base:aX}{jH jM jG:aE}
def zu5(C:aE):DSpT:=λas Q=>∃x:Int,as=[.o (.ob C []),.d (.int x)]/\Q (.fz .none) (.ob C [("wide",.fz (.int x))])
def zx7(C:aE):DSpT:=λas Q=>E2 λx y:Int=>as=[.o (.ob C []),.d (.int x),.d (.int y)]/\Q (.fz .none) (.ob C [("wide",.fz (.int x)),("since",.fz (.int y))])
def zf7(C:aE):DSpT:=λas Q=>E3 λx y z:Int=>as=[.o (.ob C []),.d (.int x),.d (.int y),.d (.int z)]/\Q (.fz .none) (.ob C [("wide",.fz (.int x)),("other",.fz (.int y)),("turn",.fz (.int z))])
def zv2(C:aE):DSpT:=λas Q=>E2 λ(x:Int)(m:Nat)=>as=[.b (.ob C [("wide",.fz (.int x))]),.d (.int (m:Int))]/\Q (.fz (.int (Gt.at (.st x) m))) (.fz .none)
def zp4(C:aE):DSpT:=λas Q=>E3 λ(x:Int)(f m:Nat)=>as=[.b (.ob C [("wide",.fz (.int x)),("since",.fz (.int (f:Int)))]),.d (.int (m:Int))]/\Q (.fz (.int (Gt.at (.la x f) m))) (.fz .none)
def zo3(C:aE):DSpT:=λas Q=>E4 λ(x y:Int)(t m:Nat)=>A4 (as=[.b (.ob C [("wide",.fz (.int x)),("other",.fz (.int y)),("turn",.fz (.int (t:Int)))]),.d (.int (m:Int))]) (0 < t) (t < 1000) (Q (.fz (.int (Gt.at (.ti x y t) m))) (.fz .none))
def zhk(u q p:aE):DSpT:=λas Q=>∃g:Gt,as=[.d g.d]/\Q (g.ob u q p) (.fz .none)
def zhw:DSp:=λds Q=>E2 λ(g:Gt)(m:Nat)=>A3 (ds=[g.d,.int (m:Int)]) g.ok (Q (.int (g.at m)))
theorem zs4:FnScope ["self", "wide"] ["self", "wide"] (zh0 zt2):=by walk_at"sc"
theorem zk9(M:Md K mg)(p:TopCls K "Steady" jH)(T:TopMeth K jH "__init__" "Steady.__init__" zt2)(jO:NoAttr K jH "wide"):zhs P w K mg base "Steady" jH 1 ["self", "wide"] (spT K (zu5 jH)):=by
 have jX:=p.cls;refine zuj M p T zs4 (by walk_at"h") (zti λas Qd h=>by obtain⟨_,rfl,_⟩:=h;rfl) (zm8 ?_);walk_at"g";have nd:=zs4.nd;refine⟨_,_,(zj0 (zkd (pv 0) (pv 1) rfl)),(zvd jX jO (RfE.c (zi0 1)) (zv0 0)),?_⟩;rintro as Qd a ⟨x,rfl,q⟩;walk_at"ds";walk_at"dd";exact⟨_,rfl,q⟩
theorem zm6:FnScope ["self", "wide", "since"] ["self", "wide", "since"] (zh0 zk4):=by walk_at"sc"
theorem zqb(M:Md K mg)(p:TopCls K "Late" jM)(T:TopMeth K jM "__init__" "Late.__init__" zk4)(jV:NoAttr K jM "wide")(jR:NoAttr K jM "since"):zhs P w K mg base "Late" jM 1 ["self", "wide", "since"] (spT K (zx7 jM)):=by
 have kO:=p.cls;refine zuj M p T zm6 (by walk_at"h") (zti λas Qd h=>by obtain⟨_,_,rfl,_⟩:=h;rfl) (zm8 ?_);walk_at"g";have nd:=zm6.nd;refine⟨_,_,(zd0 (zkd (pv 0) (pv 1) rfl)
   (zj0 (zkd (pv 0) (pv 2) rfl))),(zl0 (zvd kO jV (RfE.c (zi0 1)) (zv0 0))
   (zvd kO jR (RfE.c (zi0 2)) (zv0 0))),?_⟩
 rintro as Qd a ⟨x,y,rfl,q⟩;walk_at"ds";walk_at"dn";walk_at"dd";exact⟨_,rfl,q⟩
theorem zx5:FnScope ["self", "wide", "other", "turn"] ["self", "wide", "other", "turn"] (zh0 zg3):=by walk_at"sc"
theorem zna(M:Md K mg)(p:TopCls K "Tidal" jG)(T:TopMeth K jG "__init__" "Tidal.__init__" zg3)(jS:NoAttr K jG "wide")(jP:NoAttr K jG "other")(jT:NoAttr K jG "turn"):zhs P w K mg base "Tidal" jG 1 ["self", "wide", "other", "turn"] (spT K (zf7 jG)):=by
 have jW:=p.cls;refine zuj M p T zx5 (by walk_at"h") (zti λas Qd h=>by obtain⟨_,_,_,rfl,_⟩:=h;rfl) (zm8 ?_);walk_at"g";have nd:=zx5.nd;refine⟨_,_,(zd0 (zkd (pv 0) (pv 1) rfl)
   (zd0 (zkd (pv 0) (pv 2) rfl)
   (zj0 (zkd (pv 0) (pv 3) rfl)))),(zl0 (zvd jW jS (RfE.c (zi0 1)) (zv0 0))
   (zl0 (zvd jW jP (RfE.c (zi0 2)) (zv0 0))
   (zvd jW jT (RfE.c (zi0 3)) (zv0 0)))),?_⟩
 rintro as Qd a ⟨x,y,z,rfl,q⟩;walk_at"ds";walk_at"dn";walk_at"dn";walk_at"dd";exact⟨_,rfl,q⟩
theorem zt4:FnScope ["self", "moment"] ["self", "moment"] (zh0 zs2):=by walk_at"sc"
theorem zg9(jX:Cls K jH)(T:TopMeth K jH "width_at" "Steady.width_at" zs2)(jO:NoAttr K jH "wide"):MethD P w K mg base jH "width_at" 1 ["self", "moment"] (spT K (zv2 jH)):=by
 refine zz7 jX T zt4 (by walk_at"h") (zti λas Qd h=>by obtain⟨_,_,rfl,_⟩:=h;rfl) (zm8 ?_);walk_at"g";have nd:=zt4.nd;refine⟨_,_,(zj0 (zz0 (zu1 (K:=K) rfl (pv 0) rfl))),(zd1 (RfE.c (RfP.e (zq3 jX jO (zv0 0))))),?_⟩;rintro as Qd a ⟨x,m,rfl,q⟩;walk_at"ds";walk_at"dd";exact q
theorem zx6:FnScope ["self", "moment"] ["self", "moment"] (zh0 zr4):=by walk_at"sc"
theorem zob(kO:Cls K jM)(T:TopMeth K jM "width_at" "Late.width_at" zr4)(jV:NoAttr K jM "wide")(jR:NoAttr K jM "since"):MethD P w K mg base jM "width_at" 1 ["self", "moment"] (spT K (zp4 jM)):=by
 refine zz7 kO T zx6 (by walk_at"h") (zti λas Qd h=>by obtain⟨_,_,_,rfl,_⟩:=h;rfl) (zm8 ?_);walk_at"g";have nd:=zx6.nd;refine⟨_,_,(zj0 (zz0 (zqi (zr0 zq81 (pv 1) (zu1 (K:=K) rfl (pv 0) rfl) (zf1 _)) (zu1 (K:=K) rfl (pv 0) rfl) ze0))),(zd1 (RfE.c (zb01 (zq0 (zm0 r_ge (zc0 1) (RfP.v (zq3 kO jR (zv0 0))))) (RfP.e (zq3 kO jV (zv0 0))) zc1))),?_⟩;rintro as Qd a ⟨x,f,m,rfl,q⟩;walk_at"ds";walk_at"dd";have q:Qd (.fz (.int (if f<=m then x else 0))) (.fz .none):=q;refine two (λh=>?_) λh=>?_
 ·rw[aF (by lia)]at q;exact q
 ·rw[aA (by lia)]at q;exact q
theorem zt5:FnScope ["self", "moment"] ["self", "moment"] (zh0 zi3):=by walk_at"sc"
theorem zla(jW:Cls K jG)(T:TopMeth K jG "width_at" "Tidal.width_at" zi3)(jS:NoAttr K jG "wide")(jP:NoAttr K jG "other")(jT:NoAttr K jG "turn"):MethD P w K mg base jG "width_at" 1 ["self", "moment"] (spT K (zo3 jG)):=by
 refine zz7 jW T zt5 (by walk_at"h") (zti λas Qd h=>by obtain⟨_,_,_,_,rfl,_⟩:=h;rfl) (zm8 ?_);walk_at"g";have nd:=zt5.nd;refine⟨_,_,(zj0 (zz0 (zqi (zr0 (zo5 (K:=K) rfl (Room.units hr)) (zl1 zu4 (pv 1) (zu1 (K:=K) rfl (pv 0) rfl)) ze0 (zf1 _)) (zu1 (K:=K) rfl (pv 0) rfl) (zu1 (K:=K) rfl (pv 0) rfl)))),(zd1 (RfE.c (zb01 (zq0 (zz1 q_eq (RfV.h (RfE.v (zm0 zic (zc0 1) (RfP.v (zq3 jW jT (zv0 0)))))) (RfV.h rvi))) (RfP.e (zq3 jW jS (zv0 0))) (RfP.e (zq3 jW jP (zv0 0)))))),?_⟩;rintro as Qd a ⟨x,y,t,m,rfl,u,p,q⟩;walk_at"ds";walk_at"dd";have q:Qd (.fz (.int (if m % t=0 then x else y))) (.fz .none):=q;have e:((m:Int) % (t:Int)=0) ↔ m % t=0:=by rw[<- Int.natCast_emod];lia
 refine⟨by lia,two (λh=>?_) λh=>?_⟩
 ·rw[aF (e.mp h)]at q;exact q
 ·rw[aA (λz=>h (e.mpr z))]at q;exact q
theorem zsf:FnScope ["gate"] ["gate"] (zh0 zgd):=by walk_at"sc"
theorem zco(M:Md K mg)(T:TopDef K "gate_of" zgd)(u:zhs P w K mg base "Tidal" jG 1 ["self", "wide", "other", "turn"] (spT K (zf7 jG)))(z:zhs P w K mg base "Steady" jH 1 ["self", "wide"] (spT K (zu5 jH)))(p:zhs P w K mg base "Late" jM 1 ["self", "wide", "since"] (spT K (zx7 jM))):Def P w K mg base "gate_of" 3 ["gate"] (spT K (zhk jH jM jG)):=by
 refine zn2 M T zsf (by walk_at"h") (zti λas Qd h=>by obtain⟨_,rfl,_⟩:=h;rfl) (zm8 ?_);walk_at"g";have nd:=zsf.nd;refine⟨_,_,(zd0 (zm7 (zr0 (zo5 (K:=K) rfl (Room.units hr)) (pix w K hr (pv 0) ze0) zy5 (zf1 _)) (zj0 (zz0 (zfe z (rmn hr) rfl (za0 (pix w K hr (pv 0) ze0) zg0)))) zm1)
   (zd0 (zm7 (zr0 (zo5 (K:=K) rfl (Room.units hr)) (pix w K hr (pv 0) ze0) zy5 (zf1 _)) (zj0 (zz0 (zfe p (rmn hr) rfl (za0 (pix w K hr (pv 0) ze0) (za0 (pix w K hr (pv 0) ze0) zg0))))) zm1)
   (zj0 (zz0 (zfe u (rmn hr) rfl (za0 (pix w K hr (pv 0) ze0) (za0 (pix w K hr (pv 0) ze0) (za0 (pix w K hr (pv 0) ze0) zg0)))))))),(zl0 (zj7 (zq0 (zz1 q_eq (RfV.h (RfE.v (zm0 r_ix (zc0 0) rvi))) (RfV.h (RfE.v zc6)))) (zd1 (RfN.c (zdk (at_d (zm0 r_ix (zc0 0) rvi) zx8)))) zn1)
   (zl0 (zj7 (zq0 (zz1 q_eq (RfV.h (RfE.v (zm0 r_ix (zc0 0) rvi))) (RfV.h (RfE.v zc6)))) (zd1 (RfN.c (zdk (at_d (zm0 r_ix (zc0 0) rvi) (at_d (zm0 r_ix (zc0 0) rvi) zx8))))) zn1)
   (zd1 (RfN.c (zdk (at_d (zm0 r_ix (zc0 0) rvi) (at_d (zm0 r_ix (zc0 0) rvi) (at_d (zm0 r_ix (zc0 0) rvi) zx8)))))))),?_⟩
 rintro as Qd a ⟨g,rfl,q⟩;cases g with
|st x =>
  unfold Gt.d;walk_at"ds";walk_at"a";walk_at"k";exact⟨_,rfl,x,rfl,trivial,q⟩
|la x f =>
  unfold Gt.d;walk_at"ds";walk_at"a";walk_at"k";rw[aA (by decide +kernel)];walk_at"b";walk_at"k";exact⟨_,rfl,_,rfl,x,f,rfl,trivial,q⟩
|ti x y t =>
  unfold Gt.d;walk_at"ds";walk_at"a";walk_at"k";rw[aA (by decide +kernel)];walk_at"b";walk_at"k";rw[aA (by decide +kernel)];walk_at"f";walk_at"dd";exact⟨_,rfl,_,rfl,_,rfl,x,y,t,rfl,trivial,q⟩
theorem zlm:FnScope ["gate", "moment"] ["gate", "moment"] (zh0 zmr):=by walk_at"sc"
theorem zoy(M:Md K mg)(T:TopDef K "width" zmr)(p:Def P w K mg base "gate_of" 3 ["gate"] (spT K (zhk jH jM jG)))(kO:Cls K jM)(jX:Cls K jH)(jW:Cls K jG)(I:MethD P w K mg base jH "width_at" 1 ["self", "moment"] (spT K (zv2 jH)))(u:MethD P w K mg base jM "width_at" 1 ["self", "moment"] (spT K (zp4 jM)))(z:MethD P w K mg base jG "width_at" 1 ["self", "moment"] (spT K (zo3 jG))):Def P w K mg base "width" 4 ["gate", "moment"] (spD K zhw):=by
 refine zn2 M T zlm (by walk_at"h") (zba (by walk_at"i")) (zo2 ?_);walk_at"g";have nd:=zlm.nd;refine⟨_,_,(zj0 (zz0 (zx01 (P:=P) (w:=w) (K:=K) (mg:=mg) (base:=base) (k:=1) rfl rfl rfl rfl rfl (rmn hr) (zo0 p (rmn hr) rfl (za0 (pv 0) zg0)) (za0 (pv 1) zg0)))),(zd1 (RfE.c (RfN.ex (zfz (tab:=[(jH,(zv2 jH)),(jM,(zp4 jM)),(jG,(zo3 jG))]) (tab3 ⟨_,I⟩ ⟨_,u⟩ ⟨_,z⟩) (zw71 (at_d (zi0 0) zx8)) (zb0 (zi0 1) zk0))))),?_⟩;rintro ds Qd ⟨g,m,rfl,ok,q⟩;walk_at"ds";walk_at"dd";refine⟨g,rfl,?_⟩;cases g with
|st x =>
  unfold Gt.ob;walk_at"dd";exact⟨_,wJ,x,m,rfl,q⟩
|la x f =>
  unfold Gt.ob;walk_at"dd";exact⟨_,wA _ wJ,x,f,m,rfl,q⟩
|ti x y t =>
  unfold Gt.ob;walk_at"dd";exact⟨_,wA _ (wA _ wJ),x,y,t,m,rfl,ok.1,ok.2,q⟩
end
structure Pi where
 u:Nat
 v:Nat
 len:Nat
 pr:Int
 g:Gt
def Pi.d(p:Pi):D:=.tuple [.int (p.u:Int),.int (p.v:Int),.int (p.len:Int),.int p.pr,p.g.d]
structure Va where
 nm:Str
 room:Int
 fill:Int
def Va.d(v:Va):D:=.tuple [.str v.nm,.int v.room,.int v.fill]
structure Le where
 t:Nat
 at_:Nat
 am:Int
def Le.d(l:Le):D:=.tuple [.int (l.t:Int),.int (l.at_:Int),.int l.am]
def pl(ps:List Pi)(i:Nat):Nat:=((ps[i]?).map Pi.len).getD 0
def zp1(ps:List Pi)(i:Nat):Nat:=((ps[i]?).map Pi.u).getD 0
def za6(ps:List Pi)(i:Nat):Nat:=(ps[i]?).map Pi.v |>.getD 0
def zl5(ps:List Pi)(i t:Nat):Int:=((ps[i]?).map λp=>p.g.at t).getD 0
def Gt.okk(g:Gt):Prop:=g.ok/\∀m,0<=g.at m
def PiOk(n:Nat)(p:Pi):Prop:=p.u < n/\p.v < n/\1<=p.len/\g_le p.len/\p.g.okk
where g_le (l:Nat):Prop:=l<=20
def dY(vs:List Va)(ps:List Pi):D:=.tuple [.list (vs.map Va.d),.list (ps.map Pi.d)]
theorem zjp{α:Type}(l:List α)(t:Nat):cutG l (some (t:Int)) none=l.drop t:=by
 unfold cutG;rw[HT.sIx_nat,HT.sIx_none,yC (by rw[yJ];lia)];by_cases h:t<=l.length
 ·rw[zM h]
 ·rw[uaI (by lia),ubO (u7 _),ubO (by lia)]
theorem zk11{α:Type}(l:List α)(t:Nat):cutG l none (some (t:Int))=l.take t:=by
 unfold cutG;rw[HT.sIx_nat,HT.sIx_none,List.drop_zero,Nat.sub_zero];by_cases h:t<=l.length
 ·rw[zM h]
 ·rw[uaI (by lia),yC (u7 _),yC (by lia)]
def zrp:DSp:=λds Q=>E4 λ(vs:List Va)(r:D)(m v:Nat)=>A4 (ds=[.tuple [.list (vs.map Va.d),r],nI m,nI v]) (m<=100) (vs.length<=100) (Q (nI (2+m * vs.length+v)))
def zu21:DSp:=λds Q=>E3 λ(vs:List Va)(r:D)(n:Nat)=>A4 (ds=[.tuple [.list (vs.map Va.d),r],nI n]) (1<=vs.length) (vs.length<=100) (Q (.tuple [.int (((n:Int) - 2) / (vs.length:Int)),.int (((n:Int) - 2) % (vs.length:Int))]))
section
variable {P:aQ}{w:aR}{K:Fg}{mg:Str->Option aC}{base:aX}
theorem ztv:FnScope ["yard", "moment", "vat"] ["yard", "moment", "vat"] (zh0 ztz):=by walk_at"sc"
theorem zc31(M:Md K mg)(T:TopDef K "node" ztz)(jL:mg "len"=none):Def P w K mg base "node" 1 ["yard", "moment", "vat"] (spD K zrp):=by
 refine zn2 M T ztv (by walk_at"h") (zba (by walk_at"i")) (zo2 ?_);walk_at"g";have nd:=ztv.nd;refine⟨_,_,(zj0 (zz0 (zl1 (zg1 (K:=K) rfl) (zl1 (zg1 (K:=K) rfl) ze0 (zl1 zib (pv 1) (zu0 (zk1 (K:=K) rfl) rfl jL zb6 (za0 (pix w K hr (pv 0) ze0) zg0)))) (pv 2)))),(zd1 (RfE.c (zm0 zq7 (RfE.v (zm0 zq7 rvi (RfE.v (zm0 zl31 (zc0 1) (RfE.v (zf9 zle (zw0 (RfE.v (zm0 r_ix (zc0 0) rvi)) zq1))))))) (zc0 2)))),?_⟩;rintro ds Qd ⟨vs,r,m,v,rfl,u,p,q⟩;walk_at"ds";walk_at"dd";walk_at"k";rw[u4];refine⟨.inl ⟨by lia,by lia⟩,?_⟩;have e:(2:Int)+(m:Int) * (vs.length:Int)+(v:Int)=((2+m * vs.length+v:Nat):Int):=by simp
 rw[e];exact q
theorem zov:FnScope ["yard", "number"] ["yard", "number"] (zh0 zf01):=by walk_at"sc"
theorem zn71(M:Md K mg)(T:TopDef K "spot" zf01)(qR:mg "divmod"=none)(jL:mg "len"=none):Def P w K mg base "spot" 1 ["yard", "number"] (spD K zu21):=by
 refine zn2 M T zov (by walk_at"h") (zba (by walk_at"i")) (zo2 ?_);walk_at"g";have nd:=zov.nd;refine⟨_,_,(zj0 (zz0 (zu0 zng rfl qR zeu (za0 (zl1 zy8 (pv 1) ze0) (za0 (zu0 (zk1 (K:=K) rfl) rfl jL zb6 (za0 (pix w K hr (pv 0) ze0) zg0)) zg0))))),(zd1 (RfE.c (zf9 zxz (zw0 (RfE.v (zm0 zgk (zc0 1) rvi)) (zw0 (RfE.v (zf9 zle (zw0 (RfE.v (zm0 r_ix (zc0 0) rvi)) zq1))) zq1))))),?_⟩;rintro ds Qd ⟨vs,r,n,rfl,u,p,q⟩;walk_at"ds";walk_at"dd";walk_at"k";rw[u4];exact⟨by lia,by lia,q⟩
end
def pb(ps:List Pi)(m n:Nat):List Nat:=(ps.mapIdx λi p=>(i,p)).filterMap λx=>if m+x.2.len<=n then some x.1 else none
def zab:DSp:=λds Q=>E4 λ(vs:List Va)(ps:List Pi)(m n:Nat)=>A3 (ds=[.tuple [.list (vs.map Va.d),.list (ps.map Pi.d)],.int (m:Int),.int (n:Int)]) (ps.length<=24) (Q (.list ((pb ps m n).map λk:Nat=>u6 (k:Int))))
theorem zwk(ps:List Pi)(m n:Nat):(pb ps m n).length<=ps.length:=by
 unfold pb;exact wL (zZ _ _) (by simp)
def blk(ps:List Pi)(n:Nat)(R:Nat->List Int)(G:Nat->Nat->Int)(m:Nat):List Int:=R m++(pb ps m n).map (G m)
def zdb(ps:List Pi)(n:Nat)(A:List Int)(R:Nat->List Int)(G:Nat->Nat->Int)(k:Nat):List Int:=A++((u3 k).map (blk ps n R G)).flatten
theorem zu8(ps:List Pi)(n:Nat)(A:List Int)(R:Nat->List Int)(G:Nat->Nat->Int)(k:Nat):zdb ps n A R G (k+1)=zdb ps n A R G k++blk ps n R G k:=by
 unfold zdb;rw[wV,v7,ubP,<- vW];simp
theorem zkk(ps:List Pi)(n:Nat)(A:List Int)(R:Nat->List Int)(G:Nat->Nat->Int)(k:Nat):∀d,∃post,zdb ps n A R G (k+d)=zdb ps n A R G k++post
|0=>⟨[],by simp⟩
|d+1=>by
  obtain⟨post,h⟩:=zkk ps n A R G k d;exact⟨post++blk ps n R G (k+d),by rw[<- k8,zu8,h,vW]⟩
theorem zh11{ps:List Pi}{A T:List Int}{R:Nat->List Int}{j:Nat}(u:m < n)(q:(pb ps m n)[j]?=some i):(zdb ps n A R G n++T)[(zdb ps n A R G m).length+(R m).length+j]?=some (G m i):=by
 obtain⟨post,h⟩:=zkk ps n A R G (m+1) (n - (m+1));rw[show m+1+(n - (m+1))=n by lia,zu8]at h;rw[h];unfold blk;have p:=(wG.mp q).1;rw[show zdb ps n A R G m++(R m++(pb ps m n).map (G m))++post++T=(zdb ps n A R G m++R m)++((pb ps m n).map (G m)++(post++T)) by simp only[vW]];rw[wR (by rw[vT];lia),vT,show(zdb ps n A R G m).length+(R m).length+j - ((zdb ps n A R G m).length+(R m).length)=j by lia,wU (by simpa using p),u9,q];rfl
def pmL(G:Nat->Nat->Int)(m:Nat)(is:List Nat):List Le:=is.filterMap λi=>if 0 < G m i then some ⟨m,i,G m i⟩else none
def ze3(ps:List Pi)(n:Nat)(G:Nat->Nat->Int)(k:Nat):List Le:=((u3 k).map λm=>pmL G m (pb ps m n)).flatten
theorem zsb(ps:List Pi)(n:Nat)(G:Nat->Nat->Int)(k:Nat):ze3 ps n G (k+1)=ze3 ps n G k++pmL G k (pb ps k n):=by
 unfold ze3;rw[wV,v7,ubP];simp
theorem zwz{j:Nat}{is:List Nat}(h:is[j]?=some i):pmL G m (is.take (j+1))=pmL G m (is.take j)++(if 0 < G m i then [⟨m,i,G m i⟩]else []):=by
 unfold pmL;rw[xI,h,z7];congr 1;by_cases z:0 < G m i
 ·simp[z]
 ·simp[z]
theorem zwu(G:Nat->Nat->Int)(m:Nat)(is:List Nat):(pmL G m is).length<=is.length:=zZ _ _
theorem zzi(ps:List Pi)(n:Nat)(G:Nat->Nat->Int)(h:ps.length<=24):∀k,(ze3 ps n G k).length<=24 * k
|0=>by simp[ze3]
|k+1=>by
  have p:=zzi ps n G h k;have u:=zwu G k (pb ps k n);have q:=zwk ps k n;rw[zsb,vT];lia
def zik:DSp:=λds Q=>E7 λ(vs:List Va)(ps:List Pi)(n:Nat)(A T:List Int)(R:Nat->List Int)(G:Nat->Nat->Int)=>A7 (ds=[.tuple [.list (vs.map Va.d),.list (ps.map Pi.d)],.int (n:Int),.list ((zdb ps n A R G n++T).map .int)]) (vs.length<=12) (ps.length<=24) (n<=60) (A.length=vs.length) ((∀m,m < n->(R m).length=vs.length)) (Q (.list ((ze3 ps n G n).map Le.d)))
section
variable {P:aQ}{w:aR}{K:Fg}{mg:Str->Option aC}{base:aX}
theorem zuc:FnScope ["yard", "moment", "until"] ["yard", "moment", "until"] (zh0 zr8):=by walk_at"sc"
theorem zil(M:Md K mg)(T:TopDef K "pipes_by" zr8)(jD:mg "enumerate"=none):Def P w K mg base "pipes_by" 1 ["yard", "moment", "until"] (spD K zab):=by
 refine zn2 M T zuc (by walk_at"h") (zba (by walk_at"i")) (zo2 ?_);walk_at"g";have nd:=zuc.nd;refine⟨_,_,(zj0 (zz0 (zz4 (sc:=zh0 zr8) (N:=["yard", "moment", "until"]) (own:=["number", "pipe"]) (ix:=[2,1]) rfl rfl rfl (by walk_at"csc") (zfa (K:=K) rfl rfl jD (za0 (pix w K hr (pv 0) ze0) zg0)) (λ_ _ _ _=>⟨(zr6 (K:=K) (n:=2) rfl rfl (zj1 (pgn 0 (nds ["number", "pipe", "until", "moment"])) (zj1 (pgn 1 (nds ["number", "pipe", "until", "moment"])) zz6))),(zwe (zr0 zg91 (zl1 (zg1 (K:=K) rfl) (pv 3) (pix w K hr (pv 1) ze0)) (pv 2) (zf1 _))),(pv 0)⟩)))),(zd1 (RfF.c (zx2 (zrc (zw0 (RfE.v (zm0 r_ix (zc0 0) rvi)) zq1)) (ztb (zi1 (zo1 (i:=0) (n:=2) (by decide)) (zi1 (zo1 (i:=1) (n:=2) (by decide)) zy6))) (zq0 (zm0 r_le (RfE.v (zm0 zq7 (zc0 3) (RfE.v (zm0 r_ix (zc0 1) rvi)))) (zc0 2))) (zi0 0)))),?_⟩;rintro ds Qd ⟨vs,ps,m,n,rfl,u,q⟩;walk_at"ds";walk_at"dd";walk_at"k";rw[zk5];refine zo21 (λx=>if m+x.2.len<=n then some (.int (x.1:Int))else none) (by rw[aY,yW];lia) (λx z=>?_) ?_
 ·obtain⟨i,p⟩:=x;unfold Pi.d;walk_at"cs";walk_at"dd";walk_at"k";refine two (λh=>?_) λh=>?_
  ·rw[aF (by lia)]
  ·rw[aA (by lia)]
 ·unfold pb at q;rw[List.map_filterMap]at q;refine(congrArg (λl=>Qd (.list l)) ?_).mp q;congr 1;funext x;split <;> rfl
theorem zqf:FnScope ["yard", "until", "flow", "plan", "place", "moment", "pipe"] ["yard", "until", "flow"] (zh0 ztd):=by walk_at"sc"
theorem zwp(M:Md K mg)(T:TopDef K "plan_of" ztd)(jL:mg "len"=none)(jI:mg "range"=none)(kR:Def P w K mg base "pipes_by" 1 ["yard", "moment", "until"] (spD K zab)):Def P w K mg base "plan_of" 2 ["yard", "until", "flow"] (spD K zik):=by
 refine zn2 M T zqf (by walk_at"h") (zba (by walk_at"i")) (zo2 ?_);walk_at"g";have nd:=zqf.nd;refine⟨_,_,(zd0 (pset 3 nd (zb2 zg0))
   (zd0 (pset 4 nd (zu0 (zk1 (K:=K) rfl) rfl jL zb6 (za0 (pix w K hr (pv 0) ze0) zg0)))
   (zd0 (zo7 a8 rfl (zl2 rfl jI (za0 (pv 1) zg0)) (pgn 5 nd) (zd0 (zve (i:=4) nd rfl (by first|exact xW rfl|exact xP rfl) (zu0 (zk1 (K:=K) rfl) rfl jL zb6 (za0 (pix w K hr (pv 0) ze0) zg0)) zbl)
   (zj0 (zo7 a8 rfl (pi_W (K:=K) rfl (zo0 kR (rmn hr) rfl (za0 (pv 0) (za0 (pv 5) (za0 (pv 1) zg0))))) (pgn 6 nd) (zd0 (zm7 (zr0 zbw (pix w K hr (pv 2) (pv 4)) ze0 (zf1 _)) (zj0 (zm2 (zn9 (K:=K) rfl ğa ğb ğc zd4 (pv 3) (za0 (ze1 (za0 (pv 5) (za0 (pv 6) (za0 (pix w K hr (pv 2) (pv 4)) zg0)))) zg0)))) zm1)
   (zj0 (zve (i:=4) nd rfl (by first|exact xW rfl|exact xP rfl) ze0 zbl)))))))
   (zj0 (zz0 (pv 3)))))),(zl0 (ze6 (RfF.c (zd6 zk0)))
   (zl0 (za1 (zf9 zle (zw0 (RfE.v (zm0 r_ix (zc0 0) rvi)) zq1)) (rgn 4))
   (zl0 (zp7 (zu7 (zb0 (zi0 1) zk0)) (rgn 5) (zl0 (zse (zf9 zle (zw0 (RfE.v (zm0 r_ix (zc0 0) rvi)) zq1)))
   (zp7 (zgv (zs0 (zb0 (zi0 0) (zb0 (zi0 5) (zb0 (zi0 1) zk0))))) (rgn 6) (zl0 (zj7 (zq0 (zm0 r_gt (RfE.v (zm0 r_ix (zc0 2) (zc0 4))) rvi)) (zp2 (zcl zii (zv0 3) (zb0 (zy1 (zb0 (zi0 5) (zb0 (zi0 6) (zb0 (zm0 r_ix (zc0 2) (zc0 4)) zk0)))) zk0))) zn1)
   (zse zc1)))))
   (zqc (i:=3))))),?_⟩
 rintro ds Qd ⟨vs,ps,n,A,T,R,G,rfl,h12,I,hn,hA,W,q⟩;generalize hF:zdb ps n A R G n++T=F;walk_at"ds";walk_at"a";walk_at"b";walk_at"k";rw[u4];walk_at"b";rw[v6];unfold rngD;have O:∀k,k<=n->(zdb ps n A R G k).length<=12+36 * k:=λk=>by
  induction k with
 |zero=>intro _;unfold zdb;simp;lia
 |succ k ih =>
   intro hk;have i1:=ih (by lia);have i2:=W k (by lia);have i3:=zwk ps k n;rw[zu8,vT];unfold blk;rw[vT,u4];lia
 refine⟨by lia,by lia,zn3 (λi U=>E2 λs5 p:Sl=>U=[.sh (.tuple [.list (vs.map Va.d),.list (ps.map Pi.d)]),.sh (.int (n:Int)),.sh (.list (F.map .int)),.ow (.li ((ze3 ps n G i).map Le.d)),.sh (.int ((zdb ps n A R G i).length:Int)),s5,p]) ⟨.un,.un,by unfold zdb;simp[ze3,hA]⟩ ?_ ?_⟩
 ·rintro i m U hm ⟨s5,p,rfl⟩;obtain⟨hi,u⟩:=wG.mp hm;simp at hi u;subst u;rw[show(0:Int)+(i:Int)=(i:Int) by lia];have hfl:=O i (by lia);have hpl:=zzi ps n G I i;have hpb:=zwk ps i n;walk_at"dd";walk_at"a";walk_at"k";rw[u4];walk_at"f";walk_at"dd";refine⟨vs,ps,i,n,rfl,I,?_⟩;walk_at"dd";refine zn3 (λj U=>∃p:Sl,U=[.sh (.tuple [.list (vs.map Va.d),.list (ps.map Pi.d)]),.sh (.int (n:Int)),.sh (.list (F.map .int)),.ow (.li ((ze3 ps n G i++pmL G i ((pb ps i n).take j)).map Le.d)),.sh (.int (((zdb ps n A R G i).length+(R i).length+j:Nat):Int)),.sh (.int (i:Int)),p]) ⟨p,?_⟩ ?_ ?_
  ·rw[W i hi];simp[pmL]
  ·rintro j x U S ⟨p,rfl⟩;have hjl:=(wG.mp S).1;have gx:=zh11 (A:=A) (T:=T) (R:=R) (G:=G) hi S;rw[hF]at gx;have hRi:=W i hi;have Z:atI (F.map u6) (((zdb ps n A R G i).length+(R i).length+j:Nat):Int)=some (.int (G i x)):=zie (by lia) (by rw[v6,u9,gx];rfl);have hpm:=zwu G i ((pb ps i n).take j);rw[wM]at hpm;rw[zwz S];walk_at"dd";generalize hN:(zdb ps n A R G i).length+(R i).length+j=N at Z;rw[show(zdb ps n A R G i).length+(R i).length+(j+1)=N+1 by lia];walk_at"a";refine⟨_,Z,?_⟩;walk_at"dd";refine two (λz=>?_) λz=>?_
   ·refine⟨_,Z,?_⟩;refine⟨by rw[u4,vT];lia,hJ _ ?_⟩;clear hJ;walk_at"dd";rw[aF z];refine⟨.sh (.int (x:Int)),?_⟩;rw[<- vW,v7 (l₂:=[_])];rfl
   ·walk_at"f";walk_at"dd";rw[aA z];refine⟨.sh (.int (x:Int)),?_⟩;rw[wQ];rfl
  ·rintro U ⟨p,rfl⟩;rw[xR,zsb,zu8];refine⟨.sh (.int (i:Int)),p,?_⟩;unfold blk;rw[vT,vT,u4,<- k8]
 ·rintro U ⟨s5,p,rfl⟩;rw[wO];walk_at"f";walk_at"dd";exact q
end
def pbJ(ps:List Pi)(m n j:Nat):List Nat:=((ps.mapIdx λi p=>(i,p)).take j).filterMap λx=>if m+x.2.len<=n then some x.1 else none
theorem znc(ps:List Pi)(m n:Nat):pbJ ps m n ps.length=pb ps m n:=by
 unfold pbJ pb;rw[yC (by simp)]
theorem zjx{ps:List Pi}{j:Nat}{p:Pi}(h:ps[j]?=some p):pbJ ps m n (j+1)=pbJ ps m n j++(if m+p.len<=n then [j]else []):=by
 unfold pbJ;rw[xI,xQ,h,z7];congr 1;by_cases e:m+p.len<=n <;> simp[e]
theorem zbh(ps:List Pi)(m n:Nat):∀j,j<=ps.length->(pbJ ps m n j).Nodup/\∀i∈pbJ ps m n j,i < j/\m+pl ps i<=n
|0,_=>⟨by simp[pbJ],λi hi=>by simp[pbJ]at hi⟩
|j+1,h=>by
  obtain⟨q,p⟩:=zbh ps m n j (by lia);have e:ps[j]?=some ps[j]:=u5 (by lia);rw[zjx e];by_cases c:m+ps[j].len<=n
  ·rw[aF c];refine⟨?_,λi hi=>?_⟩
   ·rw[wS];refine⟨q,by simp,λa B b u z=>?_⟩;simp at u;have:=(p a B).1;lia
   ·rcases vV.mp hi with z|z
    ·exact⟨by have:=(p i z).1;lia,(p i z).2⟩
    ·simp at z;subst z;exact⟨by lia,by unfold pl;rw[e];exact c⟩
  ·rw[aA c,wQ];exact⟨q,λi hi=>⟨by have:=(p i hi).1;lia,(p i hi).2⟩⟩
def ntOf(vs:List Va)(ps:List Pi)(n:Nat):Nt:=⟨vs.length,n,λk=>((vs[k]?).map Va.fill).getD 0,λk=>((vs[k]?).map Va.room).getD 0,λm=>pb ps m n,zp1 ps,za6 ps,pl ps,λi m=>zl5 ps i m⟩
theorem za41{vs:List Va}{ps:List Pi}(h:∀p∈ps,PiOk vs.length p):(ntOf vs ps n).Ok:=by
 have a:∀m,∀i∈pb ps m n,i < ps.length/\m+pl ps i<=n:=λm i hi=>by rw[<- znc]at hi;exact(zbh ps m n _ (u7 _)).2 i hi
 have b:∀i,i < ps.length->zp1 ps i < vs.length/\za6 ps i < vs.length/\1<=pl ps i:=λi hi=>by
  unfold zp1 za6 pl;rw[u5 hi];obtain⟨z,u,q,_⟩:=h _ (xF hi);exact⟨z,u,q⟩
 exact⟨λm=>by show(pb ps m n).Nodup;rw[<- znc];exact(zbh ps m n _ (u7 _)).1,λm i hi=>(b i (a m i hi).1).1,λm i hi=>(b i (a m i hi).1).2.1,λm i hi=>⟨(b i (a m i hi).1).2.2,(a m i hi).2⟩⟩
def zak(vs:List Va)(ps:List Pi)(n k:Nat):List Ar:=(u3 vs.length).map (λj=>(0,(ntOf vs ps n).nd 0 j,(ntOf vs ps n).fl j))++(u3 k).flatMap λm=>(u3 vs.length).map (λj=>((ntOf vs ps n).nd m j,(ntOf vs ps n).nd (m+1) j,(ntOf vs ps n).rm j))++(pb ps m n).map λi=>((ntOf vs ps n).nd m (zp1 ps i),(ntOf vs ps n).nd (m+pl ps i) (za6 ps i),zl5 ps i m)
theorem ztn(vs:List Va)(ps:List Pi)(n k:Nat):zak vs ps n (k+1)=zak vs ps n k++(u3 vs.length).map (λj=>((ntOf vs ps n).nd k j,(ntOf vs ps n).nd (k+1) j,(ntOf vs ps n).rm j))++(pb ps k n).map λi=>((ntOf vs ps n).nd k (zp1 ps i),(ntOf vs ps n).nd (k+pl ps i) (za6 ps i),zl5 ps i k):=by
 unfold zak;rw[wV,k7];simp
def csOf(vs:List Va)(ws:List Int):List (Nat->Int):=[λk=>ws.getD k 0,λk=>((vs[k]?).map Va.room).getD 0 - ws.getD k 0]
theorem zbj(vs:List Va)(ps:List Pi)(ws:List Int)(n:Nat):(ntOf vs ps n).arcs (csOf vs ws)=zak vs ps n n++(u3 vs.length).map (λk=>((ntOf vs ps n).nd n k,1,ws.getD k 0))++(u3 vs.length).map λk=>((ntOf vs ps n).nd n k,1,((vs[k]?).map Va.room).getD 0 - ws.getD k 0):=by
 unfold Nt.arcs csOf zak;rw[wE,wE,yL,wQ,<- vW];rfl
structure YOk(vs:List Va)(ps:List Pi)(ws:List Int):Prop where
 n1:1<=vs.length
 n2:vs.length<=12
 m2:ps.length<=24
 lw:ws.length=vs.length
 vf:∀v∈vs,0<=v.fill/\v.fill<=v.room
 wr:∀(k:Nat) v y,vs[k]?=some v->ws[k]?=some y->0<=y/\y<=v.room
 pb:∀p∈ps,PiOk vs.length p
def atA(vs:List Va)(ps:List Pi)(n m:Nat):List Ar:=(u3 vs.length).map (λj=>((ntOf vs ps n).nd m j,(ntOf vs ps n).nd (m+1) j,(ntOf vs ps n).rm j))++(pb ps m n).map λi=>((ntOf vs ps n).nd m (zp1 ps i),(ntOf vs ps n).nd (m+pl ps i) (za6 ps i),zl5 ps i m)
theorem zoo(vs:List Va)(ps:List Pi)(n k:Nat):zak vs ps n (k+1)=zak vs ps n k++atA vs ps n k:=by rw[ztn,vW];rfl
theorem zvu(vs:List Va)(ps:List Pi)(n m:Nat):(atA vs ps n m).length<=vs.length+ps.length:=by
 unfold atA;rw[vT,u4,u4,wO];have:=zwk ps m n;lia
theorem zmd(vs:List Va)(ps:List Pi)(n:Nat):∀k,(zak vs ps n k).length<=vs.length+(vs.length+ps.length) * k
|0=>by simp[zak]
|k+1=>by rw[zoo,vT,Nat.mul_add];have:=zmd vs ps n k;have:=zvu vs ps n k;lia
def zcj:DSp:=λds Q=>E4 λ(vs:List Va)(ps:List Pi)(m n:Nat)=>A6 (ds=[dY vs ps,.int (m:Int),.int (n:Int)]) (vs.length<=12) (ps.length<=24) ((∀p∈ps,PiOk vs.length p)) (m<=60) (Q (.list ((atA vs ps n m).map dAr)))
def zif1:DSp:=λds Q=>E4 λ(vs:List Va)(ps:List Pi)(ws:List Int)(n:Nat)=>A4 (ds=[dY vs ps,.list (ws.map .int),.int (n:Int)]) (YOk vs ps ws) (n<=60) (Q (.tuple [nI ((ntOf vs ps n).nd (n+1) 0),.list (((ntOf vs ps n).arcs (csOf vs ws)).map dAr)]))
section
variable {P:aQ}{w:aR}{K:Fg}{mg:Str->Option aC}{base:aX}
theorem zvf:FnScope ["yard", "moment", "until", "arcs", "number", "pipe", "goal"] ["yard", "moment", "until"] (zh0 zqa):=by walk_at"sc"
theorem zbr(M:Md K mg)(T:TopDef K "arcs_at" zqa)(jD:mg "enumerate"=none)(vE:Def P w K mg base "width" 4 ["gate", "moment"] (spD K zhw))(I:Def P w K mg base "node" 1 ["yard", "moment", "vat"] (spD K zrp))(kR:Def P w K mg base "pipes_by" 1 ["yard", "moment", "until"] (spD K zab)):Def P w K mg base "arcs_at" 5 ["yard", "moment", "until"] (spD K zcj):=by
 refine zn2 M T zvf (by walk_at"h") (zba (by walk_at"i")) (zo2 ?_);walk_at"g";have nd:=zvf.nd;refine⟨_,_,(zd0 (zg7 (i:=3) (sc:=zh0 zqa) (N:=["yard", "moment", "until", "arcs", "number", "pipe", "goal"]) (own:=["vat", "told"]) (ix:=[0,1]) rfl rfl rfl (by walk_at"csc") nd rfl rfl (zfa (K:=K) rfl rfl jD (za0 (pix w K hr (pv 0) ze0) zg0)) (λ_ _ _ _=>⟨(zr6 (K:=K) (n:=2) rfl rfl (zj1 (pgn 0 (nds ["vat", "told", "yard", "moment"])) (zj1 (pgn 1 (nds ["vat", "told", "yard", "moment"])) zz6))),zy4,(ze1 (za0 (zo0 I (rmn hr) rfl (za0 (pv 2) (za0 (pv 3) (za0 (pv 0) zg0)))) (za0 (zo0 I (rmn hr) rfl (za0 (pv 2) (za0 (zl1 (zg1 (K:=K) rfl) (pv 3) ze0) (za0 (pv 0) zg0)))) (za0 (pix w K hr (pv 1) ze0) zg0))))⟩))
   (zd0 (zo7 a8 rfl (pi_W (K:=K) rfl (zo0 kR (rmn hr) rfl (za0 (pv 0) (za0 (pv 1) (za0 (pv 2) zg0))))) (pgn 4 nd) (zd0 (pset 5 nd (pix w K hr (pix w K hr (pv 0) ze0) (pv 4)))
   (zd0 (pset 6 nd (zo0 I (rmn hr) rfl (za0 (pv 0) (za0 (zl1 (zg1 (K:=K) rfl) (pv 1) (pix w K hr (pv 5) ze0)) (za0 (pix w K hr (pv 5) ze0) zg0)))))
   (zj0 (zm2 (zn9 (K:=K) rfl ğa ğb ğc zd4 (pv 3) (za0 (ze1 (za0 (zo0 I (rmn hr) rfl (za0 (pv 0) (za0 (pv 1) (za0 (pix w K hr (pv 5) ze0) zg0)))) (za0 (pv 6) (za0 (zo0 vE (rmn hr) rfl (za0 (pix w K hr (pv 5) ze0) (za0 (pv 1) zg0))) zg0)))) zg0)))))))
   (zj0 (zz0 (pv 3))))),(zl0 (ze6 (RfF.c (zx2 (zrc (zw0 (RfE.v (zm0 r_ix (zc0 0) rvi)) zq1)) (ztb (zi1 (zo1 (i:=0) (n:=2) (by decide)) (zi1 (zo1 (i:=1) (n:=2) (by decide)) zy6))) zk6 (zy1 (zb0 (zs0 (zb0 (zi0 2) (zb0 (zi0 3) (zb0 (zi0 0) zk0)))) (zb0 (zs0 (zb0 (zi0 2) (zb0 (zm0 zq7 (zc0 3) rvi) (zb0 (zi0 0) zk0)))) (zb0 (zm0 r_ix (zc0 1) rvi) zk0)))))))
   (zl0 (zp7 (zgv (zs0 (zb0 (zi0 0) (zb0 (zi0 1) (zb0 (zi0 2) zk0))))) (rgn 4) (zl0 (za1 (zm0 r_ix (RfE.v (zm0 r_ix (zc0 0) rvi)) (zc0 4)) (rgn 5))
   (zl0 (za1 (zs0 (zb0 (zi0 0) (zb0 (zm0 zq7 (zc0 1) (RfE.v (zm0 r_ix (zc0 5) rvi))) (zb0 (zm0 r_ix (zc0 5) rvi) zk0)))) (rgn 6))
   (zp2 (zcl zii (zv0 3) (zb0 (zy1 (zb0 (zs0 (zb0 (zi0 0) (zb0 (zi0 1) (zb0 (zm0 r_ix (zc0 5) rvi) zk0)))) (zb0 (zi0 6) (zb0 (zs0 (zb0 (zm0 r_ix (zc0 5) rvi) (zb0 (zi0 1) zk0))) zk0)))) zk0))))))
   (zqc (i:=3)))),?_⟩
 rintro ds Qd ⟨vs,ps,m,n,rfl,hv,hp,okp,hm,q⟩;unfold dY;walk_at"ds";walk_at"a";walk_at"k";rw[zk5];refine zes (λp=>dAr ((ntOf vs ps n).nd m p.1,(ntOf vs ps n).nd (m+1) p.1,p.2.room)) (by rw[aY,yW];lia) (λp hp=>?_) ?_
 ·obtain⟨i,v⟩:=p;rw[show Va.d v=.tuple [.str v.nm,.int v.room,.int v.fill]from rfl];walk_at"cs";walk_at"dd";refine⟨vs,_,m,i,rfl,by lia,by lia,vs,.list (ps.map Pi.d),m+1,i,by simp[nI],by lia,by lia,_,rfl,?_⟩;simp[dAr,nI,Nt.nd,ntOf]
 walk_at"f";have e1:(vs.mapIdx λi x=>(i,x)).map (λp=>dAr ((ntOf vs ps n).nd m p.1,(ntOf vs ps n).nd (m+1) p.1,p.2.room))=((u3 vs.length).map λj=>((ntOf vs ps n).nd m j,(ntOf vs ps n).nd (m+1) j,(ntOf vs ps n).rm j)).map dAr:=by
  rw[wF];apply yD;intro j;rw[u9,u9,xQ];by_cases h:j < vs.length
  ·rw[xL h,u5 h];have:(ntOf vs ps n).rm j=vs[j].room:=by show((vs[j]?).map Va.room).getD 0=_;rw[u5 h];rfl
   show some (dAr ((ntOf vs ps n).nd m j,(ntOf vs ps n).nd (m+1) j,vs[j].room))=some (dAr ((ntOf vs ps n).nd m j,(ntOf vs ps n).nd (m+1) j,(ntOf vs ps n).rm j));rw[this]
  ·rw[v8 (by lia),v8 (by simpa using h)];rfl
 rw[e1];walk_at"a";refine⟨vs,ps,m,n,rfl,hp,?_⟩;have hpb:=zwk ps m n;have okb:∀i∈pb ps m n,i < ps.length:=λi hi=>by rw[<- znc]at hi;exact((zbh ps m n _ (u7 _)).2 i hi).1
 walk_at"dd";refine zn3 (λi U=>E3 λS s5 O:Sl=>U=[.sh (.tuple [.list (vs.map Va.d),.list (ps.map Pi.d)]),.sh (.int (m:Int)),.sh (.int (n:Int)),.ow (.li (((u3 vs.length).map (λj=>((ntOf vs ps n).nd m j,(ntOf vs ps n).nd (m+1) j,(ntOf vs ps n).rm j))++((pb ps m n).take i).map λi=>((ntOf vs ps n).nd m (zp1 ps i),(ntOf vs ps n).nd (m+pl ps i) (za6 ps i),zl5 ps i m)).map dAr)),S,s5,O]) ⟨.un,.un,.un,by simp⟩ ?_ ?_
 ·rintro i k U Z ⟨S,s5,O,rfl⟩;have z:=okb k (wK Z);have hik:=(wG.mp Z).1;have ep:ps[k]?=some ps[k]:=u5 z;obtain⟨o1,o2,o3,W,o5⟩:=okp _ (xF z);have W:ps[k].len<=20:=W;have gp:atI (ps.map Pi.d) (k:Int)=some (.tuple [.int (ps[k].u:Int),.int (ps[k].v:Int),.int (ps[k].len:Int),.int ps[k].pr,ps[k].g.d]):=zie (by lia) (by rw[v6,u9,ep];rfl);rw[xI,Z];generalize hpp:ps[k]=p at ep o1 o2 o3 W o5 gp;walk_at"dd";walk_at"a";walk_at"k";refine⟨_,gp,hJ _ ?_⟩;walk_at"c";refine⟨_,rfl,_,rfl,vs,.list (ps.map Pi.d),m+p.len,p.v,by simp[nI],by lia,by lia,hJ _ ?_⟩;clear hJ;walk_at"dd";refine⟨_,rfl,vs,_,m,p.u,rfl,by lia,by lia,_,rfl,p.g,m,rfl,o5.1,by simp;lia,.sh (.int (k:Int)),.sh (.tuple [.int (p.u:Int),.int (p.v:Int),.int (p.len:Int),.int p.pr,p.g.d]),.sh (nI (2+(m+p.len) * vs.length+p.v)),?_⟩;have es:zp1 ps k=p.u:=by unfold zp1;rw[ep];rfl
  have eg:za6 ps k=p.v:=by unfold za6;rw[ep];rfl
  have el:pl ps k=p.len:=by unfold pl;rw[ep];rfl
  have ew:zl5 ps k m=p.g.at m:=by unfold zl5;rw[ep];rfl
  simp only[v7,Option.toList,v4,yR,<- vW];rw[es,eg,el,ew];rfl
 ·rintro U ⟨S,s5,O,rfl⟩;rw[xR];walk_at"f";walk_at"dd";exact q
theorem zw31:FnScope ["yard", "wants", "until", "arcs", "moment", "vat", "told"] ["yard", "wants", "until"] (zh0 zh41):=by walk_at"sc"
theorem zd91(M:Md K mg)(T:TopDef K "net" zh41)(jD:mg "enumerate"=none)(jI:mg "range"=none)(W:Def P w K mg base "node" 1 ["yard", "moment", "vat"] (spD K zrp))(uL:Def P w K mg base "arcs_at" 5 ["yard", "moment", "until"] (spD K zcj))(g_SOURCE:mg "SOURCE"=some gv_SOURCE)(z:RelV (.int 0) gv_SOURCE)(g_SINK:mg "SINK"=some gv_SINK)(u:RelV (.int 1) gv_SINK):Def P w K mg base "net" 6 ["yard", "wants", "until"] (spD K zif1):=by
 refine zn2 M T zw31 (by walk_at"h") (zba (by walk_at"i")) (zo2 ?_);walk_at"g";have nd:=zw31.nd;refine⟨_,_,(zd0 (zg7 (i:=3) (sc:=zh0 zh41) (N:=["yard", "wants", "until", "arcs", "moment", "vat", "told"]) (own:=["vat", "told"]) (ix:=[0]) rfl rfl rfl (by walk_at"csc") nd rfl rfl (zfa (K:=K) rfl rfl jD (za0 (pix w K hr (pv 0) ze0) zg0)) (λ_ _ _ _=>⟨(zr6 (K:=K) (n:=2) rfl rfl (zj1 (pgn 0 (nds ["vat", "told", "yard"])) (zj1 (pgn 1 (nds ["vat", "told", "yard"])) zz6))),zy4,(ze1 (za0 (zw5 rfl g_SOURCE z) (za0 (zo0 W (rmn hr) rfl (za0 (pv 2) (za0 ze0 (za0 (pv 0) zg0)))) (za0 (pix w K hr (pv 1) ze0) zg0))))⟩))
   (zd0 (zo7 a8 rfl (zl2 rfl jI (za0 (pv 2) zg0)) (pgn 4 nd) (zj0 (zm2 (zn9 (K:=K) rfl ğa ğd ğe (zx4 (K:=K) rfl) (pv 3) (za0 (zo0 uL (rmn hr) rfl (za0 (pv 0) (za0 (pv 4) (za0 (pv 2) zg0)))) zg0)))))
   (zd0 (zm2 (zn9 (K:=K) rfl ğa ğd ğe (zx4 (K:=K) rfl) (pv 3) (za0 (zz4 (sc:=zh0 zh41) (N:=["yard", "wants", "until", "arcs", "moment", "vat", "told"]) (own:=["vat", "want"]) (ix:=[0,2]) rfl rfl rfl (by walk_at"csc") (zfa (K:=K) rfl rfl jD (za0 (pv 1) zg0)) (λ_ _ _ _=>⟨(zr6 (K:=K) (n:=2) rfl rfl (zj1 (pgn 0 (nds ["vat", "want", "yard", "until"])) (zj1 (pgn 1 (nds ["vat", "want", "yard", "until"])) zz6))),zy4,(ze1 (za0 (zo0 W (rmn hr) rfl (za0 (pv 2) (za0 (pv 3) (za0 (pv 0) zg0)))) (za0 (zw5 rfl g_SINK u) (za0 (pv 1) zg0))))⟩)) zg0)))
   (zd0 (zo7 a8 rfl (zfa (K:=K) rfl rfl jD (za0 (pix w K hr (pv 0) ze0) zg0)) (zr6 (K:=K) (n:=2) rfl rfl (zj1 (pgn 5 nd) (zj1 (pgn 6 nd) zz6))) (zj0 (zm2 (zn9 (K:=K) rfl ğa ğb ğc zd4 (pv 3) (za0 (ze1 (za0 (zo0 W (rmn hr) rfl (za0 (pv 0) (za0 (pv 2) (za0 (pv 5) zg0)))) (za0 (zw5 rfl g_SINK u) (za0 (zl1 zy8 (pix w K hr (pv 6) ze0) (pix w K hr (pv 1) (pv 5))) zg0)))) zg0)))))
   (zj0 (zz0 (ze1 (za0 (zo0 W (rmn hr) rfl (za0 (pv 0) (za0 (zl1 (zg1 (K:=K) rfl) (pv 2) ze0) (za0 ze0 zg0)))) (za0 (pv 3) zg0))))))))),(zl0 (ze6 (RfF.c (zx2 (zrc (zw0 (RfE.v (zm0 r_ix (zc0 0) rvi)) zq1)) (ztb (zi1 (zo1 (i:=0) (n:=2) (by decide)) (zi1 (zo1 (i:=1) (n:=2) (by decide)) zy6))) zk6 (zy1 (zb0 zc1 (zb0 (zs0 (zb0 (zi0 2) (zb0 zc1 (zb0 (zi0 0) zk0)))) (zb0 (zm0 r_ix (zc0 1) rvi) zk0)))))))
   (zl0 (zp7 (zu7 (zb0 (zi0 2) zk0)) (rgn 4) (zp2 (zcl zzk (zv0 3) (zb0 (zs0 (zb0 (zi0 0) (zb0 (zi0 4) (zb0 (zi0 2) zk0)))) zk0))))
   (zl0 (zp2 (zcl zzk (zv0 3) (zb0 (RfF.e (zx2 (zrc (zw0 (zc0 1) zq1)) (ztb (zi1 (zo1 (i:=0) (n:=2) (by decide)) (zi1 (zo1 (i:=1) (n:=2) (by decide)) zy6))) zk6 (zy1 (zb0 (zs0 (zb0 (zi0 2) (zb0 (zi0 3) (zb0 (zi0 0) zk0)))) (zb0 zc1 (zb0 (zi0 1) zk0)))))) zk0)))
   (zl0 (zp7 (zdw (zb0 (zm0 r_ix (zc0 0) rvi) zk0)) (ztb (zi1 (rgn 5) (zi1 (rgn 6) zy6))) (zp2 (zcl zii (zv0 3) (zb0 (zy1 (zb0 (zs0 (zb0 (zi0 0) (zb0 (zi0 2) (zb0 (zi0 5) zk0)))) (zb0 zc1 (zb0 (zm0 zgk (RfE.v (zm0 r_ix (zc0 6) rvi)) (RfE.v (zm0 r_ix (zc0 1) (zc0 5)))) zk0)))) zk0))))
   (zki 3 [] (zd1 (RfE.c (zy1 (zb0 (zs0 (zb0 (zi0 0) (zb0 (zm0 zq7 (zc0 2) rvi) (zb0 zc1 zk0)))) (zb0 (zi0 3) zk0)))))))))),?_⟩
 rintro ds Qd ⟨vs,ps,ws,n,rfl,y,hn,q⟩;have hv:=y.n2;have hm:=y.m2;have hw:=y.lw;unfold dY;walk_at"ds";walk_at"a";walk_at"k";rw[zk5];refine zes (λp=>dAr (0,(ntOf vs ps n).nd 0 p.1,p.2.fill)) (by rw[aY,yW];lia) (λp hp=>?_) ?_
 ·obtain⟨i,v⟩:=p;unfold Va.d;walk_at"cs";walk_at"dd";exact⟨vs,_,0,i,rfl,by lia,by lia,_,rfl,by simp[dAr,nI,Nt.nd,ntOf]⟩
 walk_at"f";have e1:(vs.mapIdx λi x=>(i,x)).map (λp=>dAr (0,(ntOf vs ps n).nd 0 p.1,p.2.fill))=(zak vs ps n 0).map dAr:=by
  unfold zak;rw[j3,yL,wQ,wF];apply yD;intro j;rw[u9,u9,xQ];by_cases h:j < vs.length
  ·rw[xL h,u5 h];have:(ntOf vs ps n).fl j=vs[j].fill:=by show((vs[j]?).map Va.fill).getD 0=_;rw[u5 h];rfl
   show some (dAr (0,(ntOf vs ps n).nd 0 j,vs[j].fill))=some (dAr (0,(ntOf vs ps n).nd 0 j,(ntOf vs ps n).fl j));rw[this]
  ·rw[v8 (by lia),v8 (by simpa using h)];rfl
 rw[e1];have la:∀k,k<=60->(zak vs ps n k).length<=12+36 * k:=λk _=>wL (zmd vs ps n k) (by have:=yM k (show vs.length+ps.length<=36 by lia);lia);walk_at"a";rw[v6];unfold rngD;refine⟨by lia,by lia,zn3 (λi U=>∃S:Sl,U=[.sh (.tuple [.list (vs.map Va.d),.list (ps.map Pi.d)]),.sh (.list (ws.map .int)),.sh (.int (n:Int)),.ow (.li ((zak vs ps n i).map dAr)),S,.un,.un]) ⟨.un,rfl⟩ ?_ ?_⟩
 ·rintro i x U Z ⟨S,rfl⟩;obtain⟨hi,O⟩:=wG.mp Z;simp at hi O;subst O;rw[show(0:Int)+(i:Int)=(i:Int) by lia];have h1:=la i (by lia);have h2:=zvu vs ps n i;walk_at"dd";exact⟨vs,ps,i,n,rfl,hv,hm,y.pb,by lia,by simp only[u4,aY];lia,.sh (.int (i:Int)),by rw[zoo,v7]⟩
 rintro U ⟨S,rfl⟩;rw[wO];walk_at"f";have h1:=la n (by lia);walk_at"a";rw[zk5];refine zes (λp=>dAr ((ntOf vs ps n).nd n p.1,1,p.2)) (by rw[aY,yW];lia) (λp hp=>?_) ?_
 ·obtain⟨i,x⟩:=p;walk_at"cs";walk_at"dd";exact⟨vs,_,n,i,rfl,by lia,by lia,by simp[dAr,nI,Nt.nd,ntOf]⟩
 refine⟨by simp;lia,hJ _ ?_⟩;clear hJ;have e3:(ws.mapIdx λi x=>(i,x)).map (λp=>dAr ((ntOf vs ps n).nd n p.1,1,p.2))=((u3 vs.length).map λk=>((ntOf vs ps n).nd n k,1,ws.getD k 0)).map dAr:=by
  rw[wF,<- hw];apply yD;intro j;rw[u9,u9,xQ];by_cases h:j < ws.length
  ·rw[xL h,u5 h];show some (dAr ((ntOf vs ps n).nd n j,1,ws[j]))=some (dAr ((ntOf vs ps n).nd n j,1,ws.getD j 0));rw[wD,u5 h];rfl
  ·rw[v8 (by lia),v8 (by simpa using h)];rfl
 rw[e3,<- v7];walk_at"a";walk_at"k";rw[zk5];refine zn3 (λi U=>E2 λs5 s6:Sl=>U=[.sh (.tuple [.list (vs.map Va.d),.list (ps.map Pi.d)]),.sh (.list (ws.map .int)),.sh (.int (n:Int)),.ow (.li ((zak vs ps n n++(u3 vs.length).map (λk=>((ntOf vs ps n).nd n k,1,ws.getD k 0))++(u3 i).map λk=>((ntOf vs ps n).nd n k,1,((vs[k]?).map Va.room).getD 0 - ws.getD k 0)).map dAr)),S,s5,s6]) ⟨.un,.un,by simp⟩ ?_ ?_
 ·rintro i x U Z ⟨s5,s6,rfl⟩;rw[xQ]at Z;obtain⟨v,I,rfl⟩:=w6.mp Z;have hi:=(wG.mp I).1;have gw:atI (ws.map u6) ((i:Nat):Int)=some (.int (ws.getD i 0)):=zie (by lia) (by rw[v6,u9,wD,u5 (by lia:i < ws.length)];rfl);rw[wV];unfold Va.d;walk_at"dd";refine⟨vs,_,n,i,rfl,by lia,by lia,_,rfl,_,gw,?_⟩;walk_at"dd";refine⟨by simp;lia,.sh (nI i),.sh v.d,?_⟩;simp only[v7,v4,yR,<- vW];rw[I];rfl
 ·rintro U ⟨s5,s6,rfl⟩;rw[yW,<- zbj];walk_at"f";walk_at"dd";refine⟨_,_,rfl,rfl,vs,.list (ps.map Pi.d),n+1,0,by simp[nI],by lia,by lia,?_⟩;exact q
end
def cW(ws:List Int)(k:Nat):Int:=ws.getD k 0
def cR(vs:List Va)(ws:List Int)(k:Nat):Int:=((vs[k]?).map Va.room).getD 0 - ws.getD k 0
def zq11(vs:List Va)(ps:List Pi)(ws:List Int)(n:Nat):List Ar:=(u3 vs.length).map λk=>((ntOf vs ps n).nd n k,1,cR vs ws k)
theorem zsy(vs:List Va)(ps:List Pi)(ws:List Int)(n:Nat):(ntOf vs ps n).arcs (csOf vs ws)=(ntOf vs ps n).arcs [cW ws]++zq11 vs ps ws n:=by
 unfold Nt.arcs csOf;simp only[wE,yL,wQ,vW];rfl
theorem zis(vs:List Va)(ps:List Pi)(ws:List Int)(n:Nat):(zq11 vs ps ws n).length=vs.length:=by simp[zq11]
section
variable {vs:List Va}{ps:List Pi}{ws:List Int}{n:Nat}
theorem YOk.ok(y:YOk vs ps ws):(ntOf vs ps n).Ok:=za41 y.pb
theorem YOk.fl(y:YOk vs ps ws){k:Nat}(q:k < vs.length):0<=(ntOf vs ps n).fl k/\(ntOf vs ps n).fl k<=(ntOf vs ps n).rm k/\0<=cW ws k/\cW ws k<=(ntOf vs ps n).rm k:=by
 have e:vs[k]?=some vs[k]:=u5 q;have p:k < ws.length:=by have:=y.lw;lia
 have u:ws[k]?=some ws[k]:=u5 p;obtain⟨J,I⟩:=y.vf _ (xF q);obtain⟨B,z⟩:=y.wr k _ _ e u;show 0<=((vs[k]?).map Va.fill).getD 0/\((vs[k]?).map Va.fill).getD 0<=((vs[k]?).map Va.room).getD 0/\0<=ws.getD k 0/\ws.getD k 0<=((vs[k]?).map Va.room).getD 0;rw[e,wD,u];exact⟨J,I,B,z⟩
theorem YOk.ar(y:YOk vs ps ws):∀a∈(ntOf vs ps n).arcs (csOf vs ws),a.1 < (ntOf vs ps n).nd (n+1) 0/\a.2.1 < (ntOf vs ps n).nd (n+1) 0/\0<=a.2.2:=λa p=>by
 have ok:=y.ok (n:=n);have O:=Nt.nd2 (T:=ntOf vs ps n) (n+1) 0;unfold Nt.arcs at p;rcases vV.mp p with p|p
 ·rcases vV.mp p with p|p
  ·obtain⟨k,q,rfl⟩:=vQ.mp p;have q:=u8.mp q;exact⟨by show 0 < _;lia,Nt.nd_lt (T:=ntOf vs ps n) (wH _) q,(y.fl (n:=n) q).1⟩
  ·obtain⟨m,u,p⟩:=yU.mp p;have u:m < n:=u8.mp u;rcases vV.mp p with p|p
   ·obtain⟨k,q,rfl⟩:=vQ.mp p;have q:k < vs.length:=u8.mp q;have:=y.fl (n:=n) q;exact⟨Nt.nd_lt (T:=ntOf vs ps n) (yP u) q,Nt.nd_lt (T:=ntOf vs ps n) u q,by show 0<=(ntOf vs ps n).rm k;lia⟩
   ·obtain⟨i,hi,rfl⟩:=vQ.mp p;refine⟨Nt.nd_lt (T:=ntOf vs ps n) (yP u) (ok.ub m i hi),Nt.nd_lt (T:=ntOf vs ps n) (ok.ln m i hi).2 (ok.vb m i hi),?_⟩;have B:i < ps.length:=by
     have J:i∈pbJ ps m n ps.length:=by rw[znc];exact hi
     exact((zbh ps m n _ (u7 _)).2 i J).1
    show 0<=zl5 ps i m;unfold zl5;rw[u5 B];exact(y.pb _ (xF B)).2.2.2.2.2 m
 ·obtain⟨c,I,p⟩:=yU.mp p;obtain⟨k,q,rfl⟩:=vQ.mp p;have q:k < vs.length:=u8.mp q;refine⟨Nt.nd_lt (T:=ntOf vs ps n) (u7 _) q,by show 1 < _;lia,?_⟩;have:=y.fl (n:=n) q;have I:c∈[cW ws,cR vs ws]:=I;rcases vR.mp I with z|z
  ·subst z;exact this.2.2.1
  ·have z:=uaW.mp z;subst z;show 0<=(ntOf vs ps n).rm k - cW ws k;lia
theorem zxw(y:YOk vs ps ws)(p:n<=60):((ntOf vs ps n).arcs (csOf vs ws)).length<=3000:=by
 have q:=zmd vs ps n n;have:=Nat.mul_le_mul (show vs.length+ps.length<=36 by have:=y.n2;have:=y.m2;lia) p;have:=y.n2;rw[zbj,vT,vT,u4,u4,wO];lia
end
theorem zpe1{κ:Type}[DecidableEq κ]:∀{l acc:List (κ×D)},((acc++l).map (·.1)).Nodup->l.foldl (λa x=>putD a x.1 x.2) acc=acc++l
|[],acc,_=>by simp
|x :: l,acc,nd=>by
  have h:putD acc x.1 x.2=acc++[x]:=by
   unfold putD;rw[aA];intro z;obtain⟨y,p,e⟩:=j4.mp z;rw[v7,wS]at nd;exact nd.2.2 y.1 (vQ.mpr ⟨y,p,rfl⟩) x.1 (by simp) (cS e)
  rw[zI,h,zpe1 (by rw[vW];exact nd),vW];rfl
theorem zjs(side:List Nat)(j:Nat):(getA (side.map λv:Nat=>((.inl (v:Int),.bool true):Key×D)) (.inl (j:Int))).isSome=decide (j∈side):=by
 induction side with
|nil=>rfl
|cons a r p =>
  rw[v4,ze5];by_cases e:j=a
  ·subst e;rw[aF rfl];simp
  ·rw[aA (λz=>e (by injection z with z;lia)),p];simp[e]
def ptL(N c:Nat)(side:List Nat):List D:=(u3 (c - 2)).filterMap λk=>if 2+k∈side then none else some (.tuple [.int ((k / N:Nat):Int),.int ((k % N:Nat):Int)])
def zx9:DSp:=λds Q=>E4 λ(vs:List Va)(ps:List Pi)(n:Nat)(side:List Nat)=>A8 (ds=[.tuple [.list (vs.map Va.d),.list (ps.map Pi.d)],nI n,.list (side.map nI)]) (1<=vs.length) (vs.length<=100) (2<=n) (n<=200) (side.length<=200) side.Nodup (Q (.list (ptL vs.length n side)))
structure Met(vs:List Va)(ps:List Pi)(ws:List Int)(n:Nat)(M:Int)(f:Fm):Prop where
 val:(ntOf vs ps n).Val (cW ws) M
 fl:(ntOf vs ps n).Fl [cW ws,cR vs ws] f
 src:∀k,k < vs.length->f.a k=(ntOf vs ps n).fl k
 wn:M=ws.sum->∃t s,f.t=[t,s]/\∀k,k < vs.length->cW ws k<=t k
def ptN(vs:List Va)(ps:List Pi)(n:Nat)(side:List Nat):List D:=ptL vs.length ((ntOf vs ps n).nd (n+1) 0) side
def Ovr(vs:List Va)(ps:List Pi)(ws:List Int)(n:Nat)(M:Int)(side:List Nat):Prop:=M=(ntOf vs ps n).over (cW ws) λm k=>(ntOf vs ps n).nd m k ∉ side
theorem zss(ws:List Int):ws.sum=su (u3 ws.length) (cW ws):=by
 have:(u3 ws.length).map (cW ws)=ws:=by
  refine uaT (by simp) λi q p=>?_;rw[uaU,ubH];unfold cW;rw[wD,u5 p];rfl
 unfold su;rw[this]
def zte:DSp:=λds Q=>E4 λ(vs:List Va)(ps:List Pi)(ws:List Int)(n:Nat)=>A5 (ds=[dY vs ps,.list (ws.map .int),.int (n:Int)]) (YOk vs ps ws) (n<=60) ((n+1) * vs.length<=122) (∀(M:Int)(f:Fm)(side:List Nat),Met vs ps ws n M f->Ovr vs ps ws n M side->Q (.tuple [.int M,.list ((ze3 ps n f.g n).map Le.d),.list (ptN vs ps n side)]))
def zri:DSp:=λds Q=>E4 λ(vs:List Va)(ps:List Pi)(ws:List Int)(n:Nat)=>A5 (ds=[dY vs ps,.list (ws.map .int),.int (n:Int)]) (YOk vs ps ws) (n<=60) ((n+1) * vs.length<=122) (∀(M:Int)(f:Fm)(side:List Nat),Met vs ps ws n M f->Ovr vs ps ws n M side->Q (.tuple [.str (if M=ws.sum then "plan" else "shut"),if M=ws.sum then .list ((ze3 ps n f.g n).map Le.d)else .list (ptN vs ps n side)]))
section
variable {P:aQ}{w:aR}{K:Fg}{mg:Str->Option aC}{base:aX}
theorem ze9:FnScope ["yard", "count", "side", "within"] ["yard", "count", "side"] (zh0 zq2):=by walk_at"sc"
theorem zee(M:Md K mg)(T:TopDef K "part_beyond" zq2)(uX:mg "dict"=none)(jI:mg "range"=none)(p:Def P w K mg base "spot" 1 ["yard", "number"] (spD K zu21)):Def P w K mg base "part_beyond" 2 ["yard", "count", "side"] (spD K zx9):=by
 refine zn2 M T ze9 (by walk_at"h") (zba (by walk_at"i")) (zo2 ?_);walk_at"g";have nd:=ze9.nd;refine⟨_,_,(zd0 (pset 3 nd (zb9 (zcm (K:=K) rfl rfl (Room.units hr)) rfl uX zh31 (za0 (zz4 (sc:=zh0 zq2) (N:=["yard", "count", "side", "within"]) (own:=["number"]) (ix:=[]) rfl rfl rfl (by walk_at"csc") (pi_W (K:=K) rfl (pv 2)) (λ_ _ _ _=>⟨(pgn 0 (nds ["number"])),zy4,(ze1 (za0 (pv 0) (za0 zom zg0)))⟩)) zg0)))
   (zj0 (zz0 (zz4 (sc:=zh0 zq2) (N:=["yard", "count", "side", "within"]) (own:=["number"]) (ix:=[0,3]) rfl rfl rfl (by walk_at"csc") (zwt rfl jI (za0 ze0 (za0 (pv 1) zg0))) (λ_ _ _ _=>⟨(pgn 0 (nds ["number", "yard", "within"])),(zwe (zr0 (zzd (w:=w) (K:=K) (Room.units hr) rfl rfl) (pv 0) (pv 2) (by with_unfolding_all rfl))),(zo0 p (rmn hr) rfl (za0 (pv 1) (za0 (pv 0) zg0)))⟩))))),(zl0 (ze6 (RfN.c (zyw (RfF.e (zx2 (zu61 (zc0 2)) (zo1 (i:=0) (n:=1) (by decide)) zk6 (zy1 (zb0 (zi0 0) (zb0 zbq zk0))))))))
   (zd1 (RfF.c (zx2 (RfI.j (zb71 (zb0 zc1 (zb0 (zi0 1) zk0)))) (zo1 (i:=0) (n:=1) (by decide)) (zq0 (zxu (zi0 0) (zv0 2))) (zs0 (zb0 (zi0 1) (zb0 (zi0 0) zk0))))))),?_⟩
 rintro ds Qd ⟨vs,ps,n,side,rfl,I,u,n2,hn,hs,nds,q⟩;walk_at"ds";walk_at"a";refine zes (λv=>.tuple [nI v,.bool true]) (by rw[aY];lia) (λv hv=>?_) ?_
 ·walk_at"cs";walk_at"dd"
 refine⟨side.map λv:Nat=>((.inl (v:Int),.bool true):Key×D),by rw[wF];rfl,by rw[u4];lia,hJ _ ?_⟩;clear hJ;have O:mD (side.map λv:Nat=>((.inl (v:Int),.bool true):Key×D))=side.map λv:Nat=>((.inl (v:Int),.bool true):Key×D):=by
  unfold mD;rw[zpe1 (acc:=[])]
  ·rfl
  ·rw[uaD,wF];exact List.pairwise_map.mpr (nds.imp λ{a b} q z=>q (by have z:(wW (a:Int):Key)=.inl (b:Int):=z;injection z with z;lia))
 rw[O];walk_at"dd";refine⟨⟨by lia,by lia⟩,?_⟩;unfold rngD;have Z:((n:Int) - 2).toNat=n - 2:=by lia
 rw[Z];refine zo21 (xs:=u3 (n - 2)) (enc:=λk:Nat=>u6 (2+(k:Int))) (λk=>if 2+k∈side then none else some (.tuple [.int ((k / vs.length:Nat):Int),.int ((k % vs.length:Nat):Int)])) (by rw[aY,wO];lia) (λk hk=>?_) q;have W:(2:Int)+(k:Int)=((2+k:Nat):Int):=by lia
 rw[W];have S:=zjs side (2+k);walk_at"cs";walk_at"dd";rw[S];by_cases h:2+k∈side
 ·rw[aF h,bK h];simp
 ·rw[aA h,a7 h];simp only[Bool.not_false,if_true,yA,if_false];refine⟨vs,_,2+k,rfl,I,u,?_⟩;walk_at"dd";rw[show((2+k:Nat):Int) - 2=(k:Int) by lia];rfl
theorem zvc:FnScope ["yard", "wants", "until", "told", "spare", "wanted", "found", "flow", "met"] ["yard", "wants", "until"] (zh0 zvb):=by walk_at"sc"
theorem zuk(M:Md K mg)(T:TopDef K "met_most" zvb)(jL:mg "len"=none)(kA:mg "sum"=none)(kF:DefN P w K mg base "greatest" 4 ["count", "arcs", "source", "sink", "flow"] (spD K zjb))(vN:Def P w K mg base "net" 6 ["yard", "wants", "until"] (spD K zif1))(uM:Def P w K mg base "plan_of" 2 ["yard", "until", "flow"] (spD K zik))(qJ:Def P w K mg base "part_beyond" 2 ["yard", "count", "side"] (spD K zx9))(g_SOURCE:mg "SOURCE"=some gv_SOURCE)(p:RelV (.int 0) gv_SOURCE)(g_SINK:mg "SINK"=some gv_SINK)(I:RelV (.int 1) gv_SINK):Def P w K mg base "met_most" 7 ["yard", "wants", "until"] (spD K zte):=by
 refine zn2 M T zvc (by walk_at"h") (zba (by walk_at"i")) (zo2 ?_);walk_at"g";have nd:=zvc.nd;refine⟨_,_,(zd0 (pset 3 nd (zo0 vN (rmn hr) rfl (za0 (pv 0) (za0 (pv 1) (za0 (pv 2) zg0)))))
   (zd0 (pset 4 nd (zu0 (zk1 (K:=K) rfl) rfl jL zb6 (za0 (pix w K hr (pv 0) ze0) zg0)))
   (zd0 (pset 5 nd (zgi (sl_W (K:=K) rfl) (pix w K hr (pv 3) ze0) zyi (zsa (zl1 zy8 (zu0 (zk1 (K:=K) rfl) rfl jL zb6 (za0 (pix w K hr (pv 3) ze0) zg0)) (pv 4)))))
   (zd0 (pset 6 nd (ztm kF (rmn hr) rfl (za0 (pix w K hr (pv 3) ze0) (za0 (pv 5) (za0 (zw5 rfl g_SOURCE p) (za0 (zw5 rfl g_SINK I) zg0))))))
   (zd0 (pset 7 nd (pix w K hr (zo0 kF.d (rmn hr) rfl (za0 (pix w K hr (pv 3) ze0) (za0 (pix w K hr (pv 3) ze0) (za0 (zw5 rfl g_SOURCE p) (za0 (zw5 rfl g_SINK I) (za0 (zl1 (zg1 (K:=K) rfl) (pix w K hr (pv 6) ze0) (zl1 zib (zb2 (za0 ze0 zg0)) (pv 4))) zg0)))))) ze0))
   (zd0 (pset 8 nd (zu0 (zd5 (K:=K) rfl rfl) rfl kA zsi (za0 (zgi (sl_W (K:=K) rfl) (pix w K hr (pv 6) ze0) (zsa (zl1 zy8 (zu0 (zk1 (K:=K) rfl) rfl jL zb6 (za0 (pv 5) zg0)) (pv 4))) zyi) zg0)))
   (zj0 (zz0 (ze1 (za0 (pv 8) (za0 (zo0 uM (rmn hr) rfl (za0 (pv 0) (za0 (pv 2) (za0 (pv 7) zg0)))) (za0 (zo0 qJ (rmn hr) rfl (za0 (pv 0) (za0 (pix w K hr (pv 3) ze0) (za0 (pix w K hr (pv 6) ze0) zg0)))) zg0)))))))))))),(zl0 (za1 (zs0 (zb0 (zi0 0) (zb0 (zi0 1) (zb0 (zi0 2) zk0)))) (rgn 3))
   (zl0 (za1 (zf9 zle (zw0 (RfE.v (zm0 r_ix (zc0 0) rvi)) zq1)) (rgn 4))
   (zl0 (za1 (zfc1 (RfE.v (zm0 r_ix (zc0 3) rvi)) zij (zef (zm0 zgk (RfE.v (zf9 zle (zw0 (RfE.v (zm0 r_ix (zc0 3) rvi)) zq1))) (zc0 4)))) (rgn 5))
   (zl0 (za1 (zeq (zb0 (zm0 r_ix (zc0 3) rvi) (zb0 (zi0 5) (zb0 zc1 (zb0 zc1 zk0))))) (rgn 6))
   (zl0 (za1 (zm0 r_ix (RfE.v (zs0 (zb0 (zm0 r_ix (zc0 3) rvi) (zb0 (zm0 r_ix (zc0 3) rvi) (zb0 zc1 (zb0 zc1 (zb0 (zm0 zq7 (RfE.v (zm0 r_ix (zc0 6) rvi)) (RfE.v (RfF.e (zm71 (zd6 (zb0 zc1 zk0)) (zi0 4))))) zk0))))))) rvi) (rgn 7))
   (zl0 (za1 (zf9 zk01 (zw0 (RfE.v (zfc1 (RfE.v (zm0 r_ix (zc0 6) rvi)) (zef (zm0 zgk (RfE.v (zf9 zle (zw0 (zc0 5) zq1))) (zc0 4))) zij)) zq1)) (rgn 8))
   (zd1 (RfE.c (zy1 (zb0 (zi0 8) (zb0 (zs0 (zb0 (zi0 0) (zb0 (zi0 2) (zb0 (zi0 7) zk0)))) (zb0 (zs0 (zb0 (zi0 0) (zb0 (zm0 r_ix (zc0 3) rvi) (zb0 (zm0 r_ix (zc0 6) rvi) zk0)))) zk0)))))))))))),?_⟩
 rintro ds Qd ⟨vs,ps,ws,n,rfl,y,hn,hN,q⟩;have hv:=y.n2;have hm:=y.m2;have hw:=y.lw;have ok:=y.ok (n:=n);have l2:=zis vs ps ws n;have S:=zxw y hn;have ar:=y.ar (n:=n);have ec:=zsy vs ps ws n;have hc:(ntOf vs ps n).nd (n+1) 0=2+(n+1) * vs.length:=rfl;have hc2:=Nt.nd2 (T:=ntOf vs ps n) (n+1) 0;rw[ec]at S ar;rw[vT,l2]at S;walk_at"ds";walk_at"a";refine⟨vs,ps,ws,n,rfl,y,hn,hJ _ ?_⟩;clear hJ;rw[ec];unfold dY;walk_at"a";walk_at"k";rw[u4];walk_at"b";refine⟨_,rfl,_,rfl,?_⟩;walk_at"dd";rw[zai,u4,vT,l2,show((((((ntOf vs ps n).arcs [cW ws]).length+vs.length:Nat)):Int) - (vs.length:Int))=((((ntOf vs ps n).arcs [cW ws]).length:Nat):Int) by lia,zk11,List.take_left];walk_at"b";refine⟨_,rfl,(ntOf vs ps n).nd (n+1) 0,(ntOf vs ps n).arcs [cW ws],0,1,.none,vU ((ntOf vs ps n).arcs [cW ws]).length 0,rfl,.inl ⟨rfl,rfl⟩,yQ,by lia,by lia,λa Z=>⟨(ar a (xN _ Z)).1,(ar a (xN _ Z)).2.1⟩,λk a x h1 O=>?_,by lia,by lia,by decide,λL side b=>hJ _ ?_⟩
 ·rw[xH]at O;split at O
  ·cases O;exact⟨by lia,(ar a (xN _ (wK h1))).2.2⟩
  ·cases O
 clear hJ;have hbal:∀v,v≠0->v≠1->_5.bal ((ntOf vs ps n).arcs [cW ws]).length (zf6 ((ntOf vs ps n).arcs [cW ws])) L v=0:=λv h1 O=>by rw[b.up.eqb v h1 O];exact zvp v
 obtain⟨f,fl,ef⟩:=Nt.best ok b hbal;obtain⟨t,ht⟩:∃t,f.t=[t]:=by
  have:=fl.t
  match hf:f.t,this with
 |[t],_=>exact⟨t,rfl⟩
 have val:=Nt.val ok b fl ef ht;have hsd:=zx0 _ side b.nd b.bd;have wi:=b.within;have lF:=Nt.len (T:=ntOf vs ps n) (cs:=[cW ws]) (f:=f) fl.t;have efl:(ntOf vs ps n).flow f=(ntOf vs ps n).flow ⟨f.a,f.r,f.g,[]⟩++(u3 vs.length).map t:=by
  unfold Nt.flow;rw[ht];simp only[wE,yL,wQ,vW];rfl
 have lF2:((ntOf vs ps n).flow ⟨f.a,f.r,f.g,[]⟩).length+vs.length=((ntOf vs ps n).arcs [cW ws]).length:=by
  rw[<- lF,efl,vT,u4,wO]
 have eflow:(u3 ((ntOf vs ps n).arcs [cW ws]).length).map (λk=>u6 (lf L (2 * k+1)))=((ntOf vs ps n).flow f).map .int:=by rw[<- ef,wF];rfl
 have wi2:∀k,k < ((ntOf vs ps n).arcs [cW ws]).length->0<=fx ((ntOf vs ps n).flow f) k/\fx ((ntOf vs ps n).flow f) k<=zq8 ((ntOf vs ps n).arcs [cW ws]) k:=λk u=>by
  have:=wi k u;rw[<- ef,ztk u];exact this
 rw[eflow];have e0:(vU ((vs.length:Int)).toNat [u6 0]).flatten=(vU vs.length (0:Int)).map u6:=by
  rw[v6,ubM,ubN]
 walk_at"a";rw[e0];refine⟨_,rfl,_,rfl,_,rfl,by lia,by lia,by lia,?_⟩;walk_at"dd";rw[<- v7];refine⟨by rw[u4,u4,yQ];lia,(ntOf vs ps n).nd (n+1) 0,(ntOf vs ps n).arcs [cW ws]++zq11 vs ps ws n,0,1,_,_,rfl,.inr rfl,by rw[vT,vT,yQ,lF,l2],by lia,by rw[vT];lia,λa Z=>⟨(ar a Z).1,(ar a Z).2.1⟩,λk a x h1 O=>?_,by lia,by lia,by decide,λM side2 b2=>?_⟩
 ·by_cases u:k < ((ntOf vs ps n).arcs [cW ws]).length
  ·rw[wU u]at h1;rw[wU (by lia)]at O;have:=wi2 k u;have em:zq8 ((ntOf vs ps n).arcs [cW ws]) k=a.2.2:=by unfold zq8;rw[h1];rfl
   rw[em]at this;unfold fx at this;rw[O]at this;exact this
  ·have Z:=(ar a (wK h1)).2.2;rw[wR (by lia),xH]at O;split at O
   ·cases O;exact⟨by lia,Z⟩
   ·cases O
 walk_at"dd";have hf:∀k,k < (ntOf vs ps n).N->0<=(ntOf vs ps n).fl k/\(ntOf vs ps n).fl k<=(ntOf vs ps n).rm k/\0<=cW ws k/\0<=cR vs ws k/\(ntOf vs ps n).fl k<=cW ws k+cR vs ws k:=λk u=>by
  have h4:=y.fl (n:=n) u;have e:cR vs ws k=(ntOf vs ps n).rm k - cW ws k:=rfl;lia
 have hwd:∀m i,m < (ntOf vs ps n).n->i∈(ntOf vs ps n).P m->0<=(ntOf vs ps n).W i m:=λm i _ hi=>by
  have hi2:i < ps.length:=by
   have hi3:i∈pbJ ps m n ps.length:=by rw[znc];exact hi
   exact((zbh ps m n _ (u7 _)).2 i hi3).1
  show 0<=zl5 ps i m;unfold zl5;rw[u5 hi2];exact(y.pb _ (xF hi2)).2.2.2.2.2 m
 have b3:Best ((ntOf vs ps n).nd (n+1) 0) ((ntOf vs ps n).arcs [cW ws,cR vs ws]) ((ntOf vs ps n).flow f++vU (ntOf vs ps n).N 0) 0 1 M side2:=by
  rw[show(ntOf vs ps n).arcs [cW ws,cR vs ws]=(ntOf vs ps n).arcs [cW ws]++zq11 vs ps ws n from ec];exact b2
 obtain⟨f2,t2,s2,fl2,e2,src,ht2,wn⟩:=Nt.again ok fl ht hf hwd b3;have met:Met vs ps ws n (su (u3 (ntOf vs ps n).N) t) f2:=⟨val,fl2,src,λz=>⟨t2,s2,ht2,λk u=>by
  rw[zss,hw]at z;have:=zqo (a:=t) (b:=cW ws) (λk u=>(fl.s (cW ws,t) (by rw[ht];simp) k (u8.mp u)).2) (Int.le_of_eq z.symm) k (u8.mpr u);rw[<- this];exact wn k u⟩⟩
 have ovr:Ovr vs ps ws n (su (u3 (ntOf vs ps n).N) t) side:=by
  have ex:∀k,k < ((ntOf vs ps n).arcs [cW ws]).length->lf L (2 * k+1)=fx ((ntOf vs ps n).flow f) k:=λk u=>by rw[<- ef,ztk u]
  exact Nt.cut ok fl ht (λk u=>by rw[<- ex k u];exact b.tight k u) b.inn b.out b.bd b.nd
 have e2':(u3 ((ntOf vs ps n).arcs [cW ws]++zq11 vs ps ws n).length).map (λk=>u6 (lf M (2 * k+1)))=((ntOf vs ps n).flow f2).map .int:=by
  rw[<- e2,wF,show(ntOf vs ps n).arcs [cW ws,cR vs ws]=(ntOf vs ps n).arcs [cW ws]++zq11 vs ps ws n from ec];rfl
 rw[e2'];refine⟨_,rfl,hJ _ ?_⟩;walk_at"c";walk_at"k";rw[zai,u4,show(((((ntOf vs ps n).arcs [cW ws]).length:Nat):Int) - (vs.length:Int))=((((ntOf vs ps n).flow ⟨f.a,f.r,f.g,[]⟩).length:Nat):Int) by lia,zjp,efl,List.drop_left];refine⟨_,ints_map _,hJ _ ?_⟩;clear hJ;walk_at"dd";have eG:(ntOf vs ps n).flow f2=zdb ps n ((u3 vs.length).map f2.a) (λm=>(u3 vs.length).map (f2.r m)) f2.g n++f2.t.flatMap λt=>(u3 vs.length).map t:=by
  unfold Nt.flow zdb blk;rw[List.flatMap_def];rfl
 refine⟨vs,ps,n,(u3 vs.length).map f2.a,f2.t.flatMap λt=>(u3 vs.length).map t,λm=>(u3 vs.length).map (f2.r m),f2.g,by rw[eG],by lia,by lia,by lia,by simp,λm _=>by simp,?_⟩;refine⟨_,rfl,_,rfl,vs,ps,(ntOf vs ps n).nd (n+1) 0,side,rfl,y.n1,by lia,by lia,by lia,by lia,b.nd,?_⟩;exact q _ f2 side met ovr
theorem zlj:FnScope ["yard", "wants", "until", "found"] ["yard", "wants", "until"] (zh0 zlh):=by walk_at"sc"
theorem zht(M:Md K mg)(T:TopDef K "met_at" zlh)(kA:mg "sum"=none)(I:Def P w K mg base "met_most" 7 ["yard", "wants", "until"] (spD K zte)):Def P w K mg base "met_at" 8 ["yard", "wants", "until"] (spD K zri):=by
 refine zn2 M T zlj (by walk_at"h") (zba (by walk_at"i")) (zo2 ?_);walk_at"g";have nd:=zlj.nd;refine⟨_,_,(zd0 (pset 3 nd (zo0 I (rmn hr) rfl (za0 (pv 0) (za0 (pv 1) (za0 (pv 2) zg0)))))
   (zd0 (zm7 (zr0 (zo5 (K:=K) rfl (Room.units hr)) (pix w K hr (pv 3) ze0) (zu0 (zd5 (K:=K) rfl rfl) rfl kA zsi (za0 (pv 1) zg0)) (zf1 _)) (zj0 (zz0 (ze1 (za0 zy5 (za0 (pix w K hr (pv 3) ze0) zg0))))) zm1)
   (zj0 (zz0 (ze1 (za0 zy5 (za0 (pix w K hr (pv 3) ze0) zg0))))))),(zl0 (za1 (zs0 (zb0 (zi0 0) (zb0 (zi0 1) (zb0 (zi0 2) zk0)))) (rgn 3))
   (zl0 (zj7 (zq0 (zz1 q_eq (RfV.h (RfE.v (zm0 r_ix (zc0 3) rvi))) (RfV.h (RfE.v (zf9 zk01 (zw0 (zc0 1) zq1)))))) (zd1 (RfE.c (zy1 (zb0 zc6 (zb0 (zm0 r_ix (zc0 3) rvi) zk0))))) zn1)
   (zd1 (RfE.c (zy1 (zb0 zc6 (zb0 (zm0 r_ix (zc0 3) rvi) zk0))))))),?_⟩
 rintro ds Qd ⟨vs,ps,ws,n,rfl,y,O,S,q⟩;walk_at"ds";walk_at"a";refine⟨vs,ps,ws,n,rfl,y,O,S,λM f side met u=>hJ _ ?_⟩;clear hJ;have p:=q M f side met u;walk_at"a";refine⟨_,rfl,ws,ints_map ws,?_⟩;walk_at"dd";refine two (λz=>⟨_,rfl,by rw[aF z,aF z]at p;exact p⟩) λz=>hJ _ ?_;clear hJ;walk_at"dd";exact⟨_,rfl,by rw[aA z,aA z]at p;exact p⟩
end
structure Pp where
 u:Nat
 v:Nat
 a:D
 b:D
 c:D
def Pp.d(p:Pp):D:=.tuple [nI p.u,nI p.v,p.a,p.b,p.c]
def tY(vs:List Va)(ps:List Pp)(ws:List Int):List Ar:=tA (vs.map Va.fill) (ps.map λp=>(p.u,p.v)) ws ((vs.map Va.fill).sum+1)
def IsCut(vs:List Va)(ps:List Pp)(ws:List Int)(r:D):Prop:=∃(L:List Int)(side:List Nat),Best (2+vs.length) (tY vs ps ws) (vU (tY vs ps ws).length 0) 0 1 L side /\
 r=if - bl (tY vs ps ws).length (aU (tY vs ps ws)) (aV (tY vs ps ws)) (λk=>lf L (2 * k+1)) 0=ws.sum then .none else .list (((u3 vs.length).filter λv=>decide (2+v ∉ side)).map nI)
structure ZOk(vs:List Va)(ps:List Pp)(ws:List Int):Prop where
 n1:1<=vs.length
 n2:vs.length<=12
 m2:ps.length<=24
 lw:ws.length=vs.length
 vf:∀v∈vs,0<=v.fill/\v.fill<=v.room
 wr:∀(k:Nat) v y,vs[k]?=some v->ws[k]?=some y->0<=y/\y<=v.room
 pb:∀p∈ps,p.u < vs.length/\p.v < vs.length
section
variable {vs:List Va}{ps:List Pp}{ws:List Int}
theorem zww{A:List Ar}{s t:Nat}(b:Best n A (vU A.length 0) s t L side):∀v,v≠s->v≠t->bal A.length (zf6 A) L v=0:=λv q p=>by rw[b.up.eqb v q p];exact zvp v
theorem ZOk.cut(y:ZOk vs ps ws)(b:Best n (tY vs ps ws) (vU (tY vs ps ws).length 0) 0 1 L side):Cut (vs.map Va.fill) (ps.map λp=>(p.u,p.v)) ws ((vs.map Va.fill).sum+1) (λk=>lf L (2 * k+1)):=by
 refine⟨by rw[u4];exact y.lw,λp B=>?_,b.within,λw J I=>?_⟩
 ·obtain⟨q,z,rfl⟩:=vQ.mp B;rw[u4];exact y.pb q z
 ·have:=zww b w J I;rw[zgu]at this;exact this
theorem ZOk.fill(y:ZOk vs ps ws):∀x∈vs.map Va.fill,0<=x:=λx p=>by
 obtain⟨v,q,rfl⟩:=vQ.mp p;exact(y.vf v q).1
theorem ZOk.wn(y:ZOk vs ps ws):∀x∈ws,0<=x:=λx p=>by
 obtain⟨k,q,rfl⟩:=uaS p;have hl:=y.lw;exact(y.wr k vs[k] _ (u5 (by lia)) (u5 q)).1
theorem zh71:∀{l:List Int},(∀x∈l,0<=x)->0<=l.sum
|[],_=>by simp
|x :: r,h=>by have:=zh71 (l:=r) λy p=>h y (by simp[p]);have:=h x (by simp);rw[xY];lia
theorem ZOk.ar(y:ZOk vs ps ws):∀a∈tY vs ps ws,a.1 < 2+vs.length/\a.2.1 < 2+vs.length/\0<=a.2.2:=λa z=>by
 have hl:=y.lw;have J:=y.n1;unfold tY tA at z;rcases vV.mp z with z|z
 ·rcases vV.mp z with z|z
  ·obtain⟨i,hi,rfl⟩:=vQ.mp z;rw[u8,u4]at hi;exact⟨by show 0 < _;lia,by show 2+i < _;lia,zn21 y.fill i⟩
  ·obtain⟨p,I,rfl⟩:=vQ.mp z;obtain⟨q,B,rfl⟩:=vQ.mp I;have:=y.pb q B;have:=zh71 y.fill;exact⟨by show 2+q.u < _;lia,by show 2+q.v < _;lia,by show 0<=(vs.map Va.fill).sum+1;lia⟩
 ·obtain⟨i,hi,rfl⟩:=vQ.mp z;rw[u8]at hi;exact⟨by show 2+i < _;lia,by show 1 < _;lia,zn21 y.wn i⟩
theorem IsCut.some{r:D}(y:ZOk vs ps ws)(h:IsCut vs ps ws r):(r=.none/\∀S:List Nat,S.Nodup->(∀v∈S,v < vs.length)->(∀p∈ps,p.v∈S->p.u∈S)->(S.map λv=>fx ws v - fx (vs.map Va.fill) v).sum<=0) \/
  ∃l:List Nat,r=.list (l.map nI)/\l≠[]/\l.Pairwise (· < ·)/\(∀v∈l,v < vs.length)/\(∀p∈ps,p.v∈l->p.u∈l)/\0 < (l.map λv=>fx ws v - fx (vs.map Va.fill) v).sum:=by
 obtain⟨L,side,b,rfl⟩:=h;have c:=y.cut b;have hl:(vs.map Va.fill).length=vs.length:=u4 _;split
 ·rename_i e
  refine .inl ⟨rfl,λS nd hb cl=>c.short e nd (by rw[hl];exact hb) λp J I=>?_⟩;obtain⟨q,Z,rfl⟩:=vQ.mp J;exact cl q Z I
 ·rename_i ne
  obtain⟨W,B⟩:=c.beyond (by lia) b.tight b.inn b.out b.nd;have B:=B ne;rw[hl]at B;refine .inr ⟨_,rfl,λz=>?_,List.pairwise_lt_range.filter _,λv I=>u8.mp (yO.mp I).1,λp J I=>?_,B⟩
  ·rw[z]at B;simp at B
  ·obtain⟨_,O⟩:=yO.mp I;have O:=cS O;exact yO.mpr ⟨u8.mpr (y.pb p J).1,bK λh=>O (W (p.u,p.v) (vQ.mpr ⟨p,J,rfl⟩) h)⟩
end
theorem zrl{p:Nat->Prop}[DecidablePred p]:∀l:List Nat,l.filterMap (λk=>if p k then some (nI k)else none)=(l.filter λk=>decide (p k)).map nI
|[]=>rfl
|k :: r=>by
  rw[w8,List.filter_cons,zrl r];by_cases h:p k <;> simp[h]
def ziv:DSp:=λds Q=>E3 λ(A:List Ar)(L:List Int)(src:Nat)=>A3 (ds=[.list (A.map dAr),.list ((u3 A.length).map λk=>.int (lf L (2 * k+1))),nI src]) (A.length<=300) (Q (.int (- bl A.length (aU A) (aV A) (λk=>lf L (2 * k+1)) src)))
def zjf:DSp:=λds Q=>E3 λ(vs:List Va)(ps:List Pp)(ws:List Int)=>A3 (ds=[.tuple [.list (vs.map Va.d),.list (ps.map Pp.d)],.list (ws.map .int)]) (ZOk vs ps ws) (Q (.tuple [nI (2+vs.length),.list ((tY vs ps ws).map dAr)]))
def zyj:DSp:=λds Q=>E3 λ(vs:List Va)(ps:List Pp)(ws:List Int)=>A3 (ds=[.tuple [.list (vs.map Va.d),.list (ps.map Pp.d)],.list (ws.map .int)]) (ZOk vs ps ws) (∀r,IsCut vs ps ws r->Q r)
section
variable {P:aQ}{w:aR}{K:Fg}{mg:Str->Option aC}{base:aX}
theorem zul:FnScope ["arcs", "flow", "source", "gone", "come"] ["arcs", "flow", "source"] (zh0 zcg):=by walk_at"sc"
theorem zvw(M:Md K mg)(T:TopDef K "worth" zcg)(kA:mg "sum"=none)(vC:mg "zip"=none):Def P w K mg base "worth" 1 ["arcs", "flow", "source"] (spD K ziv):=by
 refine zn2 M T zul (by walk_at"h") (zba (by walk_at"i")) (zo2 ?_);walk_at"g";have nd:=zul.nd;refine⟨_,_,(zd0 (pset 3 nd (zu0 (zd5 (K:=K) rfl rfl) rfl kA zsi (za0 (zz4 (sc:=zh0 zcg) (N:=["arcs", "flow", "source", "gone", "come"]) (own:=["arc", "amount"]) (ix:=[2]) rfl rfl rfl (by walk_at"csc") (zc61 (K:=K) rfl rfl vC (za0 (pv 0) (za0 (pv 1) zg0))) (λ_ _ _ _=>⟨(zr6 (K:=K) (n:=2) rfl rfl (zj1 (pgn 0 (nds ["arc", "amount", "source"])) (zj1 (pgn 1 (nds ["arc", "amount", "source"])) zz6))),(zwe (zr0 (zo5 (K:=K) rfl (Room.units hr)) (pix w K hr (pv 0) ze0) (pv 2) (zf1 _))),(pv 1)⟩)) zg0)))
   (zd0 (pset 4 nd (zu0 (zd5 (K:=K) rfl rfl) rfl kA zsi (za0 (zz4 (sc:=zh0 zcg) (N:=["arcs", "flow", "source", "gone", "come"]) (own:=["arc", "amount"]) (ix:=[2]) rfl rfl rfl (by walk_at"csc") (zc61 (K:=K) rfl rfl vC (za0 (pv 0) (za0 (pv 1) zg0))) (λ_ _ _ _=>⟨(zr6 (K:=K) (n:=2) rfl rfl (zj1 (pgn 0 (nds ["arc", "amount", "source"])) (zj1 (pgn 1 (nds ["arc", "amount", "source"])) zz6))),(zwe (zr0 (zo5 (K:=K) rfl (Room.units hr)) (pix w K hr (pv 0) ze0) (pv 2) (zf1 _))),(pv 1)⟩)) zg0)))
   (zj0 (zz0 (zl1 zy8 (pv 3) (pv 4)))))),(zl0 (za1 (zf9 zk01 (zw0 (RfE.v (RfF.e (zx2 (zw21 (zw0 (zc0 0) (zw0 (zc0 1) zq1))) (ztb (zi1 (zo1 (i:=0) (n:=2) (by decide)) (zi1 (zo1 (i:=1) (n:=2) (by decide)) zy6))) (zq0 (zz1 q_eq (RfV.h (RfE.v (zm0 r_ix (zc0 0) rvi))) (RfV.h (zc0 2)))) (zi0 1)))) zq1)) (rgn 3))
   (zl0 (za1 (zf9 zk01 (zw0 (RfE.v (RfF.e (zx2 (zw21 (zw0 (zc0 0) (zw0 (zc0 1) zq1))) (ztb (zi1 (zo1 (i:=0) (n:=2) (by decide)) (zi1 (zo1 (i:=1) (n:=2) (by decide)) zy6))) (zq0 (zz1 q_eq (RfV.h (RfE.v (zm0 r_ix (zc0 0) rvi))) (RfV.h (zc0 2)))) (zi0 1)))) zq1)) (rgn 4))
   (zd1 (RfE.c (zm0 zgk (zc0 3) (zc0 4)))))),?_⟩
 rintro ds Qd ⟨A,L,src,rfl,O,q⟩;walk_at"ds";obtain⟨x1,I,s1⟩:=zfq (λk=>aU A k=src) (λk=>lf L (2 * k+1)) (u3 A.length);obtain⟨x2,z,s2⟩:=zfq (λk=>aV A k=src) (λk=>lf L (2 * k+1)) (u3 A.length);rw[zs01]at q;have u:zipD (A.map dAr) ((u3 A.length).map λk=>u6 (lf L (2 * k+1)))=(u3 A.length).map λk=>.tuple [.tuple [nI (aU A k),nI (aV A k),.int (zq8 A k)],.int (lf L (2 * k+1))]:=by
  rw[show((u3 A.length).map λk=>u6 (lf L (2 * k+1)))=((u3 A.length).map λk=>lf L (2 * k+1)).map u6 by rw[wF];rfl,za21,znr (by simp),wF];refine yG λk p=>?_;have:fx ((u3 A.length).map λk=>lf L (2 * k+1)) k=lf L (2 * k+1):=by
   unfold fx;rw[u9,xL (u8.mp p)];rfl
  show xC [_,u6 (fx _ k)]=_;rw[this];rfl
 walk_at"a";rw[u];refine zo21 (λk=>if aU A k=src then some (.int (lf L (2 * k+1)))else none) (by rw[aY];simp;lia) (λk p=>?_) ?_
 ·walk_at"cs";walk_at"dd";walk_at"k";exact two (λh=>by rw[aF (by lia)]) λh=>by rw[aA (by lia)]
 rw[I];walk_at"dd";walk_at"b";rw[u];refine zo21 (λk=>if aV A k=src then some (.int (lf L (2 * k+1)))else none) (by rw[aY];simp;lia) (λk p=>?_) ?_
 ·walk_at"cs";walk_at"dd";walk_at"k";exact two (λh=>by rw[aF (by lia)]) λh=>by rw[aA (by lia)]
 rw[z];walk_at"dd";walk_at"f";walk_at"dd";rw[s1,s2];unfold sm at q;rw[Int.neg_sub]at q;exact q
theorem zpc:FnScope ["yard", "wants", "wide", "arcs"] ["yard", "wants"] (zh0 zc3):=by walk_at"sc"
theorem zdl(M:Md K mg)(T:TopDef K "timeless" zc3)(jD:mg "enumerate"=none)(kA:mg "sum"=none)(O:Def P w K mg base "node" 1 ["yard", "moment", "vat"] (spD K zrp))(g_SOURCE:mg "SOURCE"=some gv_SOURCE)(z:RelV (.int 0) gv_SOURCE)(g_SINK:mg "SINK"=some gv_SINK)(I:RelV (.int 1) gv_SINK):Def P w K mg base "timeless" 2 ["yard", "wants"] (spD K zjf):=by
 refine zn2 M T zpc (by walk_at"h") (zba (by walk_at"i")) (zo2 ?_);walk_at"g";have nd:=zpc.nd;refine⟨_,_,(zd0 (pset 2 nd (zl1 (zg1 (K:=K) rfl) (zu0 (zd5 (K:=K) rfl rfl) rfl kA zsi (za0 (zz4 (sc:=zh0 zc3) (N:=["yard", "wants", "wide", "arcs"]) (own:=["vat"]) (ix:=[]) rfl rfl rfl (by walk_at"csc") (pi_W (K:=K) rfl (pix w K hr (pv 0) ze0)) (λ_ _ _ _=>⟨(pgn 0 (nds ["vat"])),zy4,(pix w K hr (pv 0) ze0)⟩)) zg0)) ze0))
   (zd0 (zg7 (i:=3) (sc:=zh0 zc3) (N:=["yard", "wants", "wide", "arcs"]) (own:=["vat", "told"]) (ix:=[0]) rfl rfl rfl (by walk_at"csc") nd rfl rfl (zfa (K:=K) rfl rfl jD (za0 (pix w K hr (pv 0) ze0) zg0)) (λ_ _ _ _=>⟨(zr6 (K:=K) (n:=2) rfl rfl (zj1 (pgn 0 (nds ["vat", "told", "yard"])) (zj1 (pgn 1 (nds ["vat", "told", "yard"])) zz6))),zy4,(ze1 (za0 (zw5 rfl g_SOURCE z) (za0 (zo0 O (rmn hr) rfl (za0 (pv 2) (za0 ze0 (za0 (pv 0) zg0)))) (za0 (pix w K hr (pv 1) ze0) zg0))))⟩))
   (zd0 (zm2 (zn9 (K:=K) rfl ğa ğd ğe (zx4 (K:=K) rfl) (pv 3) (za0 (zz4 (sc:=zh0 zc3) (N:=["yard", "wants", "wide", "arcs"]) (own:=["pipe"]) (ix:=[2,0]) rfl rfl rfl (by walk_at"csc") (pi_W (K:=K) rfl (pix w K hr (pv 0) ze0)) (λ_ _ _ _=>⟨(pgn 0 (nds ["pipe", "wide", "yard"])),zy4,(ze1 (za0 (zo0 O (rmn hr) rfl (za0 (pv 2) (za0 ze0 (za0 (pix w K hr (pv 0) ze0) zg0)))) (za0 (zo0 O (rmn hr) rfl (za0 (pv 2) (za0 ze0 (za0 (pix w K hr (pv 0) ze0) zg0)))) (za0 (pv 1) zg0))))⟩)) zg0)))
   (zd0 (zm2 (zn9 (K:=K) rfl ğa ğd ğe (zx4 (K:=K) rfl) (pv 3) (za0 (zz4 (sc:=zh0 zc3) (N:=["yard", "wants", "wide", "arcs"]) (own:=["vat", "want"]) (ix:=[0]) rfl rfl rfl (by walk_at"csc") (zfa (K:=K) rfl rfl jD (za0 (pv 1) zg0)) (λ_ _ _ _=>⟨(zr6 (K:=K) (n:=2) rfl rfl (zj1 (pgn 0 (nds ["vat", "want", "yard"])) (zj1 (pgn 1 (nds ["vat", "want", "yard"])) zz6))),zy4,(ze1 (za0 (zo0 O (rmn hr) rfl (za0 (pv 2) (za0 ze0 (za0 (pv 0) zg0)))) (za0 (zw5 rfl g_SINK I) (za0 (pv 1) zg0))))⟩)) zg0)))
   (zj0 (zz0 (ze1 (za0 (zo0 O (rmn hr) rfl (za0 (pv 0) (za0 ze0 (za0 ze0 zg0)))) (za0 (pv 3) zg0))))))))),(zl0 (za1 (zm0 zq7 (RfE.v (zf9 zk01 (zw0 (RfE.v (RfF.e (zx2 (zu61 (RfE.v (zm0 r_ix (zc0 0) rvi))) (zo1 (i:=0) (n:=1) (by decide)) zk6 (zm0 r_ix (zc0 0) rvi)))) zq1))) rvi) (rgn 2))
   (zl0 (ze6 (RfF.c (zx2 (zrc (zw0 (RfE.v (zm0 r_ix (zc0 0) rvi)) zq1)) (ztb (zi1 (zo1 (i:=0) (n:=2) (by decide)) (zi1 (zo1 (i:=1) (n:=2) (by decide)) zy6))) zk6 (zy1 (zb0 zc1 (zb0 (zs0 (zb0 (zi0 2) (zb0 zc1 (zb0 (zi0 0) zk0)))) (zb0 (zm0 r_ix (zc0 1) rvi) zk0)))))))
   (zl0 (zp2 (zcl zzk (zv0 3) (zb0 (RfF.e (zx2 (zu61 (RfE.v (zm0 r_ix (zc0 0) rvi))) (zo1 (i:=0) (n:=1) (by decide)) zk6 (zy1 (zb0 (zs0 (zb0 (zi0 2) (zb0 zc1 (zb0 (zm0 r_ix (zc0 0) rvi) zk0)))) (zb0 (zs0 (zb0 (zi0 2) (zb0 zc1 (zb0 (zm0 r_ix (zc0 0) rvi) zk0)))) (zb0 (zi0 1) zk0)))))) zk0)))
   (zl0 (zp2 (zcl zzk (zv0 3) (zb0 (RfF.e (zx2 (zrc (zw0 (zc0 1) zq1)) (ztb (zi1 (zo1 (i:=0) (n:=2) (by decide)) (zi1 (zo1 (i:=1) (n:=2) (by decide)) zy6))) zk6 (zy1 (zb0 (zs0 (zb0 (zi0 2) (zb0 zc1 (zb0 (zi0 0) zk0)))) (zb0 zc1 (zb0 (zi0 1) zk0)))))) zk0)))
   (zki 3 [] (zd1 (RfE.c (zy1 (zb0 (zs0 (zb0 (zi0 0) (zb0 zc1 (zb0 zc1 zk0)))) (zb0 (zi0 3) zk0)))))))))),?_⟩
 rintro ds Qd ⟨vs,ps,ws,rfl,y,q⟩;have hn:=y.n2;have hm:=y.m2;have hw:=y.lw;walk_at"ds";walk_at"a";walk_at"k";refine zes (λv=>.int v.fill) (by rw[aY];lia) (λv hv=>?_) ?_
 ·unfold Va.d;walk_at"cs";walk_at"dd";exact⟨_,rfl,rfl⟩
 have W:zfj (vs.map λv=>u6 v.fill)=some (vs.map Va.fill):=by
  rw[show(vs.map λv=>u6 v.fill)=(vs.map Va.fill).map u6 by rw[wF];rfl];exact ints_map _
 rw[W];walk_at"dd";walk_at"b";walk_at"k";rw[zk5];refine zes (λp=>dAr (0,2+p.1,p.2.fill)) (by rw[aY,yW];lia) (λp S=>?_) ?_
 ·obtain⟨i,v⟩:=p;unfold Va.d;walk_at"cs";walk_at"dd";exact⟨vs,_,0,i,rfl,by lia,by lia,_,rfl,by simp[dAr,nI]⟩
 walk_at"f";have e1:(vs.mapIdx λi x=>(i,x)).map (λp=>dAr (0,2+p.1,p.2.fill))=((u3 (vs.map Va.fill).length).map λi=>((0,2+i,fx (vs.map Va.fill) i):Ar)).map dAr:=by
  rw[wF,u4];apply yD;intro j;rw[u9,u9,xQ];by_cases h:j < vs.length
  ·rw[xL h,u5 h];show some (dAr (0,2+j,vs[j].fill))=some (dAr (0,2+j,fx (vs.map Va.fill) j));unfold fx;rw[u9,u5 h];rfl
  ·rw[v8 (by lia),v8 (by simpa using h)];rfl
 rw[e1];walk_at"a";walk_at"k";refine zes (λp=>dAr (2+p.u,2+p.v,(vs.map Va.fill).sum+1)) (by rw[aY];lia) (λp S=>?_) ?_
 ·unfold Pp.d;walk_at"cs";walk_at"dd";exact⟨_,rfl,vs,_,0,p.u,rfl,by lia,by lia,_,rfl,vs,_,0,p.v,rfl,by lia,by lia,by simp[dAr,nI]⟩
 refine⟨by simp;lia,hJ _ ?_⟩;clear hJ;have e2:ps.map (λp=>dAr (2+p.u,2+p.v,(vs.map Va.fill).sum+1))=((ps.map λp=>(p.u,p.v)).map λp=>((2+p.1,2+p.2,(vs.map Va.fill).sum+1):Ar)).map dAr:=by
  rw[wF,wF];rfl
 rw[e2,<- v7];walk_at"a";rw[zk5];refine zes (λp=>dAr (2+p.1,1,p.2)) (by rw[aY,yW];lia) (λp S=>?_) ?_
 ·obtain⟨i,x⟩:=p;walk_at"cs";walk_at"dd";exact⟨vs,_,0,i,rfl,by lia,by lia,by simp[dAr,nI]⟩
 refine⟨by simp;lia,hJ _ ?_⟩;clear hJ;have Z:(ws.mapIdx λi x=>(i,x)).map (λp=>dAr (2+p.1,1,p.2))=((u3 ws.length).map λi=>((2+i,1,fx ws i):Ar)).map dAr:=by
  rw[wF];apply yD;intro j;rw[u9,u9,xQ];by_cases h:j < ws.length
  ·rw[xL h,u5 h];show some (dAr (2+j,1,ws[j]))=some (dAr (2+j,1,fx ws j));unfold fx;rw[u5 h];rfl
  ·rw[v8 (by lia),v8 (by simpa using h)];rfl
 rw[Z,<- v7];walk_at"dd";refine⟨_,_,rfl,rfl,vs,_,1,0,rfl,by lia,by lia,?_⟩;rw[show 2+1 * vs.length+0=2+vs.length by lia];exact q
theorem ztf:FnScope ["yard", "wants", "told", "found"] ["yard", "wants"] (zh0 zra):=by walk_at"sc"
theorem zwq(M:Md K mg)(T:TopDef K "cut_off" zra)(jL:mg "len"=none)(jI:mg "range"=none)(kA:mg "sum"=none)(W:Def P w K mg base "worth" 1 ["arcs", "flow", "source"] (spD K ziv))(kF:DefN P w K mg base "greatest" 4 ["count", "arcs", "source", "sink", "flow"] (spD K zjb))(jQ:Def P w K mg base "node" 1 ["yard", "moment", "vat"] (spD K zrp))(Z:Def P w K mg base "timeless" 2 ["yard", "wants"] (spD K zjf))(g_SOURCE:mg "SOURCE"=some gv_SOURCE)(p:RelV (.int 0) gv_SOURCE)(g_SINK:mg "SINK"=some gv_SINK)(u:RelV (.int 1) gv_SINK):Def P w K mg base "cut_off" 5 ["yard", "wants"] (spD K zyj):=by
 refine zn2 M T ztf (by walk_at"h") (zba (by walk_at"i")) (zo2 ?_);walk_at"g";have nd:=ztf.nd;refine⟨_,_,(zd0 (pset 2 nd (zo0 Z (rmn hr) rfl (za0 (pv 0) (za0 (pv 1) zg0))))
   (zd0 (pset 3 nd (ztm kF (rmn hr) rfl (za0 (pix w K hr (pv 2) ze0) (za0 (pix w K hr (pv 2) ze0) (za0 (zw5 rfl g_SOURCE p) (za0 (zw5 rfl g_SINK u) zg0))))))
   (zd0 (zm7 (zr0 (zo5 (K:=K) rfl (Room.units hr)) (zo0 W (rmn hr) rfl (za0 (pix w K hr (pv 2) ze0) (za0 (pix w K hr (pv 3) ze0) (za0 (zw5 rfl g_SOURCE p) zg0)))) (zu0 (zd5 (K:=K) rfl rfl) rfl kA zsi (za0 (pv 1) zg0)) (zf1 _)) (zj0 (zz0 zzo)) zm1)
   (zj0 (zz0 (zz4 (sc:=zh0 zra) (N:=["yard", "wants", "told", "found"]) (own:=["vat"]) (ix:=[0,3]) rfl rfl rfl (by walk_at"csc") (zl2 rfl jI (za0 (zu0 (zk1 (K:=K) rfl) rfl jL zb6 (za0 (pix w K hr (pv 0) ze0) zg0)) zg0)) (λ_ _ _ _=>⟨(pgn 0 (nds ["vat", "yard", "found"])),(zwe (zr0 (zzd (w:=w) (K:=K) (Room.units hr) rfl rfl) (zo0 jQ (rmn hr) rfl (za0 (pv 1) (za0 ze0 (za0 (pv 0) zg0)))) (pix w K hr (pv 2) ze0) (by with_unfolding_all rfl))),(pv 0)⟩))))))),(zl0 (za1 (zs0 (zb0 (zi0 0) (zb0 (zi0 1) zk0))) (rgn 2))
   (zl0 (za1 (zeq (zb0 (zm0 r_ix (zc0 2) rvi) (zb0 (zm0 r_ix (zc0 2) rvi) (zb0 zc1 (zb0 zc1 zk0))))) (rgn 3))
   (zl0 (zj7 (zq0 (zz1 q_eq (RfV.h (RfE.v (zs0 (zb0 (zm0 r_ix (zc0 2) rvi) (zb0 (zm0 r_ix (zc0 3) rvi) (zb0 zc1 zk0)))))) (RfV.h (RfE.v (zf9 zk01 (zw0 (zc0 1) zq1)))))) (zd1 (RfE.c zxo)) zn1)
   (zd1 (RfF.c (zx2 (RfI.j (zu7 (zb0 (zf9 zle (zw0 (RfE.v (zm0 r_ix (zc0 0) rvi)) zq1)) zk0))) (zo1 (i:=0) (n:=1) (by decide)) (zq0 (zm0 zg41 (RfE.v (zs0 (zb0 (zi0 1) (zb0 zc1 (zb0 (zi0 0) zk0))))) (RfE.v (zm0 r_ix (zc0 2) rvi)))) (zi0 0))))))),?_⟩
 rintro ds Qd ⟨vs,ps,ws,rfl,y,q⟩;have hn:=y.n2;have hm:=y.m2;have hw:=y.lw;walk_at"ds";walk_at"a";refine⟨vs,ps,ws,rfl,y,hJ _ ?_⟩;clear hJ;have hA:(tY vs ps ws).length<=48:=by unfold tY;rw[zae,u4,u4];lia
 have ar:=y.ar;have O:∀L side,Best (2+vs.length) (tY vs ps ws) (vU (tY vs ps ws).length 0) 0 1 L side->IsCut vs ps ws (if - bl (tY vs ps ws).length (aU (tY vs ps ws)) (aV (tY vs ps ws)) (λk=>lf L (2 * k+1)) 0=ws.sum then .none else .list (((u3 vs.length).filter λv=>decide (2+v ∉ side)).map nI)):=λL side b=>⟨L,side,b,rfl⟩
 generalize hG:tY vs ps ws=A at hA ar O;walk_at"a";refine⟨_,rfl,_,rfl,2+vs.length,A,0,1,.none,vU A.length 0,rfl,.inl ⟨rfl,rfl⟩,yQ,by lia,by lia,λa S=>⟨(ar a S).1,(ar a S).2.1⟩,λk a x h1 I=>?_,by lia,by lia,by decide,λL side b=>hJ _ ?_⟩
 ·rw[xH]at I;split at I
  ·cases I;exact⟨by lia,(ar a (wK h1)).2.2⟩
  ·cases I
 clear hJ;have z:=O L side b;have hsd:=zx0 _ side b.nd b.bd;walk_at"a";refine⟨_,rfl,_,rfl,A,L,0,rfl,by lia,ws,ints_map ws,?_⟩;walk_at"dd";refine two (λh=>?_) λh=>hJ _ ?_
 ·rw[aF h]at z;exact q _ z
 clear hJ;rw[aA h]at z;walk_at"dd";walk_at"k";rw[u4];refine⟨by lia,by lia,?_⟩;rw[v6];unfold rngD;refine zo21 (λk=>if 2+k ∉ side then some (nI k)else none) (by rw[aY];simp;lia) (λk hk=>?_) ?_
 ·walk_at"cs";walk_at"dd";rw[show(0:Int)+(k:Int)=(k:Int) by lia];refine⟨vs,_,0,k,rfl,by lia,by lia,_,rfl,?_⟩;have i1:((side.map nI).any λy=>eqF y (.int ((2+0 * vs.length+k:Nat):Int)))=decide (2+0 * vs.length+k∈side):=zy71 _ _;have i2:2+0 * vs.length+k=2+k:=by lia
  walk_at"dd";rw[i1,i2];refine⟨zd11 side,two (λh=>?_) λh=>?_⟩
  ·rw[aF (by simpa using h)]
  ·rw[aA (by simpa using h)]
 rw[zrl];exact q _ z
end
structure Soon(vs:List Va)(ps:List Pi)(ws:List Int)(u m:Nat)(f:Fm)(pt:List D):Prop where
 le:m<=u
 met:Met vs ps ws m ws.sum f
 pt:(m=0/\pt=[]) \/ ∃(M:Int)(side:List Nat),1<=m/\pt=ptN vs ps (m - 1) side/\Ovr vs ps ws (m - 1) M side/\M < ws.sum
def Late(vs:List Va)(ps:List Pi)(ws:List Int)(u l:Nat):Prop:=∀n M,u<=n->n<=l->(ntOf vs ps n).Val (cW ws) M->M=ws.sum
def Pi.pp(p:Pi):Pp:=⟨p.u,p.v,.int (p.len:Int),.int p.pr,p.g.d⟩
def zjc:DSp:=λds Q=>E6 λ(vs:List Va)(ps:List Pi)(ws:List Int)(u l:Nat)(f:Fm)=>A8 (ds=[dY vs ps,.list (ws.map .int),.int (l:Int),.list ((ze3 ps l f.g l).map Le.d)]) (YOk vs ps ws) (l<=60) ((l+1) * vs.length<=122) (Met vs ps ws l ws.sum f) (u<=l) (Late vs ps ws u l) (∀m f pt,Soon vs ps ws u m f pt->Q (.tuple [.str "met",.int (m:Int),.list ((ze3 ps m f.g m).map Le.d),.list pt]))
def zsj:DSp:=λds Q=>E4 λ(vs:List Va)(ps:List Pi)(ws:List Int)(l:Nat)=>A8 (ds=[dY vs ps,.list (ws.map .int),.int (l:Int)]) (YOk vs ps ws) (ZOk vs (ps.map Pi.pp) ws) (l<=60) ((l+1) * vs.length<=122) ((∀r:List Nat,IsCut vs (ps.map Pi.pp) ws (.list (r.map nI))->Q (.tuple [.str "never",.list (r.map nI)]))) ((IsCut vs (ps.map Pi.pp) ws .none->∀M side,Ovr vs ps ws l M side->M < ws.sum->Q (.tuple [.str "later",.list (ptN vs ps l side)]))) ((IsCut vs (ps.map Pi.pp) ws .none->∀m f pt,Soon vs ps ws l m f pt->Q (.tuple [.str "met",.int (m:Int),.list ((ze3 ps m f.g m).map Le.d),.list pt])))
theorem Met.lt{vs:List Va}{ps:List Pi}{f:Fm}(h:Met vs ps ws n M f)(hl:ws.length=vs.length)(ne:M≠ws.sum):M < ws.sum:=by
 have:=h.val.le;rw[zss,hl];rw[zss,hl]at ne;exact Int.lt_iff_le_and_ne.mpr ⟨this,ne⟩
section
variable {P:aQ}{w:aR}{K:Fg}{mg:Str->Option aC}{base:aX}
theorem zyb:FnScope ["yard", "wants", "last", "plan", "met", "shut", "part", "middle", "found"] ["yard", "wants", "last", "plan"] (zh0 zl9):=by walk_at"sc"
theorem zqh(M:Md K mg)(T:TopDef K "first_met" zl9)(qL:Def P w K mg base "met_at" 8 ["yard", "wants", "until"] (spD K zri)):Def P w K mg base "first_met" 9 ["yard", "wants", "last", "plan"] (spD K zjc):=by
 refine zn2 M T zyb (by walk_at"h") (zba (by walk_at"i")) (zo2 ?_);walk_at"g";have nd:=zyb.nd;refine⟨_,_,(zd0 (pset 4 nd (pv 2))
   (zd0 (pset 5 nd (zle1 zr31 ze0))
   (zd0 (pset 6 nd (zb2 zg0))
   (zd0 (zi9 a8 (zr0 zbw (zl1 zy8 (pv 4) (pv 5)) ze0 (zf1 _)) (zd0 (pset 7 nd (zl1 zi2 (zl1 (zg1 (K:=K) rfl) (pv 4) (pv 5)) ze0))
   (zd0 (pset 8 nd (zo0 qL (rmn hr) rfl (za0 (pv 0) (za0 (pv 1) (za0 (pv 7) zg0)))))
   (zj0 (zm7 (zr0 (zo5 (K:=K) rfl (Room.units hr)) (pix w K hr (pv 8) ze0) zy5 (zf1 _)) (zd0 (pset 4 nd (pv 7))
   (zj0 (pset 3 nd (pix w K hr (pv 8) ze0)))) (zd0 (pset 5 nd (pv 7))
   (zj0 (pset 6 nd (pix w K hr (pv 8) ze0)))))))))
   (zj0 (zz0 (ze1 (za0 zy5 (za0 (pv 4) (za0 (pv 3) (za0 (pv 6) zg0))))))))))),(zl0 (za1 (zi0 2) (rgn 4))
   (zl0 (za1 (zx31 zc1) (rgn 5))
   (zl0 (za1 (RfF.e (zd6 zk0)) (rgn 6))
   (zl0 (zq9 (zq0 (zm0 r_gt (RfE.v (zm0 zgk (zc0 4) (zc0 5))) rvi)) (zl0 (za1 (zm0 zyk (RfE.v (zm0 zq7 (zc0 4) (zc0 5))) rvi) (rgn 7))
   (zl0 (za1 (zs0 (zb0 (zi0 0) (zb0 (zi0 1) (zb0 (zi0 7) zk0)))) (rgn 8))
   (zj7 (zq0 (zz1 q_eq (RfV.h (RfE.v (zm0 r_ix (zc0 8) rvi))) (RfV.h (RfE.v zc6)))) (zl0 (za1 (zi0 7) (rgn 4))
   (za1 (zm0 r_ix (zc0 8) rvi) (rgn 3))) (zl0 (za1 (zi0 7) (rgn 5))
   (za1 (zm0 r_ix (zc0 8) rvi) (rgn 6)))))))
   (zd1 (RfE.c (zy1 (zb0 zc6 (zb0 (zi0 4) (zb0 (zi0 3) (zb0 (zi0 6) zk0))))))))))),?_⟩
 rintro ds Qd ⟨vs,ps,ws,u,l,f,rfl,y,hl,hN,hm,hu,O,q⟩;walk_at"ds";walk_at"dn";walk_at"dn";walk_at"dn";refine zf0 λJ hJ=>?_;refine⟨λμ U=>E6 λ(m:Nat)(s:Int)(f:Fm)(pt:List D)(s7 Z:Sl)=>A8 (μ=((m:Int) - s).toNat) (m<=l) (-1<=s) (s < (m:Int)) (s < (u:Int)) (Met vs ps ws m ws.sum f) (((s=-1/\pt=[]) \/ ∃(M:Int)(side:List Nat),0<=s/\pt=ptN vs ps s.toNat side/\Ovr vs ps ws s.toNat M side/\M < ws.sum)) (U=[.sh (dY vs ps),.sh (.list (ws.map .int)),.sh (.int (l:Int)),.sh (.list ((ze3 ps m f.g m).map Le.d)),.sh (.int (m:Int)),.sh (.int s),.sh (.list pt),s7,Z]),⟨_,l,-1,f,[],.un,.un,rfl,u7 _,by lia,by lia,by lia,hm,.inl ⟨rfl,rfl⟩,rfl⟩,?_⟩;rintro μ U ⟨m,s,f,pt,s7,Z,rfl,h1,h2,h3,h4,met,hp,rfl⟩;walk_at"dd";refine two (λz=>?_) λz=>hJ _ ?_
 ·walk_at"c";walk_at"f";obtain⟨h,eh⟩:=yX (show 0<=((m:Int)+s) / 2 by lia);have e1:s < (h:Int):=by lia
  have I:(h:Int) < (m:Int):=by lia
  rw[eh];clear eh;have W:(h+1) * vs.length<=122:=wL (yM _ (by lia)) hN;walk_at"a";refine⟨vs,ps,ws,h,rfl,y,by lia,W,λM f' side p S=>hJ _ ?_⟩;clear hJ;by_cases e:M=ws.sum
  ·subst e;rw[aF rfl,aF rfl];walk_at"dd";walk_at"k";walk_at"dn";walk_at"dd";exact⟨_,rfl,((h:Int) - s).toNat,by lia,h,s,f',pt,_,_,rfl,by lia,h2,by lia,h4,p,hp,rfl⟩
  ·rw[aA e,aA e];walk_at"dd";walk_at"k";rw[aA (by decide +kernel)];have hu2:h < u:=by
    rcases wX h u with x|x
    ·exact x
    ·exact aN (O h M x (by lia) p.val) e
   walk_at"dn";walk_at"dd";exact⟨_,rfl,((m:Int) - (h:Int)).toNat,by lia,m,(h:Int),f,_,_,_,rfl,h1,by lia,I,by lia,met,.inr ⟨M,side,by lia,by rw[v6],S,p.lt y.lw e⟩,rfl⟩
 ·clear hJ;walk_at"dd";refine q m f pt ⟨by lia,met,?_⟩;rcases hp with⟨e,I⟩|⟨M,side,e,I,e3,e4⟩
  ·exact .inl ⟨by lia,I⟩
  ·obtain⟨n,rfl⟩:=yX e;rw[v6]at I e3;obtain rfl:m=n+1:=by lia
   exact .inr ⟨M,side,by lia,I,e3,e4⟩
theorem zmf:FnScope ["yard", "wants", "last", "vats", "found"] ["yard", "wants", "last"] (zh0 zde):=by walk_at"sc"
theorem zjr(M:Md K mg)(T:TopDef K "soonest" zde)(O:Def P w K mg base "met_at" 8 ["yard", "wants", "until"] (spD K zri))(z:Def P w K mg base "cut_off" 5 ["yard", "wants"] (spD K zyj))(I:Def P w K mg base "first_met" 9 ["yard", "wants", "last", "plan"] (spD K zjc)):Def P w K mg base "soonest" 10 ["yard", "wants", "last"] (spD K zsj):=by
 refine zn2 M T zmf (by walk_at"h") (zba (by walk_at"i")) (zo2 ?_);walk_at"g";have nd:=zmf.nd;refine⟨_,_,(zd0 (pset 3 nd (zo0 z (rmn hr) rfl (za0 (pv 0) (za0 (pv 1) zg0))))
   (zd0 (zm7 (zr0 zwv (pv 3) zzo (zf1 _)) (zj0 (zz0 (ze1 (za0 zy5 (za0 (pv 3) zg0))))) zm1)
   (zd0 (pset 4 nd (zo0 O (rmn hr) rfl (za0 (pv 0) (za0 (pv 1) (za0 (pv 2) zg0)))))
   (zd0 (zm7 (zr0 (zo5 (K:=K) rfl (Room.units hr)) (pix w K hr (pv 4) ze0) zy5 (zf1 _)) (zj0 (zz0 (ze1 (za0 zy5 (za0 (pix w K hr (pv 4) ze0) zg0))))) zm1)
   (zj0 (zz0 (zo0 I (rmn hr) rfl (za0 (pv 0) (za0 (pv 1) (za0 (pv 2) (za0 (pix w K hr (pv 4) ze0) zg0))))))))))),(zl0 (za1 (zs0 (zb0 (zi0 0) (zb0 (zi0 1) zk0))) (rgn 3))
   (zl0 (zj7 (zq0 (zm0 zo31 (zc0 3) (RfE.v zxo))) (zd1 (RfE.c (zy1 (zb0 zc6 (zb0 (zi0 3) zk0))))) zn1)
   (zl0 (za1 (zs0 (zb0 (zi0 0) (zb0 (zi0 1) (zb0 (zi0 2) zk0)))) (rgn 4))
   (zl0 (zj7 (zq0 (zz1 q_eq (RfV.h (RfE.v (zm0 r_ix (zc0 4) rvi))) (RfV.h (RfE.v zc6)))) (zd1 (RfE.c (zy1 (zb0 zc6 (zb0 (zm0 r_ix (zc0 4) rvi) zk0))))) zn1)
   (zd1 (RfE.c (zs0 (zb0 (zi0 0) (zb0 (zi0 1) (zb0 (zi0 2) (zb0 (zm0 r_ix (zc0 4) rvi) zk0))))))))))),?_⟩
 rintro ds Qd ⟨vs,ps,ws,l,rfl,y,q,hl,u,Z,W,S⟩;have ed:ps.map Pi.d=(ps.map Pi.pp).map Pp.d:=by rw[wF];rfl
 walk_at"ds";walk_at"a";refine⟨vs,ps.map Pi.pp,ws,by unfold dY;rw[ed],q,λr hr=>hJ _ ?_⟩;clear hJ;rcases IsCut.some q hr with⟨rfl,_⟩|⟨r,rfl,_⟩
 ·walk_at"a";walk_at"b";refine⟨vs,ps,ws,l,rfl,y,hl,u,λM f side met p=>hJ _ ?_⟩;clear hJ;by_cases e:M=ws.sum
  ·subst e;rw[aF rfl,aF rfl];walk_at"a";walk_at"k";rw[aA (by decide +kernel)];walk_at"f";walk_at"dd";refine⟨_,rfl,vs,ps,ws,l,l,f,rfl,y,hl,u,met,u7 _,λn M' h1 h2 v=>?_,S hr⟩;obtain rfl:n=l:=by lia
   obtain⟨f1,t1,a1,b1,c1⟩:=v.ex;obtain⟨f2,t2,a2,b2,c2⟩:=met.val.ex;have:=met.val.mx _ _ a1.lk b1;have:=v.mx _ _ a2.lk b2;lia
  ·rw[aA e,aA e];walk_at"a";walk_at"k";exact⟨_,rfl,W hr M side p (met.lt y.lw e)⟩
 ·walk_at"a";exact Z r hr
end
theorem ga(h:List Int)(v:Nat)(p:v < h.length):atI (h.map u6) ((v:Nat):Int)=some (.int (h.getD v 0)):=zie (by lia) (by rw[v6,u9,wD,u5 p];rfl)
theorem gm{α:Type}{l:List α}(f:α->D){x:α}(h:l[i]?=some x):atI (l.map f) ((i:Nat):Int)=some (f x):=zie (by lia) (by rw[v6,u9,h];rfl)
def zg6:DSp:=λds Q=>E2 λ(ns:List Int)(k:Nat)=>A3 (ds=[.list (ns.map .int),.int (k:Int)]) (k<=1000) (∀m:Int,Q (.int m))
def zo9:DSp:=λds Q=>∃i:Int,ds=[.int i]/\Q (.bool true)
def zn7:DSp:=λds Q=>E2 λ(g:Gt)(m:Nat)=>A3 (ds=[g.d,.int (m:Int)]) g.ok (Q (.int (g.at m)))
structure Yw(fl:List Int)(ps:List Pi):Prop where
 n1:1<=fl.length
 n3:fl.length<=3
 f:∀x∈fl,0<=x/\0<=x
 m4:ps.length<=4
 p:∀p∈ps,PiOk fl.length p/\p.u=0/\p.v=1
def zpf:DSp:=λds Q=>∃cs:List Int,ds=[.list (cs.map .int)]/\cs.length<=80/\∀x:Int,1<=x->Q (.int x)
def zed:DSp:=λds Q=>E2 λl c:Int=>A3 (ds=[.int l,.int c]) (1<=l) (∀x:Int,0<=x->Q (.int x))
def zzf:DSp:=λds Q=>E2 λc l:Int=>A3 (ds=[.int c,.int l]) (1<=l) (∀p:Pi,PiOk 2 p->p.u=0->p.v=1->Q p.d)
def cmP(ps:List Pi)(m:Nat):Int:=su ps λp=>su (u3 (m+1 - p.len)) λt=>p.g.at t
def Due(ps:List Pi)(lk:Int)(l:Nat)(r:Int):Prop:=(∃m:Nat,m<=l/\r=(m:Int)/\lk<=cmP ps m/\∀j,j < m->cmP ps j < lk) \/ (r=-1/\∀j,j<=l->cmP ps j < lk)
def znk:DSp:=λds Q=>E3 λ(ps:List Pi)(lk:Int)(l:Nat)=>A5 (ds=[.list (ps.map Pi.d),.int lk,.int (l:Int)]) (l<=60) (ps.length<=4) ((∀p∈ps,p.g.ok/\p.len<=20)) (∀r,Due ps lk l r->Q (.int r))
def vA(lk p:Int):Va:=⟨"ab",lk+p,lk+p⟩
def vB(lk li sp:Int):Va:=⟨"ba",li+lk+sp,li⟩
def zbf:DSp:=λds Q=>E2 λ(ns:List Int)(lk:Int)=>ds=[.list (ns.map .int),.int lk]/\∀p li sp q u:Int,0<=p->0<=li->0<=sp->(q=0 \/ q=p)->(u=p/\p<=sp \/ u=sp/\sp<=p)->Q (.tuple [.list ([vA lk p,vB lk li sp].map Va.d),.list ([q,li+lk].map .int),.int u])
section
variable {P:aQ}{w:aR}{K:Fg}{mg:Str->Option aC}{base:aX}
theorem za8:FnScope ["script", "k"] ["script", "k"] (zh0 zp5):=by walk_at"sc"
theorem zfc(M:Md K mg)(T:TopDef K "_law_cell_at" zp5)(jL:mg "len"=none):Def P w K mg base "_law_cell_at" 1 ["script", "k"] (spD K zg6):=by
 refine zn2 M T za8 (by walk_at"h") (zba (by walk_at"i")) (zo2 ?_);walk_at"g";have nd:=za8.nd;refine⟨_,_,(zd0 (zm7 (zr0 zcy (pv 1) (zu0 (zk1 (K:=K) rfl) rfl jL zb6 (za0 (pv 0) zg0)) (zf1 _)) (zj0 (zz0 (pix w K hr (pv 0) (pv 1)))) zm1)
   (zj0 (zz0 ze0))),(zl0 (zj7 (zq0 (zm0 r_lt (zc0 1) (RfE.v (zf9 zle (zw0 (zc0 0) zq1))))) (zd1 (RfE.c (zm0 r_ix (zc0 0) (zc0 1)))) zn1)
   (zd1 (RfE.c zc1))),?_⟩
 rintro ds Qd ⟨ns,k,rfl,p,q⟩;walk_at"ds";walk_at"a";rw[u4];refine two (λh=>⟨_,ga ns k (by lia),q _⟩) λh=>hJ _ ?_;clear hJ;walk_at"dd";exact q _
theorem zca:FnScope ["found"] ["found"] (zh0 ze8):=by walk_at"sc"
theorem zeg(M:Md K mg)(T:TopDef K "_law_whole" ze8)(kt:Kit K)(uY:mg "bool"=none)(vI:mg "int"=none)(jJ:mg "isinstance"=none):Def P w K mg base "_law_whole" 1 ["found"] (spD K zo9):=by
 refine zn2 M T zca (by walk_at"h") (zba (by walk_at"i")) (zo2 ?_);walk_at"g";have nd:=zca.nd;refine⟨_,_,(zj0 (zz0 (zq41 (zu0 (zc8 (K:=K) rfl) rfl jJ zr1 (za0 (pv 0) (za0 (zub (v:=.ty "int") rfl vI zwa1 rfl) zg0))) (zg71 (zrb1 (zu0 (zc8 (K:=K) rfl) rfl jJ zr1 (za0 (pv 0) (za0 (zub (v:=.ty "bool") rfl uY zx41 rfl) zg0)))))))),(zd1 (RfE.c (zhv (zmz kt (by simp) (zc0 0)) (zs31 (zmz kt (by simp) (zc0 0)))))),?_⟩;rintro ds Qd ⟨i,rfl,q⟩;walk_at"ds";walk_at"dd";exact⟨λ_=>trivial,λ_=>trivial,q⟩
theorem zga:FnScope ["gate", "moment"] ["gate", "moment"] (zh0 zb8):=by walk_at"sc"
theorem zrf(M:Md K mg)(T:TopDef K "_law_width" zb8) :Def P w K mg base "_law_width" 1 ["gate", "moment"] (spD K zn7):=by
 refine zn2 M T zga (by walk_at"h") (zba (by walk_at"i")) (zo2 ?_);walk_at"g";have nd:=zga.nd;refine⟨_,_,(zd0 (zm7 (PW.pt (zsk (zr0 (zo5 (K:=K) rfl (Room.units hr)) (pix w K hr (pv 0) ze0) zy5 (zf1 _)) (zbg (zr0 zcy (pv 1) (pix w K hr (pv 0) ze0) (zf1 _))))) (zj0 (zz0 ze0)) zm1)
   (zd0 (zm7 (PW.pt (zsk (zr0 (zo5 (K:=K) rfl (Room.units hr)) (pix w K hr (pv 0) ze0) zy5 (zf1 _)) (zbg (zr0 zbw (zl1 zu4 (pv 1) (pix w K hr (pv 0) ze0)) ze0 (zf1 _))))) (zj0 (zz0 (pix w K hr (pv 0) ze0))) zm1)
   (zj0 (zz0 (pix w K hr (pv 0) ze0))))),(zl0 (zj7 (zel (zq0 (zz1 q_eq (RfV.h (RfE.v (zm0 r_ix (zc0 0) rvi))) (RfV.h (RfE.v zc6)))) (zq0 (zm0 r_lt (zc0 1) (RfE.v (zm0 r_ix (zc0 0) rvi))))) (zd1 (RfE.c zc1)) zn1)
   (zl0 (zj7 (zel (zq0 (zz1 q_eq (RfV.h (RfE.v (zm0 r_ix (zc0 0) rvi))) (RfV.h (RfE.v zc6)))) (zq0 (zm0 r_gt (RfE.v (zm0 zic (zc0 1) (RfE.v (zm0 r_ix (zc0 0) rvi)))) rvi))) (zd1 (RfE.c (zm0 r_ix (zc0 0) rvi))) zn1)
   (zd1 (RfE.c (zm0 r_ix (zc0 0) rvi))))),?_⟩
 rintro ds Qd ⟨g,m,rfl,ok,q⟩;walk_at"ds";cases g with
|st x =>
  unfold Gt.d;walk_at"a";walk_at"k";rw[aA (by decide +kernel)];walk_at"b";walk_at"k";rw[aA (by decide +kernel)];walk_at"f";walk_at"dd";exact⟨_,rfl,q⟩
|la x f =>
  unfold Gt.d;walk_at"a";walk_at"k";walk_at"k";refine two (λh=>?_) λh=>hJ _ ?_
  ·have e:Gt.at (.la x f) m=0:=aA (by lia);rw[e]at q;exact q
  walk_at"c";walk_at"k";rw[aA (by decide +kernel)];walk_at"f";walk_at"dd";have e:Gt.at (.la x f) m=x:=aF (by lia);rw[e]at q;exact⟨_,rfl,q⟩
|ti x y t =>
  obtain⟨p,o2⟩:=ok;unfold Gt.d;walk_at"a";walk_at"k";rw[aA (by decide +kernel)];walk_at"b";walk_at"k";walk_at"k";refine⟨by lia,two (λh=>⟨_,rfl,?_⟩) λh=>hJ _ ?_⟩
  ·have e:Gt.at (.ti x y t) m=y:=aA (by lia);rw[e]at q;exact q
  clear hJ;walk_at"dd";have e:Gt.at (.ti x y t) m=x:=aF (by lia);rw[e]at q;exact⟨_,rfl,q⟩
theorem zwa:FnScope ["cells", "found", "k"] ["cells"] (zh0 zu9):=by walk_at"sc"
theorem zmg(M:Md K mg)(T:TopDef K "_law_lack" zu9)(jL:mg "len"=none)(jI:mg "range"=none):Def P w K mg base "_law_lack" 1 ["cells"] (spD K zpf):=by
 refine zn2 M T zwa (by walk_at"h") (zba (by walk_at"i")) (zo2 ?_);walk_at"g";have nd:=zwa.nd;refine⟨_,_,(zd0 (pset 1 nd ze0)
   (zd0 (zo7 a8 rfl (zl2 rfl jI (za0 (zu0 (zk1 (K:=K) rfl) rfl jL zb6 (za0 (pv 0) zg0)) zg0)) (pgn 2 nd) (zj0 (pset 1 nd (zl1 zu4 (zl1 (zg1 (K:=K) rfl) (zl1 zib (pv 1) ze0) (zl1 zib (zl1 zu4 (pix w K hr (pv 0) (pv 2)) (zl1 zlo ze0 ze0)) (zl1 (zg1 (K:=K) rfl) (pv 2) ze0))) (zl1 zlo ze0 ze0)))))
   (zj0 (zz0 (zl1 (zg1 (K:=K) rfl) ze0 (pv 1)))))),(zl0 (za1 zc1 (rgn 1))
   (zl0 (zp7 (zu7 (zb0 (zf9 zle (zw0 (zc0 0) zq1)) zk0)) (rgn 2) (za1 (zm0 zic (RfE.v (zm0 zq7 (RfE.v (zm0 zl31 (zc0 1) rvi)) (RfE.v (zm0 zl31 (RfE.v (zm0 zic (RfE.v (zm0 r_ix (zc0 0) (zc0 2))) (RfE.v (zm0 zz21 rvi rvi)))) (RfE.v (zm0 zq7 (zc0 2) rvi)))))) (RfE.v (zm0 zz21 rvi rvi))) (rgn 1)))
   (zd1 (RfE.c (zm0 zq7 rvi (zc0 1)))))),?_⟩
 rintro ds Qd ⟨cs,rfl,hl,q⟩;walk_at"ds";walk_at"dn";walk_at"a";rw[u4];refine⟨by lia,by lia,?_⟩;rw[v6];unfold rngD;refine zn3 (λ_ U=>∃(x:Int)(s2:Sl),0<=x/\U=[.sh (.list (cs.map .int)),.sh (.int x),s2]) ⟨_,.un,by decide,rfl⟩ ?_ ?_
 ·rintro i k U z ⟨x,s2,u,rfl⟩;clear hJ;obtain⟨I,p⟩:=wG.mp z;simp at I p;subst p;rw[show(0:Int)+(i:Int)=(i:Int) by lia];walk_at"dd";refine⟨.inr ⟨by decide,by decide⟩,_,ga cs i (by lia),by decide,?_⟩;walk_at"dd";exact⟨.inr ⟨by lia,by lia⟩,by decide,_,_,by lia,rfl⟩
 ·rintro U ⟨x,s2,u,rfl⟩;walk_at"f";walk_at"dd";exact q _ (by lia)
theorem zz9:FnScope ["lack", "cell", "part"] ["lack", "cell"] (zh0 zk8):=by walk_at"sc"
theorem zaf(M:Md K mg)(T:TopDef K "_law_share" zk8) :Def P w K mg base "_law_share" 1 ["lack", "cell"] (spD K zed):=by
 refine zn2 M T zz9 (by walk_at"h") (zba (by walk_at"i")) (zo2 ?_);walk_at"g";have nd:=zz9.nd;refine⟨_,_,(zd0 (pset 2 nd (zl1 (zg1 (K:=K) rfl) ze0 (zl1 zu4 (pv 1) ze0)))
   (zj0 (zz0 (zl1 (zg1 (K:=K) rfl) (zl1 zi2 (zl1 zy8 (zl1 (zg1 (K:=K) rfl) (pv 0) (pv 2)) ze0) (pv 2)) (zl1 zu4 (zl1 zi2 (pv 1) ze0) ze0))))),(zl0 (za1 (zm0 zq7 rvi (RfE.v (zm0 zic (zc0 1) rvi))) (rgn 2))
   (zd1 (RfE.c (zm0 zq7 (RfE.v (zm0 zyk (RfE.v (zm0 zgk (RfE.v (zm0 zq7 (zc0 0) (zc0 2))) rvi)) (zc0 2))) (RfE.v (zm0 zic (RfE.v (zm0 zyk (zc0 1) rvi)) rvi)))))),?_⟩
 rintro ds Qd ⟨l,c,rfl,hl,q⟩;walk_at"ds";walk_at"dn";walk_at"dd";refine⟨⟨by lia,by lia⟩,q _ ?_⟩;have:=Int.ediv_nonneg (a:=l+(1+c % 4) - 1) (b:=1+c % 4) (by lia) (by lia);lia
theorem zeb:FnScope ["cell", "lack", "kind", "length", "wide", "gate"] ["cell", "lack"] (zh0 zr9):=by walk_at"sc"
theorem ztg(M:Md K mg)(T:TopDef K "_law_pipe" zr9)(z:Def P w K mg base "_law_share" 1 ["lack", "cell"] (spD K zed)):Def P w K mg base "_law_pipe" 2 ["cell", "lack"] (spD K zzf):=by
 refine zn2 M T zeb (by walk_at"h") (zba (by walk_at"i")) (zo2 ?_);walk_at"g";have nd:=zeb.nd;refine⟨_,_,(zd0 (pset 2 nd (zl1 zu4 (pv 0) ze0))
   (zd0 (pset 3 nd (zl1 (zg1 (K:=K) rfl) ze0 (zl1 zu4 (zl1 zi2 (pv 0) ze0) ze0)))
   (zd0 (pset 4 nd (zo0 z (rmn hr) rfl (za0 (pv 1) (za0 (zl1 zi2 (pv 0) ze0) zg0))))
   (zd0 (pset 5 nd (ze1 (za0 zy5 (za0 (pv 4) zg0))))
   (zd0 (zm7 (zr0 (zo5 (K:=K) rfl (Room.units hr)) (pv 2) ze0 (zf1 _)) (zj0 (pset 5 nd (ze1 (za0 zy5 (za0 (pv 4) (za0 (zl1 zu4 (zl1 zi2 (pv 0) ze0) ze0) zg0)))))) zm1)
   (zd0 (zm7 (zr0 (zo5 (K:=K) rfl (Room.units hr)) (pv 2) ze0 (zf1 _)) (zj0 (pset 5 nd (ze1 (za0 zy5 (za0 (pv 4) (za0 (zo0 z (rmn hr) rfl (za0 (pv 1) (za0 (zl1 zi2 (pv 0) ze0) zg0))) (za0 (zl1 (zg1 (K:=K) rfl) ze0 (zl1 zu4 (zl1 zi2 (pv 0) ze0) ze0)) zg0))))))) zm1)
   (zj0 (zz0 (ze1 (za0 ze0 (za0 ze0 (za0 (pv 3) (za0 (zl1 zu4 (zl1 zi2 (pv 0) ze0) ze0) (za0 (pv 5) zg0)))))))))))))),(zl0 (za1 (zm0 zic (zc0 0) rvi) (rgn 2))
   (zl0 (za1 (zm0 zq7 rvi (RfE.v (zm0 zic (RfE.v (zm0 zyk (zc0 0) rvi)) rvi))) (rgn 3))
   (zl0 (za1 (zs0 (zb0 (zi0 1) (zb0 (zm0 zyk (zc0 0) rvi) zk0))) (rgn 4))
   (zl0 (za1 (zy1 (zb0 zc6 (zb0 (zi0 4) zk0))) (rgn 5))
   (zl0 (zj7 (zq0 (zz1 q_eq (RfV.h (zc0 2)) (RfV.h rvi))) (za1 (zy1 (zb0 zc6 (zb0 (zi0 4) (zb0 (zm0 zic (RfE.v (zm0 zyk (zc0 0) rvi)) rvi) zk0)))) (rgn 5)) zn1)
   (zl0 (zj7 (zq0 (zz1 q_eq (RfV.h (zc0 2)) (RfV.h rvi))) (za1 (zy1 (zb0 zc6 (zb0 (zi0 4) (zb0 (zs0 (zb0 (zi0 1) (zb0 (zm0 zyk (zc0 0) rvi) zk0))) (zb0 (zm0 zq7 rvi (RfE.v (zm0 zic (RfE.v (zm0 zyk (zc0 0) rvi)) rvi))) zk0))))) (rgn 5)) zn1)
   (zd1 (RfE.c (zy1 (zb0 zc1 (zb0 zc1 (zb0 (zi0 3) (zb0 (zm0 zic (RfE.v (zm0 zyk (zc0 0) rvi)) rvi) (zb0 (zi0 5) zk0)))))))))))))),?_⟩
 rintro ds Qd ⟨c,l,rfl,hl,q⟩;walk_at"ds";walk_at"dn";walk_at"dn";walk_at"a";refine⟨l,c / 60,rfl,hl,λx I=>hJ _ ?_⟩;clear hJ;walk_at"dn";refine znd (λU=>∃g:Gt,g.okk/\U=[.sh (.int c),.sh (.int l),.sh (.int (c % 3)),.sh (.int (1+c / 3 % 20)),.sh (.int x),.sh g.d]) ?_ ?_
 ·walk_at"dd";refine two (λ_=>?_) λ_=>⟨.st x,⟨trivial,λ_=>I⟩,rfl⟩
  obtain⟨f,u⟩:=yX (show 0<=c / 720 % 31 by lia);rw[u];refine⟨.la x f,⟨trivial,λm=>?_⟩,rfl⟩;show 0<=if f<=m then x else 0
  split <;> lia
 rintro U ⟨g,p,rfl⟩;refine znd (λU=>∃g:Gt,g.okk/\U=[.sh (.int c),.sh (.int l),.sh (.int (c % 3)),.sh (.int (1+c / 3 % 20)),.sh (.int x),.sh g.d]) ?_ ?_
 ·walk_at"dd";refine two (λ_=>⟨l,c / 720,rfl,hl,λy S=>?_⟩) λ_=>⟨g,p,rfl⟩
  obtain⟨f,u⟩:=yX (show 0<=2+c / 8640 % 19 by lia);rw[u];refine⟨.ti x y f,⟨⟨by lia,by lia⟩,λm=>?_⟩,rfl⟩;show 0<=if m % f=0 then x else y
  split <;> lia
 clear p g;rintro U ⟨g,p,rfl⟩;walk_at"dd";obtain⟨n,O⟩:=yX (show 0<=1+c / 3 % 20 by lia);rw[O];exact q ⟨0,1,n,_,g⟩ ⟨by show 0 < 2;lia,by show 1 < 2;lia,by show 1<=n;lia,by show n<=20;lia,p⟩ rfl rfl
theorem zsc:FnScope ["pipes", "lack", "last", "moment", "come", "pipe"] ["pipes", "lack", "last"] (zh0 zc9):=by walk_at"sc"
theorem zvk(M:Md K mg)(T:TopDef K "_law_due" zc9)(jI:mg "range"=none)(kA:mg "sum"=none)(jN:Def P w K mg base "_law_width" 1 ["gate", "moment"] (spD K zn7)):Def P w K mg base "_law_due" 2 ["pipes", "lack", "last"] (spD K znk):=by
 refine zn2 M T zsc (by walk_at"h") (zba (by walk_at"i")) (zo2 ?_);walk_at"g";have nd:=zsc.nd;refine⟨_,_,(zd0 (zo7 a8 rfl (zl2 rfl jI (za0 (zl1 (zg1 (K:=K) rfl) (pv 2) ze0) zg0)) (pgn 3 nd) (zd0 (pset 4 nd ze0)
   (zd0 (zo7 a8 rfl (pi_W (K:=K) rfl (pv 0)) (pgn 5 nd) (zj0 (zve (i:=4) nd rfl (by first|exact xW rfl|exact xP rfl) (zu0 (zd5 (K:=K) rfl rfl) rfl kA zsi (za0 (zz4 (sc:=zh0 zc9) (N:=["pipes", "lack", "last", "moment", "come", "pipe"]) (own:=["now"]) (ix:=[5]) rfl rfl rfl (by walk_at"csc") (zl2 rfl jI (za0 (zl1 (zg1 (K:=K) rfl) (zl1 zy8 (pv 3) (pix w K hr (pv 5) ze0)) ze0) zg0)) (λ_ _ _ _=>⟨(pgn 0 (nds ["now", "pipe"])),zy4,(zo0 jN (rmn hr) rfl (za0 (pix w K hr (pv 1) ze0) (za0 (pv 0) zg0)))⟩)) zg0)) zbl)))
   (zj0 (zm7 (zr0 zq81 (pv 4) (pv 1) (zf1 _)) (zj0 (zz0 (pv 3))) zm1)))))
   (zj0 (zz0 (zle1 zr31 ze0)))),(zl0 (zp7 (zu7 (zb0 (zm0 zq7 (zc0 2) rvi) zk0)) (rgn 3) (zl0 (za1 zc1 (rgn 4))
   (zl0 (zp7 (zgv (zi0 0)) (rgn 5) (zse (zf9 zk01 (zw0 (RfE.v (RfF.e (zx2 (RfI.j (zu7 (zb0 (zm0 zq7 (RfE.v (zm0 zgk (zc0 3) (RfE.v (zm0 r_ix (zc0 5) rvi)))) rvi) zk0))) (zo1 (i:=0) (n:=1) (by decide)) zk6 (zs0 (zb0 (zm0 r_ix (zc0 1) rvi) (zb0 (zi0 0) zk0)))))) zq1))))
   (zj7 (zq0 (zm0 r_ge (zc0 4) (zc0 1))) (zd1 (RfE.c (zi0 3))) zn1))))
   (zd1 (RfE.c (zx31 zc1)))),?_⟩
 rintro ds Qd ⟨ps,lk,l,rfl,hl,hp,ok,q⟩;walk_at"ds";walk_at"a";refine⟨by lia,by lia,?_⟩;rw[show((l:Int)+1).toNat=l+1 by lia];unfold rngD;refine zn3 (λi U=>E3 λs3 O s5:Sl=>(∀j,j < i->cmP ps j < lk)/\U=[.sh (.list (ps.map Pi.d)),.sh (.int lk),.sh (.int (l:Int)),s3,O,s5]) ⟨.un,.un,.un,λj h=>by lia,rfl⟩ ?_ ?_
 ·rintro i k U hx ⟨s3,O,s5,z,rfl⟩;obtain⟨h1,W⟩:=wG.mp hx;simp at h1 W;subst W;clear hJ;rw[show(0:Int)+(i:Int)=(i:Int) by lia];walk_at"dn";walk_at"a";refine zn3 (λj U=>∃s5:Sl,U=[.sh (.list (ps.map Pi.d)),.sh (.int lk),.sh (.int (l:Int)),.sh (.int (i:Int)),.sh (.int (su (ps.take j) λp=>su (u3 (i+1 - p.len)) λt=>p.g.at t)),s5]) ⟨_,rfl⟩ ?_ ?_
  ·rintro j p U I ⟨s5,rfl⟩;clear hJ;have Z:(su (ps.take (j+1)) λp=>su (u3 (i+1 - p.len)) λt=>p.g.at t)=(su (ps.take j) λp=>su (u3 (i+1 - p.len)) λt=>p.g.at t)+su (u3 (i+1 - p.len)) λt=>p.g.at t:=by
    rw[uaY,I,zv4];show _+su [p] _=_;rw[zt0,zf3,yN]
   rw[Z];obtain⟨ok,S⟩:=ok p (wK I);generalize(su (ps.take j) λp=>su (u3 (i+1 - p.len)) λt=>p.g.at t)=a;clear Z;generalize ps.map Pi.d=PD;obtain⟨u,v,n,pr,g⟩:=p;dsimp only at ok S;unfold Pi.d;walk_at"dd";walk_at"k";rw[show((i:Int) - (n:Int)+1).toNat=i+1 - n by lia];refine⟨by lia,by lia,zes (λt:Nat=>.int (g.at t)) (by rw[aY,wO];lia) (λt _=>?_) ?_⟩
   ·rw[show(0:Int)+(t:Int)=(t:Int) by lia];walk_at"cs";walk_at"dd";exact⟨_,rfl,g,t,rfl,ok,rfl⟩
   refine⟨(u3 (i+1 - n)).map λt=>g.at t,by rw[show((u3 (i+1 - n)).map λt=>u6 (g.at t))=((u3 (i+1 - n)).map λt=>g.at t).map u6 by rw[wF];rfl];exact ints_map _,_,rfl⟩
  ·rintro U ⟨s5,rfl⟩;rw[xR];walk_at"f";walk_at"dd";refine two (λh=>q _ (.inl ⟨i,by lia,rfl,h,z⟩)) λh=>⟨_,_,_,λj hji=>?_,rfl⟩
   by_cases e:j=i
   ·subst e;exact Int.not_le.mp h
   ·exact z j (by lia)
 ·rintro U ⟨s3,O,s5,z,rfl⟩;rw[wO]at z;walk_at"f";walk_at"dd";exact q _ (.inr ⟨rfl,λj h=>z j (by lia)⟩)
theorem zkb:FnScope ["script", "lack", "cell", "more", "lies", "spare", "vats"] ["script", "lack"] (zh0 zm9):=by walk_at"sc"
theorem zih(M:Md K mg)(T:TopDef K "_law_vats" zm9)(uU:mg "min"=none)(I:Def P w K mg base "_law_cell_at" 1 ["script", "k"] (spD K zg6)):Def P w K mg base "_law_vats" 2 ["script", "lack"] (spD K zbf):=by
 refine zn2 M T zkb (by walk_at"h") (zba (by walk_at"i")) (zo2 ?_);walk_at"g";have nd:=zkb.nd;refine⟨_,_,(zd0 (pset 2 nd (zo0 I (rmn hr) rfl (za0 (pv 0) (za0 ze0 zg0))))
   (zd0 (pset 3 nd (pix w K hr (zb2 (za0 ze0 (za0 (zl1 (zg1 (K:=K) rfl) ze0 (zl1 zu4 (zl1 zi2 (pv 2) ze0) (zl1 zlo ze0 ze0))) zg0))) (zl1 zu4 (pv 2) ze0)))
   (zd0 (pset 4 nd (zl1 zu4 (zo0 I (rmn hr) rfl (za0 (pv 0) (za0 ze0 zg0))) (zl1 zlo ze0 ze0)))
   (zd0 (pset 5 nd (pix w K hr (zb2 (za0 ze0 (za0 ze0 (za0 (zl1 zu4 (zl1 zi2 (zo0 I (rmn hr) rfl (za0 (pv 0) (za0 ze0 zg0))) ze0) (zl1 zlo ze0 ze0)) zg0)))) (zl1 zu4 (zo0 I (rmn hr) rfl (za0 (pv 0) (za0 ze0 zg0))) ze0)))
   (zd0 (pset 6 nd (zb2 (za0 (ze1 (za0 zy5 (za0 (zl1 (zg1 (K:=K) rfl) (pv 1) (pv 3)) (za0 (zl1 (zg1 (K:=K) rfl) (pv 1) (pv 3)) zg0)))) (za0 (ze1 (za0 zy5 (za0 (zl1 (zg1 (K:=K) rfl) (zl1 (zg1 (K:=K) rfl) (pv 4) (pv 1)) (pv 5)) (za0 (pv 4) zg0)))) zg0))))
   (zj0 (zz0 (ze1 (za0 (pv 6) (za0 (zb2 (za0 (pix w K hr (zb2 (za0 ze0 (za0 (pv 3) zg0))) (zl1 zu4 (zl1 zi2 (pv 2) ze0) ze0)) (za0 (zl1 (zg1 (K:=K) rfl) (pv 4) (pv 1)) zg0))) (za0 (zu0 (zat rfl) rfl uU zd41 (za0 (pv 5) (za0 (pv 3) zg0))) zg0))))))))))),(zl0 (za1 (zs0 (zb0 (zi0 0) (zb0 zc1 zk0))) (rgn 2))
   (zl0 (za1 (zm0 r_ix (RfE.v (RfF.e (zd6 (zb0 zc1 (zb0 (zm0 zq7 rvi (RfE.v (zm0 zic (RfE.v (zm0 zyk (zc0 2) rvi)) (RfE.v (zm0 zz21 rvi rvi))))) zk0))))) (RfE.v (zm0 zic (zc0 2) rvi))) (rgn 3))
   (zl0 (za1 (zm0 zic (RfE.v (zs0 (zb0 (zi0 0) (zb0 zc1 zk0)))) (RfE.v (zm0 zz21 rvi rvi))) (rgn 4))
   (zl0 (za1 (zm0 r_ix (RfE.v (RfF.e (zd6 (zb0 zc1 (zb0 zc1 (zb0 (zm0 zic (RfE.v (zm0 zyk (RfE.v (zs0 (zb0 (zi0 0) (zb0 zc1 zk0)))) rvi)) (RfE.v (zm0 zz21 rvi rvi))) zk0)))))) (RfE.v (zm0 zic (RfE.v (zs0 (zb0 (zi0 0) (zb0 zc1 zk0)))) rvi))) (rgn 5))
   (zl0 (za1 (RfF.e (zd6 (zb0 (zy1 (zb0 zc6 (zb0 (zm0 zq7 (zc0 1) (zc0 3)) (zb0 (zm0 zq7 (zc0 1) (zc0 3)) zk0)))) (zb0 (zy1 (zb0 zc6 (zb0 (zm0 zq7 (RfE.v (zm0 zq7 (zc0 4) (zc0 1))) (zc0 5)) (zb0 (zi0 4) zk0)))) zk0)))) (rgn 6))
   (zd1 (RfE.c (zy1 (zb0 (zi0 6) (zb0 (RfF.e (zd6 (zb0 (zm0 r_ix (RfE.v (RfF.e (zd6 (zb0 zc1 (zb0 (zi0 3) zk0))))) (RfE.v (zm0 zic (RfE.v (zm0 zyk (zc0 2) rvi)) rvi))) (zb0 (zm0 zq7 (zc0 4) (zc0 1)) zk0)))) (zb0 (zf9 zqa1 (zw0 (zc0 5) (zw0 (zc0 3) zq1))) zk0))))))))))),?_⟩
 rintro ds Qd ⟨ns,lk,rfl,q⟩;walk_at"ds";walk_at"a";refine⟨ns,4,rfl,by lia,λc=>hJ _ ?_⟩;clear hJ;obtain⟨p,z,m0⟩:∃x:Int,atI [u6 0,.int (1+c / 2 % 100000000000)] (c % 2)=some (.int x)/\0<=x:=by
  rcases(show c % 2=0 \/ c % 2=1 by lia)with h|h <;> rw[h]
  ·exact⟨0,rfl,by lia⟩
  ·exact⟨_,rfl,by lia⟩
 walk_at"a";refine⟨by decide,_,z,hJ _ ?_⟩;walk_at"c";refine⟨ns,5,rfl,by lia,λZ=>?_⟩;walk_at"dd";refine⟨by decide,hJ _ ?_⟩;walk_at"c";refine⟨ns,5,rfl,by lia,λc6=>?_⟩;walk_at"dd";refine⟨by decide,ns,5,rfl,by lia,λO=>?_⟩;walk_at"dd";obtain⟨sp,u,s0⟩:∃x:Int,atI [u6 0,.int 0,.int (c6 / 3 % 100000000000)] (O % 3)=some (.int x)/\0<=x:=by
  rcases(show O % 3=0 \/ O % 3=1 \/ O % 3=2 by lia)with h|h|h <;> rw[h]
  ·exact⟨0,rfl,by lia⟩
  ·exact⟨0,rfl,by lia⟩
  ·exact⟨_,rfl,by lia⟩
 refine⟨_,u,hJ _ ?_⟩;clear hJ u z;have W:0<=Z % 100000000000:=by lia
 generalize Z % 100000000000=li at W ⊢;walk_at"dn";obtain⟨w0,S,w1⟩:∃x:Int,atI [u6 0,.int p] (c / 3 % 2)=some (.int x)/\(x=0 \/ x=p):=by
  rcases(show c / 3 % 2=0 \/ c / 3 % 2=1 by lia)with h|h <;> rw[h]
  ·exact⟨0,rfl,.inl rfl⟩
  ·exact⟨_,rfl,.inr rfl⟩
 walk_at"dd";refine⟨_,S,q p li sp w0 (if p < sp then p else sp) m0 W s0 w1 ?_⟩;split
 ·exact .inl ⟨rfl,by lia⟩
 ·exact .inr ⟨rfl,by lia⟩
end
def gL(L:List Le)(m i:Nat):Int:=su L λl=>if l.t=m/\l.at_=i then l.am else 0
theorem zf21{ps:List Pi}(hi:i < ps.length)(h:m+pl ps i<=n):i∈pb ps m n:=by
 unfold pb;refine yI.mpr ⟨(i,ps[i]),?_,?_⟩
 ·exact wK (i:=i) (by rw[xQ,u5 hi];rfl)
 ·have:pl ps i=ps[i].len:=by unfold pl;rw[u5 hi];rfl
  show(if m+ps[i].len<=n then some i else none)=some i;rw[aF (by lia)]
theorem zne{ps:List Pi} :(pb ps m n).Nodup/\∀i∈pb ps m n,i < ps.length/\m+pl ps i<=n:=by
 rw[<- znc];exact zbh ps m n _ (u7 _)
def arr(ps:List Pi)(L:List Le)(m k:Nat):Int:=su L λl=>if l.t+pl ps l.at_=m/\za6 ps l.at_=k then l.am else 0
def outL(ps:List Pi)(L:List Le)(m k:Nat):Int:=su L λl=>if l.t=m/\zp1 ps l.at_=k then l.am else 0
def lieR(ps:List Pi)(fl:List Int)(L:List Le)(m k:Nat):Int:=fl.getD k 0+(su L λl=>if l.t+pl ps l.at_<=m/\za6 ps l.at_=k then l.am else 0) - su L λl=>if l.t<=m/\zp1 ps l.at_=k then l.am else 0
theorem zli(ps:List Pi)(fl:List Int)(L:List Le)(m k:Nat):lieR ps fl L m k=(if m=0 then fl.getD k 0 else lieR ps fl L (m - 1) k)+arr ps L m k - outL ps L m k:=by
 unfold lieR arr outL;cases m with
|zero =>
  rw[aF rfl];congr 1
  ·congr 1;exact zn0 λl _=>by simp only[Nat.le_zero]
  ·exact zn0 λl _=>by simp only[Nat.le_zero]
|succ m =>
  rw[aA (j5 m),j6];have q:(su L λl=>if l.t+pl ps l.at_<=m+1/\za6 ps l.at_=k then l.am else 0)=(su L λl=>if l.t+pl ps l.at_<=m/\za6 ps l.at_=k then l.am else 0)+su L λl=>if l.t+pl ps l.at_=m+1/\za6 ps l.at_=k then l.am else 0:=by
   rw[<- zz5];refine zn0 λl _=>?_;by_cases g:za6 ps l.at_=k
   ·simp only[g,and_true];split <;> split <;> split <;> lia
   ·simp only[g,and_false,if_false];rfl
  have p:(su L λl=>if l.t<=m+1/\zp1 ps l.at_=k then l.am else 0)=(su L λl=>if l.t<=m/\zp1 ps l.at_=k then l.am else 0)+su L λl=>if l.t=m+1/\zp1 ps l.at_=k then l.am else 0:=by
   rw[<- zz5];refine zn0 λl _=>?_;by_cases g:zp1 ps l.at_=k
   ·simp only[g,and_true];split <;> split <;> split <;> lia
   ·simp only[g,and_false,if_false];rfl
  rw[q,p];lia
structure Pln(u:Nat)(fl:List Int)(ps:List Pi)(L:List Le):Prop where
 lt:∀l∈L,l.t < u/\l.at_ < ps.length/\1<=l.am
 cap:∀m i,i < ps.length->gL L m i<=zl5 ps i m
 nn:∀m k,m<=u->k < fl.length->0<=lieR ps fl L m k
theorem zef1(G:Nat->Nat->Int)(m:Nat)(φ:Le->Int):∀is:List Nat,su (pmL G m is) φ=su is λi=>if 0 < G m i then φ ⟨m,i,G m i⟩else 0
|[]=>rfl
|i :: r=>by
  have p:=zef1 G m φ r;unfold pmL at p ⊢;rw[w8,zt0];by_cases h:0 < G m i
  ·simp only[aF h];rw[zt0,p]
  ·simp only[aA h];rw[p];lia
theorem zva(ps:List Pi)(n:Nat)(G:Nat->Nat->Int)(φ:Le->Int):∀k,su (ze3 ps n G k) φ=su (u3 k) λm=>su (pb ps m n) λi=>if 0 < G m i then φ ⟨m,i,G m i⟩else 0
|0=>rfl
|k+1=>by rw[zsb,zv4,zva ps n G φ k,wV,zv4,zt0,zf3,zef1];lia
section
variable {vs:List Va}{ps:List Pi}{ws:List Int}{n:Nat}{f:Fm}{M:Int}
theorem zlq(u:∀m i,m < n->i∈pb ps m n->0<=f.g m i)(m k:Nat):arr ps (ze3 ps n f.g n) m k=(ntOf vs ps n).inn f m k:=by
 unfold arr;rw[zva];show _=su (u3 n) λp=>su (pb ps p n) λi=>if p+pl ps i=m/\za6 ps i=k then f.g p i else 0
 refine zn0 λp q=>zn0 λi hi=>?_;by_cases h:0 < f.g p i
 ·rw[aF h]
 ·have:=u p i (u8.mp q) hi;rw[aA h];split <;> lia
theorem zmj(B:∀m i,m < n->i∈pb ps m n->0<=f.g m i)(m k:Nat):outL ps (ze3 ps n f.g n) m k=(ntOf vs ps n).out f m k:=by
 unfold outL;rw[zva];have e:∀p∈u3 n,(su (pb ps p n) λi=>if 0 < f.g p i then(if p=m/\zp1 ps i=k then f.g p i else 0)else 0)=if p=m then su (pb ps p n) (λi=>if zp1 ps i=k then f.g p i else 0)else 0:=λp u=>by
  by_cases z:p=m
  ·rw[aF z];refine zn0 λi hi=>?_;have:=B p i (u8.mp u) hi;by_cases h:0 < f.g p i
   ·rw[aF h];by_cases w:zp1 ps i=k
    ·rw[aF ⟨z,w⟩,aF w]
    ·rw[aA (λq=>w q.2),aA w]
   ·rw[aA h];split <;> lia
  ·rw[aA z];exact su_zero' λi _=>by rw[aA (λq:p=m/\_=>z q.1)];split <;> rfl
 rw[show(su (u3 n) λp=>su (pb ps p n) λi=>if 0 < f.g p i then(if(⟨p,i,f.g p i⟩:Le).t=m/\zp1 ps (⟨p,i,f.g p i⟩:Le).at_=k then(⟨p,i,f.g p i⟩:Le).am else 0)else 0)=_ from zn0 e];show _=if m < n then su (pb ps m n) (λi=>if zp1 ps i=k then f.g m i else 0)else 0
 by_cases h:m < n
 ·rw[aF h];exact zf8 (λp=>su (pb ps p n) λi=>if zp1 ps i=k then f.g p i else 0) h
 ·rw[aA h];exact su_zero' λp u=>aA (by have:=u8.mp u;lia)
theorem zz91{is:List Nat}{l:Le}(h:l∈pmL G m is):∃i∈is,0 < G m i/\l=⟨m,i,G m i⟩:=by
 obtain⟨i,hi,e⟩:=yI.mp h;by_cases z:0 < G m i
 ·rw[aF z]at e;exact⟨i,hi,z,(wY.inj e).symm⟩
 ·rw[aA z]at e;cases e
theorem zgn{k:Nat}{l:Le}(h:l∈ze3 ps n G k):∃m i,m < k/\i∈pb ps m n/\0 < G m i/\l=⟨m,i,G m i⟩:=by
 obtain⟨x,p,hl⟩:=List.mem_flatten.mp h;obtain⟨m,q,rfl⟩:=vQ.mp p;obtain⟨i,hi,z,e⟩:=zz91 hl;exact⟨m,i,u8.mp q,hi,z,e⟩
theorem zx61(I:∀m i,m < n->i∈pb ps m n->0<=f.g m i/\f.g m i<=zl5 ps i m)(hi:i < ps.length)(hw:0<=zl5 ps i m):gL (ze3 ps n f.g n) m i<=zl5 ps i m:=by
 unfold gL;rw[zva];have e:∀p∈u3 n,(su (pb ps p n) λu=>if 0 < f.g p u then(if(⟨p,u,f.g p u⟩:Le).t=m/\(⟨p,u,f.g p u⟩:Le).at_=i then(⟨p,u,f.g p u⟩:Le).am else 0)else 0)=if p=m then(if i∈pb ps p n then f.g p i else 0)else 0:=λp B=>by
  by_cases z:p=m
  ·rw[aF z,<- zyg _ zne.1 λi hi=>(zne.2 i hi).1,<- zf8 (λu=>if u∈pb ps p n then f.g p u else 0) hi];refine zn0 λu _=>?_;by_cases y:u∈pb ps p n
   ·rw[aF y];have:=(I p u (u8.mp B) y).1;show(if 0 < f.g p u then(if p=m/\u=i then f.g p u else 0)else 0)=_;by_cases x:u=i
    ·have q:p=m/\u=i:=⟨z,x⟩
     rw[aF x,aF q,aF y];split <;> lia
    ·have q:¬(p=m/\u=i):=λq=>x q.2;rw[aA x,aA q];split <;> rfl
   ·rw[aA y];by_cases x:u=i
    ·rw[aF x,aA y]
    ·rw[aA x]
  ·rw[aA z];exact su_zero' λu _=>by
    show(if 0 < f.g p u then(if p=m/\u=i then f.g p u else 0)else 0)=_;have q:¬(p=m/\u=i):=λq=>z q.1;rw[aA q];split <;> rfl
 rw[zn0 e];by_cases B:m < n
 ·rw[zf8 (λp=>if i∈pb ps p n then f.g p i else 0) B];split
  ·rename_i y;exact(I m i B y).2
  ·exact hw
 ·rw[su_zero' λp h=>aA (by have:=u8.mp h;lia)];exact hw
theorem Met.pln{fl:List Int}(Yv:Yw fl ps)(I:vs.length=fl.length)(W:∀k,k < fl.length->(ntOf vs ps n).fl k=fl.getD k 0)(mt:Met vs ps ws n M f)(e:M=ws.sum) :
  Pln n fl ps (ze3 ps n f.g n)/\(∀m k,m<=n->k < fl.length->lieR ps fl (ze3 ps n f.g n) m k<=(ntOf vs ps n).rm k)/\∀k,k < fl.length->cW ws k<=lieR ps fl (ze3 ps n f.g n) n k:=by
 obtain⟨t,s,O,hw⟩:=mt.wn e;have B:∀m i,m < n->i∈pb ps m n->0<=f.g m i/\f.g m i<=zl5 ps i m:=λm i u hi=>mt.fl.g m i u hi;have J:∀k,k < vs.length->(0<=t k/\t k<=cW ws k)/\0<=s k/\s k<=cR vs ws k:=λk q=>⟨mt.fl.s (cW ws,t) (by rw[O];simp) k q,mt.fl.s (cR vs ws,s) (by rw[O];simp) k q⟩
 have st:∀k,(su f.t λt=>t k)=t k+s k:=λk=>by rw[O,zt0,zt0,zf3];lia
 have key:∀m k,m<=n->k < fl.length->lieR ps fl (ze3 ps n f.g n) m k=if m < n then f.r m k else t k+s k:=λm k=>by
  induction m with
 |zero =>
   intro u q;rw[zli,zlq (vs:=vs) λm i u hi=>(B m i u hi).1,zmj (vs:=vs) λm i u hi=>(B m i u hi).1,aF rfl];have b:=mt.fl.b 0 k u (by rw[<- I]at q;exact q);rw[st,aF rfl,mt.src k (by lia),W k q]at b;have b:_=(ntOf vs ps n).out f 0 k+(if 0 < n then f.r 0 k else t k+s k):=b;lia
 |succ m S =>
   intro u q;rw[zli,zlq (vs:=vs) λm i u hi=>(B m i u hi).1,zmj (vs:=vs) λm i u hi=>(B m i u hi).1,aA (j5 m),j6,S (by lia) q,aF (by lia)];have b:=mt.fl.b (m+1) k u (by rw[<- I]at q;exact q);rw[st,aA (j5 m),j6]at b;have b:_=(ntOf vs ps n).out f (m+1) k+(if m+1 < n then f.r (m+1) k else t k+s k):=b;lia
 have Z:∀k,cR vs ws k=(ntOf vs ps n).rm k - cW ws k:=λ_=>rfl;refine⟨⟨λl hl=>?_,λm i hi=>zx61 B hi ?_,λm k u q=>?_⟩,λm k u q=>?_,λk q=>?_⟩
 ·obtain⟨m,i,u,hi,z,rfl⟩:=zgn hl;exact⟨u,(zne.2 i hi).1,by show 1<=f.g m i;lia⟩
 ·unfold zl5;rw[u5 hi];exact(Yv.p _ (xF hi)).1.2.2.2.2.2 m
 ·rw[key m k u q];by_cases z:m < n
  ·rw[aF z];exact(mt.fl.r m k z (by rw[<- I]at q;exact q)).1
  ·rw[aA z];have:=J k (by lia);lia
 ·rw[key m k u q];by_cases z:m < n
  ·rw[aF z];exact(mt.fl.r m k z (by rw[<- I]at q;exact q)).2
  ·rw[aA z];have:=J k (by lia);have:=Z k;lia
 ·rw[key n k (u7 _) q,aA (xE _)];have:=J k (by lia);have:=hw k (by lia);lia
end
theorem su_snoc'{α:Type}(l:List α)(x:α)(f:α->Int):su (l++[x]) f=su l f+f x:=by rw[zv4,zt0,zf3];lia
theorem zha{α β:Type}(l:List α)(r:List β)(f:α->β->Int):(su l λa=>su r λb=>f a b)=su r λb=>su l λa=>f a b:=by
 induction l with
|nil=>rw[zf3];exact(su_zero' λ_ _=>rfl).symm
|cons a l p=>rw[zt0,p,<- zz5];exact zn0 λb _=>(zt0 a l λa=>f a b).symm
theorem zhx(n d:Nat)(g:Nat->Int):(su (u3 (n+1)) λm=>if d<=m then g (m - d)else 0)=su (u3 (n+1)) λm=>if m+d<=n then g m else 0:=by
 induction n with
|zero =>
  rw[wV,j3,uaD,zt0,zt0,zf3];by_cases e:d=0
  ·subst e;rfl
  ·rw[aA (by lia),aA (by lia)];rfl
|succ n p =>
  rw[show(su (u3 (n+1+1)) λm=>if d<=m then g (m - d)else 0)=(su (u3 (n+1)) λm=>if d<=m then g (m - d)else 0)+(if d<=n+1 then g (n+1 - d)else 0) by rw[wV,su_snoc'],p];by_cases e:d<=n+1
  ·rw[aF e];have q:(su (u3 (n+1+1)) λm=>if m+d<=n+1 then g m else 0)=(su (u3 (n+1+1)) λm=>if m+d<=n then g m else 0)+su (u3 (n+1+1)) λm=>if m=n+1 - d then g m else 0:=by
    rw[<- zz5];refine zn0 λm _=>?_;by_cases z:m=n+1 - d
    ·rw[aF z,aF (by lia),aA (by lia)];lia
    ·by_cases y:m+d<=n
     ·rw[aA z,aF y,aF (by lia)];lia
     ·rw[aA z,aA y,aA (by lia)];rfl
   rw[q,zf8 g (by lia),show(su (u3 (n+1+1)) λm=>if m+d<=n then g m else 0)=su (u3 (n+1)) λm=>if m+d<=n then g m else 0 by rw[wV,su_snoc',aA (by lia),yN]]
  ·rw[aA e,su_zero' λm _=>aA (by lia),su_zero' λm _=>aA (by lia)];rfl
section
variable {vs:List Va}{ps:List Pi}{n:Nat}{side:List Nat}
theorem eqv2(a b c d:Nat):xD (.tuple [.int (a:Int),.int (b:Int)]) (.tuple [.int (c:Int),.int (d:Int)])=decide (a=c/\b=d):=by
 by_cases h:a=c/\b=d
 ·obtain⟨rfl,rfl⟩:=h;rw[bK ⟨rfl,rfl⟩];exact lM _ rfl
 ·rw[a7 h];simp only[xD,PyData.eqvAll];simp;lia
theorem zi01(Z:1<=vs.length){k:Nat}(S:m<=n)(u:k < vs.length):((ptN vs ps n side).any λe=>xD e (.tuple [.int (m:Int),.int (k:Int)]))=decide ((ntOf vs ps n).nd m k ∉ side):=by
 have I:(ntOf vs ps n).nd m k=2+(m * vs.length+k):=by show 2+m * vs.length+k=_;lia
 have lt:m * vs.length+k < (n+1) * vs.length:=by
  have:=yM vs.length (show m+1<=n+1 by lia);rw[yT,Nat.one_mul]at this;lia
 have J:(ntOf vs ps n).nd (n+1) 0 - 2=(n+1) * vs.length:=by show 2+(n+1) * vs.length+0 - 2=_;lia
 have O:(m * vs.length+k) / vs.length=m:=by rw[uaC,Nat.add_mul_div_right _ _ (by lia),Nat.div_eq_of_lt u];lia
 have z:(m * vs.length+k) % vs.length=k:=by rw[uaC,Nat.add_mul_mod_self_right,Nat.mod_eq_of_lt u]
 rw[I,zG,decide_eq_true_iff,j4];unfold ptN ptL;rw[J];constructor
 ·rintro⟨e,B,q⟩;obtain⟨j,W,p⟩:=yI.mp B;split at p
  ·cases p
  ·rename_i ns
   cases p;rw[eqv2,decide_eq_true_iff]at q;have:m * vs.length+k=j:=by
    have:=Nat.div_add_mod j vs.length;rw[q.1,q.2,zU]at this;exact this
   rw[this];exact ns
 ·intro ns;refine⟨_,yI.mpr ⟨m * vs.length+k,u8.mpr lt,aA ns⟩,?_⟩;rw[O,z,eqv2];simp
theorem zt11:∀e∈ptN vs ps n side,Fit 8 e:=λe q=>by
 unfold ptN ptL at q;obtain⟨j,_,p⟩:=yI.mp q;split at p
 ·cases p
 ·cases p;exact Fit.tup λz hz=>by
   simp at hz;rcases hz with rfl|rfl <;> exact Fit.int _
def ipT(ps:List Pi)(X:Nat->Nat->Prop)[∀m k,Decidable (X m k)](m k i:Nat):Int:=if za6 ps i=k/\pl ps i<=m/\¬X (m - pl ps i) (zp1 ps i)then zl5 ps i (m - pl ps i)else 0
def lkT(vs:List Va)(ps:List Pi)(ws:List Int)(n:Nat)(X:Nat->Nat->Prop)[∀m k,Decidable (X m k)](m k:Nat):Int :=
 if X m k then(if m=n then cW ws k else 0) - (if m=0 then(ntOf vs ps n).fl k else if X (m - 1) k then 0 else(ntOf vs ps n).rm k) - su (u3 ps.length) (ipT ps X m k)else 0
theorem zk31(p:∀i,i < ps.length->1<=pl ps i/\za6 ps i < vs.length)(hw:ws.length=vs.length)(X:Nat->Nat->Prop)[∀m k,Decidable (X m k)] :
  (su (u3 vs.length) λk=>su (u3 (n+1)) λm=>lkT vs ps ws n X m k)=ws.sum - (ntOf vs ps n).over (cW ws) X:=by
 have hN:(ntOf vs ps n).N=vs.length:=rfl;have W:(ntOf vs ps n).n=n:=rfl;have S:∀k,k∈u3 vs.length->(su (u3 (n+1)) λm=>lkT vs ps ws n X m k)=(if X n k then cW ws k else 0) - (if X 0 k then(ntOf vs ps n).fl k else 0) - (su (u3 n) λm=>if ¬X m k/\X (m+1) k then(ntOf vs ps n).rm k else 0) - su (u3 (n+1)) λm=>if X m k then su (u3 ps.length) (ipT ps X m k)else 0:=λk Z=>by
  have a:(su (u3 (n+1)) λm=>if m=n then(if X m k then cW ws k else 0)else 0)=if X n k then cW ws k else 0:=zf8 (λm=>if X m k then cW ws k else 0) (zR n)
  have b:(su (u3 (n+1)) λm=>if X m k then(if m=0 then(ntOf vs ps n).fl k else if X (m - 1) k then 0 else(ntOf vs ps n).rm k)else 0)=(if X 0 k then(ntOf vs ps n).fl k else 0)+su (u3 n) λm=>if ¬X m k/\X (m+1) k then(ntOf vs ps n).rm k else 0:=by
   rw[uaV,zt0,zl4];congr 1;refine zn0 λm _=>?_;show(if X (m+1) k then(if m+1=0 then _ else if X (m+1 - 1) k then 0 else _)else 0)=_;rw[aA (j5 m),j6];by_cases y:X m k
   ·rw[aF y,aA (show ¬(¬X m k/\X (m+1) k)from λz=>z.1 y)];split <;> rfl
   ·by_cases z:X (m+1) k
    ·rw[aF z,aA y,aF ⟨y,z⟩]
    ·rw[aA z,aA λq=>z q.2]
  have c:(su (u3 (n+1)) λm=>lkT vs ps ws n X m k)=(su (u3 (n+1)) λm=>if m=n then(if X m k then cW ws k else 0)else 0) - (su (u3 (n+1)) λm=>if X m k then(if m=0 then(ntOf vs ps n).fl k else if X (m - 1) k then 0 else(ntOf vs ps n).rm k)else 0) - su (u3 (n+1)) λm=>if X m k then su (u3 ps.length) (ipT ps X m k)else 0:=by
   rw[<- zka,<- zka];refine zn0 λm _=>?_;unfold lkT;by_cases y:X m k
   ·simp only[aF y]
   ·simp only[aA y];split <;> rfl
  rw[c,a,b];lia
 rw[zn0 S,zka,zka,zka];have O:(su (u3 vs.length) λk=>su (u3 n) λm=>if ¬X m k/\X (m+1) k then(ntOf vs ps n).rm k else 0)=su (u3 n) λm=>su (u3 vs.length) λk=>if ¬X m k/\X (m+1) k then(ntOf vs ps n).rm k else 0:=zha ..
 have J:(su (u3 vs.length) λk=>su (u3 (n+1)) λm=>if X m k then su (u3 ps.length) (ipT ps X m k)else 0)=su (u3 n) λm=>su (pb ps m n) λi=>if ¬X m (zp1 ps i)/\X (m+pl ps i) (za6 ps i)then zl5 ps i m else 0:=by
  have f1:∀k m,(if X m k then su (u3 ps.length) (ipT ps X m k)else 0)=su (u3 ps.length) λi=>if X m k then ipT ps X m k i else 0:=λk m=>by
   by_cases y:X m k
   ·simp only[aF y]
   ·simp only[aA y];exact(su_zero' λ_ _=>rfl).symm
  simp only[f1];have f2:∀i,i∈u3 ps.length->(su (u3 vs.length) λk=>su (u3 (n+1)) λm=>if X m k then ipT ps X m k i else 0)=su (u3 (n+1)) λm=>if m+pl ps i<=n then(if ¬X m (zp1 ps i)/\X (m+pl ps i) (za6 ps i)then zl5 ps i m else 0)else 0:=λi hi=>by
   have hi:=p i (u8.mp hi);rw[<- zhx n (pl ps i) λm=>if ¬X m (zp1 ps i)/\X (m+pl ps i) (za6 ps i)then zl5 ps i m else 0,zha];refine zn0 λm _=>?_;have:∀k∈u3 vs.length,(if X m k then ipT ps X m k i else 0)=if k=za6 ps i then(if X m k/\pl ps i<=m/\¬X (m - pl ps i) (zp1 ps i)then zl5 ps i (m - pl ps i)else 0)else 0:=λk _=>by
    unfold ipT;by_cases y:X m k <;> by_cases z:k=za6 ps i
    ·rw[aF y,aF z];by_cases x:pl ps i<=m/\¬X (m - pl ps i) (zp1 ps i)
     ·rw[aF ⟨z.symm,x⟩,aF ⟨y,x⟩]
     ·rw[aA λq=>x q.2,aA λq=>x q.2]
    ·rw[aF y,aA z,aA λq=>z q.1.symm]
    ·rw[aA y,aF z,aA λq=>y q.1]
    ·rw[aA y,aA z]
   rw[zn0 this,zf8 (λk=>if X m k/\pl ps i<=m/\¬X (m - pl ps i) (zp1 ps i)then zl5 ps i (m - pl ps i)else 0) hi.2];by_cases y:pl ps i<=m
   ·rw[aF y,show m - pl ps i+pl ps i=m by lia];by_cases x:¬X (m - pl ps i) (zp1 ps i)/\X m (za6 ps i)
    ·rw[aF ⟨x.2,y,x.1⟩,aF x]
    ·rw[aA λq=>x ⟨q.2.2,q.1⟩,aA x]
   ·rw[aA y,aA λq=>y q.2.1]
  have u:∀k,(su (u3 (n+1)) λm=>su (u3 ps.length) λi=>if X m k then ipT ps X m k i else 0)=su (u3 ps.length) λi=>su (u3 (n+1)) λm=>if X m k then ipT ps X m k i else 0:=λk=>zha ..
  simp only[u];rw[zha,zn0 f2,zha];rw[wV,su_snoc',su_zero' (l:=u3 ps.length) λi hi=>aA (by have:=(p i (u8.mp hi)).1;lia),yN];refine zn0 λm _=>?_;rw[<- zyg _ zne.1 λi hi=>(zne.2 i hi).1];refine zn0 λi hi=>?_;by_cases y:m+pl ps i<=n
  ·rw[aF y,aF (zf21 (u8.mp hi) y)]
  ·rw[aA y,aA λq=>y (zne.2 i q).2]
 have I:ws.sum=(su (u3 vs.length) λk=>if X n k then cW ws k else 0)+su (u3 vs.length) λk=>if ¬X n k then cW ws k else 0:=by
  rw[zss,hw,<- zz5];refine zn0 λk _=>?_;by_cases y:X n k
  ·rw[aF y,aA λz=>z y];lia
  ·rw[aA y,aF y];lia
 have B:(ntOf vs ps n).over (cW ws) X=(su (u3 vs.length) λk=>if X 0 k then(ntOf vs ps n).fl k else 0)+((su (u3 n) λm=>su (u3 vs.length) λk=>if ¬X m k/\X (m+1) k then(ntOf vs ps n).rm k else 0)+su (u3 n) λm=>su (pb ps m n) λi=>if ¬X m (zp1 ps i)/\X (m+pl ps i) (za6 ps i)then zl5 ps i m else 0)+su (u3 vs.length) λk=>if ¬X n k then cW ws k else 0:=by
  rw[<- zz5];rfl
 rw[O,J,B,I];lia
end
theorem zqz{b:Nat}(g:Nat->Int)(h:b<=n):(su (u3 n) λm=>if m < b then g m else 0)=su (u3 b) g:=by
 obtain⟨d,rfl⟩:=ubQ h;rw[zhd,zn0 (g:=g) λm p=>aF (u8.mp p),su_zero' λj _=>aA (by lia)];lia
theorem zv61{α:Type}(l:List α)(g:α->Int)(f:Nat->Int)(h:∀i x,l[i]?=some x->f i=g x):su (u3 l.length) f=su l g:=by
 unfold su;congr 1;refine uaT (by simp) λi p q=>?_;simp at p;simp[h i l[i] (u5 p)]
section
variable {vs:List Va}{ps:List Pi}{ws:List Int}{n:Nat}
theorem zbv(u:∀p∈ps,1<=p.len):(su (u3 n) λm=>su (pb ps m n) λi=>zl5 ps i m)=cmP ps n:=by
 have I:∀m,(su (pb ps m n) λi=>zl5 ps i m)=su (u3 ps.length) λi=>if m+pl ps i<=n then zl5 ps i m else 0:=λm=>by
  rw[<- zyg _ zne.1 λi hi=>(zne.2 i hi).1];refine zn0 λi hi=>?_;by_cases y:m+pl ps i<=n
  ·rw[aF y,aF (zf21 (u8.mp hi) y)]
  ·rw[aA y,aA λq=>y (zne.2 i q).2]
 rw[zn0 λm _=>I m,zha];unfold cmP;refine zv61 ps _ _ λi p e=>?_;have B:pl ps i=p.len:=by unfold pl;rw[e];rfl
 have z:∀m,zl5 ps i m=p.g.at m:=λm=>by unfold zl5;rw[e];rfl
 have:=u p (wK e);rw[<- zqz (n:=n) (λt=>p.g.at t) (by lia)];refine zn0 λm _=>?_;rw[B,z];by_cases y:m+p.len<=n
 ·rw[aF y,aF (by lia)]
 ·rw[aA y,aA (by lia)]
theorem zps(u:∀p∈ps,p.g.okk){j:Nat}(h:j<=m):cmP ps j<=cmP ps m:=by
 unfold cmP;refine zvr λp q=>?_;obtain⟨d,hd⟩:=ubQ (show j+1 - p.len<=m+1 - p.len by lia);rw[hd,zhd];have:=su_nn' (l:=u3 d) (f:=λt=>p.g.at (j+1 - p.len+t)) λt _=>(u p q).2 _;lia
theorem zl01:∀k,((ze3 ps n G k).map λl:Le=>(l.t,l.at_)).Nodup/\∀l∈ze3 ps n G k,l.t < k:=by
 intro k
 induction k with
|zero=>exact⟨by simp[ze3],by simp[ze3]⟩
|succ k p =>
  have e:ze3 ps n G (k+1)=ze3 ps n G k++pmL G k (pb ps k n):=by unfold ze3;rw[wV];simp
  have u:∀l∈pmL G k (pb ps k n),l.t=k:=λl hl=>by
   obtain⟨i,hi,e⟩:=yI.mp hl;split at e <;> cases e
   rfl
  have nd:∀is:List Nat,is.Nodup->((pmL G k is).map λl:Le=>(l.t,l.at_)).Nodup/\∀l∈pmL G k is,l.at_∈is:=by
   intro is
   induction is with
  |nil=>intro _;exact⟨by simp[pmL],by simp[pmL]⟩
  |cons i r p =>
    intro h;obtain⟨S,O⟩:=v9.mp h;obtain⟨a,b⟩:=p O;by_cases c:0 < G k i
    ·have e:pmL G k (i :: r)=⟨k,i,G k i⟩ :: pmL G k r:=by unfold pmL;rw[w8,aF c]
     rw[e];refine⟨v9.mpr ⟨λz=>?_,a⟩,λl hl=>?_⟩
     ·obtain⟨l,hl,e⟩:=vQ.mp z;have:=b l hl;simp only[Prod.mk.injEq]at e;rw[e.2]at this;exact S this
     ·rcases vR.mp hl with z|z
      ·subst z;simp
      ·simp[b l z]
    ·have e:pmL G k (i :: r)=pmL G k r:=by unfold pmL;rw[w8,aA c]
     rw[e];exact⟨a,λl hl=>by simp[b l hl]⟩
  rw[e];refine⟨?_,λl hl=>?_⟩
  ·rw[v7];refine wS.mpr ⟨p.1,(nd _ zne.1).1,λx J y I z=>?_⟩;obtain⟨l,hl,rfl⟩:=vQ.mp J;obtain⟨B,q,rfl⟩:=vQ.mp I;have a:=p.2 l hl;have b:=u B q;simp only[Prod.mk.injEq]at z;lia
  ·rcases vV.mp hl with z|z
   ·have:=p.2 l z;lia
   ·have:=u l z;lia
theorem zo11(k:Nat):(ze3 ps n G k).length<=ps.length * k:=by
 induction k with
|zero=>simp[ze3]
|succ k p =>
  have e:ze3 ps n G (k+1)=ze3 ps n G k++pmL G k (pb ps k n):=by unfold ze3;rw[wV];simp
  have:(pmL G k (pb ps k n)).length<=ps.length:=wL (zZ ..) (zwk ps k n);rw[e,vT,Nat.mul_add,Nat.mul_one];lia
end
section
variable {ps:List Pi}{n:Nat}{f:Fm}{lk mo li sp w0:Int}
abbrev vs2(lk mo li sp:Int):List Va:=[vA lk mo,vB lk li sp]
theorem zjd1(q:∀p∈ps,p.u=0/\p.v=1)(hi:i < ps.length):zp1 ps i=0/\za6 ps i=1:=by
 have e:ps[i]?=some ps[i]:=u5 hi;have:=q _ (xF hi);exact⟨by unfold zp1;rw[e];exact this.1,by unfold za6;rw[e];exact this.2⟩
theorem cut2(l1:1<=lk)(m0:0<=mo)(l0:0<=li)(s0:0<=sp)(w:w0=0 \/ w0=mo)(I:∀p∈ps,p.u=0/\p.v=1/\1<=p.len/\p.g.okk)(hc:lk<=cmP ps n)(X:Nat->Nat->Prop)[∀m k,Decidable (X m k)] :
  w0+(li+lk)<=(ntOf (vs2 lk mo li sp) ps n).over (cW [w0,li+lk]) X:=by
 rw[Nt.over_eq];have J:0<=(ntOf (vs2 lk mo li sp) ps n).fl 0/\(ntOf (vs2 lk mo li sp) ps n).fl 0<=(ntOf (vs2 lk mo li sp) ps n).rm 0/\0<=cW [w0,li+lk] 0/\cW [w0,li+lk] 0<=(ntOf (vs2 lk mo li sp) ps n).rm 0:=by
  show 0<=lk+mo/\lk+mo<=lk+mo/\0<=w0/\w0<=lk+mo;lia
 have O:0<=(ntOf (vs2 lk mo li sp) ps n).fl 1/\(ntOf (vs2 lk mo li sp) ps n).fl 1<=(ntOf (vs2 lk mo li sp) ps n).rm 1/\0<=cW [w0,li+lk] 1/\cW [w0,li+lk] 1<=(ntOf (vs2 lk mo li sp) ps n).rm 1:=by
  show 0<=li/\li<=li+lk+sp/\0<=li+lk/\li+lk<=li+lk+sp;lia
 have e0:(ntOf (vs2 lk mo li sp) ps n).fl 0=lk+mo:=rfl;have e1:(ntOf (vs2 lk mo li sp) ps n).fl 1=li:=rfl;have c0:cW [w0,li+lk] 0=w0:=rfl;have c1:cW [w0,li+lk] 1=li+lk:=rfl;have wn:∀m,∀i∈pb ps m n,0<=zl5 ps i m:=λm i hi=>by
  have hi:=(zne.2 i hi).1;unfold zl5;rw[u5 hi];exact(I _ (xF hi)).2.2.2.2 m
 have cr0:0<=su (u3 n) ((ntOf (vs2 lk mo li sp) ps n).crM X):=su_nn' λm _=>su_nn' λi hi=>by
  have:=wn m i hi;show 0<=if _ then zl5 ps i m else 0
  split <;> lia
 have es:su (u3 (ntOf (vs2 lk mo li sp) ps n).N) ((ntOf (vs2 lk mo li sp) ps n).aK (cW [w0,li+lk]) X)=(ntOf (vs2 lk mo li sp) ps n).aK (cW [w0,li+lk]) X 0+(ntOf (vs2 lk mo li sp) ps n).aK (cW [w0,li+lk]) X 1:=by
  show su [0,1] _=_;rw[zt0,zt0,zf3];lia
 rw[es];have Z:(ntOf (vs2 lk mo li sp) ps n).n=n:=rfl;have a0:w0<=(ntOf (vs2 lk mo li sp) ps n).aK (cW [w0,li+lk]) X 0:=by
  rcases Classical.em (∃m,m<=n/\¬X m 0)with⟨m,B,q⟩|z
  ·have:=Nt.aK_not J B q;lia
  ·have:=Nt.aK_ever J (wH _) (Classical.not_not.mp λy=>z ⟨0,wH _,y⟩);lia
 rw[Z];rcases Classical.em (∃m,m<=n/\¬X m 1)with⟨m,B,q⟩|z
 ·have:=Nt.aK_not O B q;lia
 ·have a1:=Nt.aK_ever (X:=X) O (wH _) (Classical.not_not.mp λy=>z ⟨0,wH _,y⟩);rcases Classical.em (∃m,m<=n/\X m 0)with⟨m,B,q⟩|y
  ·have:=Nt.aK_ever J B q;lia
  ·have:su (u3 n) ((ntOf (vs2 lk mo li sp) ps n).crM X)=cmP ps n:=by
    rw[<- zbv λp h=>(I p h).2.2.1];refine zn0 λm S=>zn0 λi hi=>?_;have S:=u8.mp S;have hi:=zne.2 i hi;obtain⟨W,u2⟩:=zjd1 (λp h=>⟨(I p h).1,(I p h).2.1⟩) hi.1;show(if ¬X m (zp1 ps i)/\X (m+pl ps i) (za6 ps i)then zl5 ps i m else 0)=_;rw[W,u2];exact aF ⟨λh=>y ⟨m,by lia,h⟩,Classical.not_not.mp λh=>z ⟨_,hi.2,h⟩⟩
   lia
end
def zbd:DSp:=λds Q=>E6 λ(vs:List Va)(ps:List Pi)(ws:List Int)(n:Nat)(side:List Nat)(M:Int)=>A6 (ds=[.list (vs.map Va.d),.list (ps.map Pi.d),.list (ws.map .int),.list (ptN vs ps n side),.int (n:Int)]) (YOk vs ps ws) (n<=60) (Ovr vs ps ws n M side) (M < ws.sum) (Q (.bool true))
section
variable {P:aQ}{w:aR}{K:Fg}{mg:Str->Option aC}{base:aX}
theorem zw9:FnScope ["vats", "pipes", "wants", "part", "until", "lack", "vat", "moment", "pipe"] ["vats", "pipes", "wants", "part", "until"] (zh0 zi8):=by walk_at"sc"
theorem zuf(M:Md K mg)(T:TopDef K "_law_short" zi8)(jL:mg "len"=none)(jI:mg "range"=none)(jN:Def P w K mg base "_law_width" 1 ["gate", "moment"] (spD K zn7)):Def P w K mg base "_law_short" 2 ["vats", "pipes", "wants", "part", "until"] (spD K zbd):=by
 refine zn2 M T zw9 (by walk_at"h") (zba (by walk_at"i")) (zo2 ?_);walk_at"g";have nd:=zw9.nd;refine⟨_,_,(zd0 (pset 5 nd ze0)
   (zd0 (zo7 a8 rfl (zl2 rfl jI (za0 (zu0 (zk1 (K:=K) rfl) rfl jL zb6 (za0 (pv 0) zg0)) zg0)) (pgn 6 nd) (zj0 (zo7 a8 rfl (zl2 rfl jI (za0 (zl1 (zg1 (K:=K) rfl) (pv 4) ze0) zg0)) (pgn 7 nd) (zd0 (zm7 (zr0 (zge (K:=K) rfl (Room.units hr)) (ze1 (za0 (pv 7) (za0 (pv 6) zg0))) (pv 3) (by with_unfolding_all rfl)) (zj0 zml) zm1)
   (zd0 (zm7 (zr0 (zo5 (K:=K) rfl (Room.units hr)) (pv 7) (pv 4) (zf1 _)) (zj0 (zve (i:=5) nd rfl (by first|exact xW rfl|exact xP rfl) (pix w K hr (pv 2) (pv 6)) zbl)) zm1)
   (zd0 (zm7 (zr0 (zo5 (K:=K) rfl (Room.units hr)) (pv 7) ze0 (zf1 _)) (zj0 (zve (i:=5) nd rfl (by first|exact xW rfl|exact xP rfl) (pix w K hr (pix w K hr (pv 0) (pv 6)) ze0) zys)) (zj0 (zm7 (zr0 (zge (K:=K) rfl (Room.units hr)) (ze1 (za0 (zl1 zy8 (pv 7) ze0) (za0 (pv 6) zg0))) (pv 3) (by with_unfolding_all rfl)) (zj0 (zve (i:=5) nd rfl (by first|exact xW rfl|exact xP rfl) (pix w K hr (pix w K hr (pv 0) (pv 6)) ze0) zys)) zm1)))
   (zj0 (zo7 a8 rfl (pi_W (K:=K) rfl (pv 1)) (pgn 8 nd) (zj0 (zm7 (PW.pt (zsk (zr0 (zo5 (K:=K) rfl (Room.units hr)) (pix w K hr (pv 8) ze0) (pv 6) (zf1 _)) (zsk (zr0 zq81 (pv 7) (pix w K hr (pv 8) ze0) (zf1 _)) (zbg (zr0 (zge (K:=K) rfl (Room.units hr)) (ze1 (za0 (zl1 zy8 (pv 7) (pix w K hr (pv 8) ze0)) (za0 (pix w K hr (pv 8) ze0) zg0))) (pv 3) (by with_unfolding_all rfl)))))) (zj0 (zve (i:=5) nd rfl (by first|exact xW rfl|exact xP rfl) (zo0 jN (rmn hr) rfl (za0 (pix w K hr (pv 8) ze0) (za0 (zl1 zy8 (pv 7) (pix w K hr (pv 8) ze0)) zg0))) zys)) zm1))))))))))
   (zj0 (zz0 (zoj zbw (pv 5) ze0 (zf1 _)))))),(zl0 (za1 zc1 (rgn 5))
   (zl0 (zp7 (zu7 (zb0 (zf9 zle (zw0 (zc0 0) zq1)) zk0)) (rgn 6) (zp7 (zu7 (zb0 (zm0 zq7 (zc0 4) rvi) zk0)) (rgn 7) (zl0 (zj7 (zq0 (zz1 zth (zrq (zv7 (RfV.h (zc0 7)) (zv7 (RfV.h (zc0 6)) zjl))) (RfV.h (zc0 3)))) zj71 zn1)
   (zl0 (zj7 (zq0 (zz1 q_eq (RfV.h (zc0 7)) (RfV.h (zc0 4)))) (zse (zm0 r_ix (zc0 2) (zc0 6))) zn1)
   (zl0 (zj7 (zq0 (zz1 q_eq (RfV.h (zc0 7)) (RfV.h rvi))) (zse (zm0 r_ix (RfE.v (zm0 r_ix (zc0 0) (zc0 6))) rvi)) (zj7 (zq0 (zz1 zth (zrq (zv7 (RfV.h (RfE.v (zm0 zgk (zc0 7) rvi))) (zv7 (RfV.h (zc0 6)) zjl))) (RfV.h (zc0 3)))) (zse (zm0 r_ix (RfE.v (zm0 r_ix (zc0 0) (zc0 6))) rvi)) zn1))
   (zp7 (zgv (zi0 1)) (rgn 8) (zj7 (zel (zq0 (zz1 q_eq (RfV.h (RfE.v (zm0 r_ix (zc0 8) rvi))) (RfV.h (zc0 6)))) (zel (zq0 (zm0 r_ge (zc0 7) (RfE.v (zm0 r_ix (zc0 8) rvi)))) (zq0 (zz1 zth (zrq (zv7 (RfV.h (RfE.v (zm0 zgk (zc0 7) (RfE.v (zm0 r_ix (zc0 8) rvi))))) (zv7 (RfV.h (RfE.v (zm0 r_ix (zc0 8) rvi))) zjl))) (RfV.h (zc0 3)))))) (zse (zs0 (zb0 (zm0 r_ix (zc0 8) rvi) (zb0 (zm0 zgk (zc0 7) (RfE.v (zm0 r_ix (zc0 8) rvi))) zk0)))) zn1)))))))
   (zd1 (RfE.c (zm0 r_gt (zc0 5) rvi))))),?_⟩
 rintro ds Qd ⟨vs,ps,ws,n,side,M,rfl,y,hn,ov,hM,q⟩;have h1:=y.n1;have h2:=y.n2;have h3:=y.m2;have hw:=y.lw;have pgp:∀i,i < ps.length->∃p,ps[i]?=some p/\zp1 ps i=p.u/\za6 ps i=p.v/\pl ps i=p.len/\p.u < vs.length/\p.v < vs.length/\1<=p.len/\p.g.ok/\∀m,zl5 ps i m=p.g.at m:=λi hi=>by
  have e:ps[i]?=some ps[i]:=u5 hi;obtain⟨h1,h2,h3,_,h5,h6⟩:=y.pb _ (xF hi);exact⟨_,e,by unfold zp1;rw[e];rfl,by unfold za6;rw[e];rfl,by unfold pl;rw[e];rfl,h1,h2,h3,h5,λm=>by unfold zl5;rw[e];rfl⟩
 have hpl:∀i,i < ps.length->1<=pl ps i/\za6 ps i < vs.length:=λi hi=>by
  obtain⟨p,_,_,e2,e3,_,pv,p1,_⟩:=pgp i hi;rw[e2,e3];exact⟨p1,pv⟩
 have pa:∀{m k:Nat},m<=n->k < vs.length->((ptN vs ps n side).any λe=>xD e (.tuple [.int (m:Int),.int (k:Int)]))=decide ((ntOf vs ps n).nd m k ∉ side):=λhm S=>zi01 h1 hm S;have pf:=zt11 (vs:=vs) (ps:=ps) (n:=n) (side:=side);have ft:∀a b:Int,Fit 8 (.tuple [.int a,.int b]):=λa b=>Fit.tup λz hz=>by
  simp at hz;rcases hz with rfl|rfl <;> exact Fit.int _
 have W:=zk31 (vs:=vs) (ps:=ps) (n:=n) (ws:=ws) hpl hw λm k=>(ntOf vs ps n).nd m k ∉ side;have ov:M=(ntOf vs ps n).over (cW ws) λm k=>(ntOf vs ps n).nd m k ∉ side:=ov;rw[<- ov]at W;clear ov;obtain⟨X,dX,pa,W⟩:∃(X:Nat->Nat->Prop)(dX:∀m k,Decidable (X m k)),(∀m k,m<=n->k < vs.length->((ptN vs ps n side).any λe=>xD e (.tuple [.int (m:Int),.int (k:Int)]))=decide (X m k))/\(su (u3 vs.length) λk=>su (u3 (n+1)) λm=>lkT vs ps ws n X m k)=ws.sum - M:=⟨_,λ_ _=>inferInstance,λm k hm S=>pa hm S,W⟩
 have nt:∀{m k:Nat}{Q:D->Prop},m<=n->k < vs.length->Q (.bool (!decide (X m k)))->zsp (.tuple [.int (m:Int),.int (k:Int)]) (.list (ptN vs ps n side)) Q:=λ{m k Q} hm S hq=>by
  rw[<- pa m k hm S]at hq;exact⟨ft _ _,pf,hq⟩
 walk_at"ds";walk_at"dn";walk_at"a";rw[u4,v6];unfold rngD;refine⟨by lia,by lia,?_⟩;refine zn3 (λk U=>E3 λs6 Z I:Sl=>U=[.sh (.list (vs.map Va.d)),.sh (.list (ps.map Pi.d)),.sh (.list (ws.map .int)),.sh (.list (ptN vs ps n side)),.sh (.int (n:Int)),.sh (.int (su (u3 k) λk=>su (u3 (n+1)) λm=>lkT vs ps ws n X m k)),s6,Z,I]) ⟨.un,.un,.un,rfl⟩ ?_ ?_
 ·rintro k x U hx ⟨s6,Z,I,rfl⟩;clear hJ;obtain⟨S,O⟩:=wG.mp hx;simp at S O;subst O;rw[show(0:Int)+(k:Int)=(k:Int) by lia,wV (n:=k),su_snoc'];generalize(su (u3 k) λk=>su (u3 (n+1)) λm=>lkT vs ps ws n X m k)=A;have ev:vs[k]?=some vs[k]:=u5 S;have ef:(ntOf vs ps n).fl k=vs[k].fill:=by show((vs[k]?).map Va.fill).getD 0=_;rw[ev];rfl
  have em:(ntOf vs ps n).rm k=vs[k].room:=by show((vs[k]?).map Va.room).getD 0=_;rw[ev];rfl
  walk_at"dd";rw[show((n:Int)+1).toNat=n+1 by lia];refine⟨by lia,by lia,?_⟩;refine zn3 (λm U=>∃Z I:Sl,U=[.sh (.list (vs.map Va.d)),.sh (.list (ps.map Pi.d)),.sh (.list (ws.map .int)),.sh (.list (ptN vs ps n side)),.sh (.int (n:Int)),.sh (.int (A+su (u3 m) λm=>lkT vs ps ws n X m k)),.sh (.int (k:Int)),Z,I]) ⟨Z,I,?_⟩ ?_ ?_
  ·rw[j3,zf3,yN]
  ·rintro m x U hx ⟨Z,I,rfl⟩;obtain⟨hm,O⟩:=wG.mp hx;simp at hm O;subst O;rw[show(0:Int)+(m:Int)=(m:Int) by lia,wV (n:=m),su_snoc',<- Int.add_assoc];generalize(A+su (u3 m) λm=>lkT vs ps ws n X m k)=B;walk_at"a";refine⟨ft _ _,pf,?_⟩;rw[pa m k (by lia) S];by_cases hX:X m k
   ·rw[bK hX,aA (by decide)];walk_at"f";have el:lkT vs ps ws n X m k=(if m=n then cW ws k else 0) - (if m=0 then(ntOf vs ps n).fl k else if X (m - 1) k then 0 else(ntOf vs ps n).rm k) - su (u3 ps.length) (ipT ps X m k):=aF hX;rw[el];clear el;refine znd (λU=>U=[.sh (.list (vs.map Va.d)),.sh (.list (ps.map Pi.d)),.sh (.list (ws.map .int)),.sh (.list (ptN vs ps n side)),.sh (.int (n:Int)),.sh (.int (B+if m=n then cW ws k else 0)),.sh (.int (k:Int)),.sh (.int (m:Int)),I]) ?_ ?_
    ·walk_at"dd";refine two (λz=>⟨_,ga ws k (by lia),?_⟩) λz=>?_
     ·walk_at"dd";rw[aF (by lia)];rfl
     ·rw[aA (by lia),yN]
    rintro U rfl;refine znd (λU=>U=[.sh (.list (vs.map Va.d)),.sh (.list (ps.map Pi.d)),.sh (.list (ws.map .int)),.sh (.list (ptN vs ps n side)),.sh (.int (n:Int)),.sh (.int (B+(if m=n then cW ws k else 0) - (if m=0 then(ntOf vs ps n).fl k else if X (m - 1) k then 0 else(ntOf vs ps n).rm k))),.sh (.int (k:Int)),.sh (.int (m:Int)),I]) ?_ ?_
    ·walk_at"dd";refine two (λz=>⟨_,gm Va.d ev,?_⟩) λz=>?_
     ·unfold Va.d;walk_at"dd";walk_at"k";rw[aF (show m=0 by lia),ef]
     ·rw[show(m:Int) - 1=((m - 1:Nat):Int) by lia];refine⟨ft _ _,pf,?_⟩;rw[pa (m - 1) k (by lia) S,aA (show ¬m=0 by lia)];by_cases hY:X (m - 1) k
      ·rw[bK hY,aA (by decide),aF hY,zP]
      ·rw[a7 hY,aF rfl,aA hY];refine⟨_,gm Va.d ev,?_⟩;unfold Va.d;walk_at"dd";walk_at"k";rw[em]
    rintro U rfl;rw[<- Int.add_sub_assoc,<- Int.add_sub_assoc];generalize(B+(if m=n then cW ws k else 0) - (if m=0 then(ntOf vs ps n).fl k else if X (m - 1) k then 0 else(ntOf vs ps n).rm k))=C;walk_at"dd";refine zn3 (λi U=>∃I:Sl,U=[.sh (.list (vs.map Va.d)),.sh (.list (ps.map Pi.d)),.sh (.list (ws.map .int)),.sh (.list (ptN vs ps n side)),.sh (.int (n:Int)),.sh (.int (C - su (u3 i) (ipT ps X m k))),.sh (.int (k:Int)),.sh (.int (m:Int)),I]) ⟨I,?_⟩ ?_ ?_
    ·rw[j3,zf3,zP]
    ·rintro i p U hp ⟨I,rfl⟩;have hi:=(wG.mp hp).1;obtain⟨p',ep,e1,e2,e3,pu,pv,p1,pok,hwd⟩:=pgp i hi;rw[hp]at ep;cases ep;rw[wV (n:=i),su_snoc',<- Int.sub_sub];generalize C - su (u3 i) (ipT ps X m k)=E;have sk:¬(p.v=k/\p.len<=m/\¬X (m - p.len) p.u)->ipT ps X m k i=0:=λz=>by
      unfold ipT;rw[e1,e2,e3];exact aA z
     generalize hPD:ps.map Pi.d=PD;unfold Pi.d;walk_at"dd";walk_at"k";refine two (λz=>⟨_,rfl,?_⟩) λz=>?_
     ·walk_at"dd";refine two (λz2=>⟨_,rfl,?_⟩) λz2=>?_
      ·walk_at"dd";refine⟨_,rfl,?_⟩;rw[show(m:Int) - (p.len:Int)=((m - p.len:Nat):Int) by lia];refine⟨ft _ _,pf,?_⟩;rw[pa (m - p.len) p.u (by lia) pu];by_cases hZ:X (m - p.len) p.u
       ·rw[bK hZ,aA (by decide),sk λq=>q.2.2 hZ,zP];exact⟨_,rfl⟩
       ·rw[a7 hZ,aF rfl];refine⟨_,rfl,_,rfl,?_⟩;walk_at"dd";rw[show(m:Int) - (p.len:Int)=((m - p.len:Nat):Int) by lia];refine⟨p.g,m - p.len,rfl,pok,?_⟩;walk_at"dd";have ei:ipT ps X m k i=p.g.at (m - p.len):=by
         unfold ipT;rw[e1,e2,e3,hwd];exact aF ⟨by lia,by lia,hZ⟩
        rw[ei];exact⟨_,rfl⟩
      ·rw[sk λq=>z2 (by lia),zP];exact⟨_,rfl⟩
     ·rw[sk λq=>z (by lia),zP];exact⟨_,rfl⟩
    ·rintro U ⟨I,rfl⟩;exact⟨_,_,rfl⟩
   ·rw[a7 hX,aF rfl,show lkT vs ps ws n X m k=0 from aA hX,yN];exact⟨_,_,rfl⟩
  ·rintro U ⟨Z,I,rfl⟩;rw[wO];exact⟨_,_,_,rfl⟩
 ·rintro U ⟨s6,Z,I,rfl⟩;rw[wO];walk_at"f";walk_at"dd";rw[W,bK (by lia)];exact q
end
abbrev Sp:=Nat×Nat
abbrev ky(m i:Nat):List Key:=[.inl (m:Int),.inl (i:Int)]
theorem zq71{p q:Nat}(h:ky m i=ky p q):m=p/\i=q:=by
 simp only[ky,List.cons.injEq,wW.injEq,and_true]at h;lia
def kvS(x:Sp):List Key×D:=(ky x.1 x.2,.bool true)
theorem zhd1:∀{S:List Sp}{m k:Nat},(getA (S.map kvS) (ky m k)).isSome=decide ((m,k)∈S)
|[],m,k=>rfl
|x :: r,m,k=>by
  have p:=zhd1 (S:=r) (m:=m) (k:=k);unfold getA at p ⊢;rw[v4];by_cases c:x=(m,k)
  ·subst c;rw[List.find?_cons_of_pos (by exact bK rfl),bK (wJ ..)];rfl
  ·rw[List.find?_cons_of_neg (by
    intro z;have:=zq71 (cS z);exact c (Prod.ext this.1 this.2)),p]
   exact decide_eq_decide.mpr ⟨λz=>wA _ z,λz=>(vR.mp z).elim (λe=>aN e.symm c) id⟩
theorem zmg1(l:List Sp)(nd:l.Nodup)(m k:Nat):∃q:List Sp,putD (l.map kvS) (ky m k) (.bool true)=q.map kvS/\q.Nodup/\((m,k) ∉ l->q=l++[(m,k)])/\∀y∈q,y∈l \/ y=(m,k):=by
 unfold putD;have u:∀y:Sp,(kvS y).1=ky m k ↔ y=(m,k):=λy=>⟨λz=>by have:=zq71 z;exact Prod.ext this.1 this.2,λz=>by rw[z];rfl⟩
 split
 ·rename_i c
  refine⟨l,?_,nd,λz=>?_,λy p=>.inl p⟩
  ·rw[wF];refine yG λy _=>?_;simp only[Function.comp];by_cases c:y=(m,k)
   ·rw[aF ((u y).mpr c),c];rfl
   ·rw[aA (λz=>c ((u y).mp z))]
  ·obtain⟨y,p,e⟩:=j4.mp c;obtain⟨x,B,rfl⟩:=vQ.mp p;exact aN ((u x).mp (cS e) ▸ B) z
 ·rename_i c
  refine⟨l++[(m,k)],by rw[v7];rfl,?_,λ_=>rfl,λy p=>?_⟩
  ·refine wS.mpr ⟨nd,by simp,λx B y p e=>c ?_⟩;simp at p;rw[p]at e;exact j4.mpr ⟨kvS x,vQ.mpr ⟨x,B,rfl⟩,bK ((u x).mpr e)⟩
  ·rcases vV.mp p with z|z
   ·exact .inl z
   ·simp at z;exact .inr z
def kyL(l:Le):Sp:=(l.t,l.at_)
def zoe:DSp:=λds Q=>E5 λ(L:List Le)(ps:List Pi)(lk sp:Int)(n:Nat)=>A7 (ds=[.list (L.map Le.d),.list (ps.map Pi.d),.int lk,.int sp,.int (n:Int)]) ((L.map kyL).Nodup) (L.length<=1000) ((∀l∈L,∃p,ps[l.at_]?=some p/\l.t+p.len<=n/\1<=l.am/\l.am<=p.g.at l.t/\p.g.ok)) (lk<=su L Le.am) (su L Le.am<=lk+sp) (Q (.bool true))
section
variable {P:aQ}{w:aR}{K:Fg}{mg:Str->Option aC}{base:aX}
theorem zac:FnScope ["plan", "pipes", "lack", "spare", "until", "gone", "total", "one", "pipe"] ["plan", "pipes", "lack", "spare", "until"] (zh0 zs9):=by walk_at"sc"
theorem zvh(M:Md K mg)(T:TopDef K "_law_plan" zs9)(kt:Kit K)(jJ:mg "isinstance"=none)(jL:mg "len"=none)(kE:mg "list"=none)(qI:mg "tuple"=none)(jU:Def P w K mg base "_law_whole" 1 ["found"] (spD K zo9))(jN:Def P w K mg base "_law_width" 1 ["gate", "moment"] (spD K zn7)):Def P w K mg base "_law_plan" 2 ["plan", "pipes", "lack", "spare", "until"] (spD K zoe):=by
 refine zn2 M T zac (by walk_at"h") (zba (by walk_at"i")) (zo2 ?_);walk_at"g";have nd:=zac.nd;refine⟨_,_,(zd0 (zm7 (zgc (zc4 (K:=K) rfl (zu0 (zc8 (K:=K) rfl) rfl jJ zr1 (za0 (pv 0) (za0 (zub (v:=.ty "list") rfl kE zrb rfl) zg0))) (λ_=>rfl))) (zj0 (zz0 zom)) zm1)
   (zd0 (pset 5 nd zhy)
   (zd0 (pset 6 nd ze0)
   (zd0 (zo7 a8 rfl (pi_W (K:=K) rfl (pv 0)) (pgn 7 nd) (zd0 (zm7 (PW.pt (zgg (zgc (zc4 (K:=K) rfl (zu0 (zc8 (K:=K) rfl) rfl jJ zr1 (za0 (pv 7) (za0 (zub (v:=.ty "tuple") rfl qI zop rfl) zg0))) (λ_=>rfl))) (zff (zr0 (zxe (K:=K) rfl (Room.units hr)) (zu0 (zk1 (K:=K) rfl) rfl jL zb6 (za0 (pv 7) zg0)) ze0 (zf1 _))))) (zj0 (zz0 zom)) zm1)
   (zd0 (zm7 (PW.pt (zgg (zgc (zc4 (K:=K) rfl (zo0 jU (rmn hr) rfl (za0 (pix w K hr (pv 7) ze0) zg0)) (λ_=>rfl))) (zgg (zgc (zc4 (K:=K) rfl (zo0 jU (rmn hr) rfl (za0 (pix w K hr (pv 7) ze0) zg0)) (λ_=>rfl))) (zff (zgc (zc4 (K:=K) rfl (zo0 jU (rmn hr) rfl (za0 (pix w K hr (pv 7) ze0) zg0)) (λ_=>rfl))))))) (zj0 (zz0 zom)) zm1)
   (zd0 (zm7 (PW.pt (zgg (zr0 zcy (pix w K hr (pv 7) ze0) ze0 (zf1 _)) (zgg (zr0 zcy (pix w K hr (pv 7) ze0) ze0 (zf1 _)) (zgg (zr0 zq81 (pix w K hr (pv 7) ze0) (zu0 (zk1 (K:=K) rfl) rfl jL zb6 (za0 (pv 1) zg0)) (zf1 _)) (zgg (zr0 zcy (pix w K hr (pv 7) ze0) ze0 (zf1 _)) (zff (zr0 (zq51 (w:=w) (K:=K) (Room.units hr) rfl rfl) (ze1 (za0 (pix w K hr (pv 7) ze0) (za0 (pix w K hr (pv 7) ze0) zg0))) (pv 5) (by with_unfolding_all rfl)))))))) (zj0 (zz0 zom)) zm1)
   (zd0 (pset 8 nd (pix w K hr (pv 1) (pix w K hr (pv 7) ze0)))
   (zd0 (zm7 (PW.pt (zgg (zr0 zbw (zl1 (zg1 (K:=K) rfl) (pix w K hr (pv 7) ze0) (pix w K hr (pv 8) ze0)) (pv 4) (zf1 _)) (zff (zr0 zbw (pix w K hr (pv 7) ze0) (zo0 jN (rmn hr) rfl (za0 (pix w K hr (pv 8) ze0) (za0 (pix w K hr (pv 7) ze0) zg0))) (zf1 _))))) (zj0 (zz0 zom)) zm1)
   (zd0 (zuz zom (zd71 (pv 5) (ze1 (za0 (pix w K hr (pv 7) ze0) (za0 (pix w K hr (pv 7) ze0) zg0))) (zg81 (Room.units hr))))
   (zj0 (zve (i:=6) nd rfl (by first|exact xW rfl|exact xP rfl) (pix w K hr (pv 7) ze0) zbl)))))))))
   (zj0 (zz0 (zq41 (zoj zg91 (pv 2) (pv 6) (zf1 _)) (zg71 (zoj zg91 (pv 6) (zl1 (zg1 (K:=K) rfl) (pv 2) (pv 3)) (zf1 _)))))))))),(zl0 (zj7 (zdc (zv8 (RfE.v (zmz kt (by simp) (zc0 0))))) (zd1 (RfE.c zbq)) zn1)
   (zl0 (ze6 zvf1)
   (zl0 (za1 zc1 (rgn 6))
   (zl0 (zp7 (zgv (zi0 0)) (rgn 7) (zl0 (zj7 (zfg (zdc (zv8 (RfE.v (zmz kt (by simp) (zc0 7))))) (zq0 (zz1 q_ne (RfV.h (RfE.v (zf9 zle (zw0 (zc0 7) zq1)))) (RfV.h rvi)))) (zd1 (RfE.c zbq)) zn1)
   (zl0 (zj7 (zfg (zdc (zv8 (RfE.v (zs0 (zb0 (zm0 r_ix (zc0 7) rvi) zk0))))) (zfg (zdc (zv8 (RfE.v (zs0 (zb0 (zm0 r_ix (zc0 7) rvi) zk0))))) (zdc (zv8 (RfE.v (zs0 (zb0 (zm0 r_ix (zc0 7) rvi) zk0))))))) (zd1 (RfE.c zbq)) zn1)
   (zl0 (zj7 (zfg (zq0 (zm0 r_lt (RfE.v (zm0 r_ix (zc0 7) rvi)) rvi)) (zfg (zq0 (zm0 r_lt (RfE.v (zm0 r_ix (zc0 7) rvi)) rvi)) (zfg (zq0 (zm0 r_ge (RfE.v (zm0 r_ix (zc0 7) rvi)) (RfE.v (zf9 zle (zw0 (zc0 1) zq1))))) (zfg (zq0 (zm0 r_lt (RfE.v (zm0 r_ix (zc0 7) rvi)) rvi)) (zq0 (zy31 (zy1 (zb0 (zm0 r_ix (zc0 7) rvi) (zb0 (zm0 r_ix (zc0 7) rvi) zk0))) (zv0 5))))))) (zd1 (RfE.c zbq)) zn1)
   (zl0 (za1 (zm0 r_ix (zc0 1) (RfE.v (zm0 r_ix (zc0 7) rvi))) (rgn 8))
   (zl0 (zj7 (zfg (zq0 (zm0 r_gt (RfE.v (zm0 zq7 (RfE.v (zm0 r_ix (zc0 7) rvi)) (RfE.v (zm0 r_ix (zc0 8) rvi)))) (zc0 4))) (zq0 (zm0 r_gt (RfE.v (zm0 r_ix (zc0 7) rvi)) (RfE.v (zs0 (zb0 (zm0 r_ix (zc0 8) rvi) (zb0 (zm0 r_ix (zc0 7) rvi) zk0))))))) (zd1 (RfE.c zbq)) zn1)
   (zl0 (zd61 zbq (zv0 5) (zy1 (zb0 (zm0 r_ix (zc0 7) rvi) (zb0 (zm0 r_ix (zc0 7) rvi) zk0))))
   (zse (zm0 r_ix (zc0 7) rvi)))))))))
   (zd1 (RfE.c (zhv (zm0 r_le (zc0 2) (zc0 6)) (zm0 r_le (zc0 6) (RfE.v (zm0 zq7 (zc0 2) (zc0 3))))))))))),?_⟩
 rintro ds Qd ⟨L,ps,lk,sp,n,rfl,nd,hL,hl,t1,t2,q⟩;walk_at"ds";walk_at"a";refine⟨λ_=>trivial,hJ _ ?_⟩;walk_at"c";walk_at"f";walk_at"dn";walk_at"a";refine zn3 (λi U=>E2 λs7 s8:Sl=>U=[.sh (.list (L.map Le.d)),.sh (.list (ps.map Pi.d)),.sh (.int lk),.sh (.int sp),.sh (.int (n:Int)),.ow (.dt (((L.take i).map kyL).map kvS)),.sh (.int (su (L.take i) Le.am)),s7,s8]) ⟨_,_,rfl⟩ ?_ ?_
 ·rintro j l U I ⟨s7,s8,rfl⟩;clear hJ;obtain⟨p,hp,h1,h2,h3,ok⟩:=hl l (wK I);have hlt:=(wG.mp hp).1;have et:su (L.take (j+1)) Le.am=su (L.take j) Le.am+l.am:=by rw[uaY,I,zv4];show _+su [l] _=_;rw[zt0,zf3,yN]
  have hj:j < L.length:=(wG.mp I).1;have O:(l.t,l.at_) ∉ (L.take j).map kyL:=λz=>by
   rw[z8]at z;obtain⟨i,hi,e⟩:=List.mem_iff_getElem.mp z;rw[wM,u4]at hi;rw[List.getElem_take]at e;have Z:(L.map kyL)[i]'(by rw[u4];lia)=(L.map kyL)[j]'(by rw[u4];lia):=by
    rw[e,uaU];have:=(wG.mp I).2;rw[this];rfl
   have:=(List.getElem_inj nd).mp Z;lia
  obtain⟨l',e1,_,Z,_⟩:=zmg1 ((L.take j).map kyL) (by rw[z8];exact nd.sublist (List.take_sublist ..)) l.t l.at_;have ek:((L.take (j+1)).map kyL).map kvS=l'.map kvS:=by rw[Z O,uaY,I,v7];rfl
  rw[et,ek,<- e1];clear et ek e1 Z;have hz:(((L.take j).map kyL).map kvS).length < 16777216:=by rw[u4,u4,wM];lia
  have W:=zhd1 (S:=(L.take j).map kyL) (m:=l.t) (k:=l.at_);rw[a7 O]at W;generalize((L.take j).map kyL).map kvS=KS at W hz ⊢;generalize su (L.take j) Le.am=tot;generalize L.map Le.d=LD;obtain⟨lt,la,lm⟩:=l;dsimp only[Le.d]at hp h1 h2 h3 hlt W ⊢;walk_at"a";refine⟨λ_=>trivial,?_⟩;rw[aA (by decide)];walk_at"b";refine⟨_,rfl,_,rfl,?_⟩;walk_at"dd";refine⟨_,rfl,_,rfl,?_⟩;walk_at"dd";refine⟨_,rfl,_,rfl,?_⟩;walk_at"dd";walk_at"b";walk_at"k";rw[aA (by lia)];walk_at"k";rw[aA (by lia)];walk_at"k";rw[u4,aA (by lia)];walk_at"k";rw[aA (by lia)];refine⟨_,rfl,_,rfl,ky lt la,rfl,?_⟩;rw[aA (by rw[W];decide)];walk_at"b";walk_at"k";refine⟨_,gm Pi.d hp,hJ _ ?_⟩;clear hJ;obtain⟨u,v,pn,pr,g⟩:=p;unfold Pi.d;dsimp only at h1 h3 ok;walk_at"a";refine⟨_,rfl,_,rfl,?_⟩;walk_at"dd";rw[aA (by lia)];refine⟨_,rfl,_,rfl,_,rfl,g,lt,rfl,ok,?_⟩;walk_at"dd";rw[aA (by lia)];walk_at"b";refine⟨_,rfl,_,rfl,ky lt la,rfl,hz,hJ _ ?_⟩;clear hJ;walk_at"dd";exact⟨_,rfl,_,_,rfl⟩
 ·rintro U ⟨s7,s8,rfl⟩;rw[xR];walk_at"f";walk_at"dd";rw[aF t1,bK t2];exact q
end
section
variable {ps:List Pi}{n:Nat}{f:Fm}{lk mo li sp w0:Int}
structure P2(ps:List Pi):Prop where
 c1:1<=ps.length
 c2:ps.length<=2
 p:∀p∈ps,PiOk 2 p/\p.u=0/\p.v=1
structure N2(lk mo li sp w0:Int):Prop where
 l1:1<=lk
 m0:0<=mo
 l0:0<=li
 s0:0<=sp
 w:w0=0 \/ w0=mo
theorem N2.vf(h:N2 lk mo li sp w0):∀v∈vs2 lk mo li sp,0<=v.fill/\v.fill<=v.room:=λv p=>by
 obtain⟨q,m0,u,s0,_⟩:=h;simp at p;rcases p with rfl|rfl
 ·show 0<=lk+mo/\lk+mo<=lk+mo;lia
 ·show 0<=li/\li<=li+lk+sp;lia
theorem N2.wr(h:N2 lk mo li sp w0):∀(k:Nat) v y,(vs2 lk mo li sp)[k]?=some v->[w0,li+lk][k]?=some y->0<=y/\y<=v.room:=λk v y p q=>by
 obtain⟨u,m0,z,s0,hw⟩:=h
 match k,p,q with
|0,p,q =>
  cases p;cases q;show 0<=w0/\w0<=lk+mo;lia
|1,p,q =>
  cases p;cases q;show 0<=li+lk/\li+lk<=li+lk+sp;lia
|k+2,p,_=>simp at p
theorem N2.yok(h:N2 lk mo li sp w0)(q:P2 ps):YOk (vs2 lk mo li sp) ps [w0,li+lk]:=⟨by simp,by simp,wL q.c2 (by decide),rfl,h.vf,h.wr,λp h=>(q.p p h).1⟩
theorem N2.zok(h:N2 lk mo li sp w0)(u:P2 ps):ZOk (vs2 lk mo li sp) (ps.map Pi.pp) [w0,li+lk]:=⟨by simp,by simp,by rw[u4];exact wL u.c2 (by decide),rfl,h.vf,h.wr,λp h=>by
 obtain⟨z,q,rfl⟩:=vQ.mp h;exact⟨(u.p z q).1.1,(u.p z q).1.2.1⟩⟩
theorem N2.never(h:N2 lk mo li sp w0)(B:P2 ps){r:List Nat}(J:IsCut (vs2 lk mo li sp) (ps.map Pi.pp) [w0,li+lk] (.list (r.map nI))):False:=by
 rcases J.some (h.zok B)with⟨e,_⟩|⟨l,_,_,q,z,cl,pos⟩
 ·cases e
 have z:∀v∈l,v < 2:=z;obtain⟨O,m0,S,s0,hw⟩:=h
 match l,q,z,cl,pos with
|[],_,_,_,pos=>exact aN (show(0:Int) < 0 from pos) (by decide)
|[0],_,_,_,pos =>
  have pos:0 < (w0 - (lk+mo))+0:=pos;lia
|[1],_,_,cl,_ =>
  obtain⟨p,I⟩:∃p,p∈ps:=⟨_,xF (show 0 < ps.length from B.c1)⟩
  have:=cl _ (vQ.mpr ⟨p,I,rfl⟩) (by show p.v∈[1];rw[(B.p _ I).2.2];simp);have:p.u∈[1]:=this;rw[(B.p _ I).2.1]at this;simp at this
|(k+2) :: _,_,z,_,_=>have:=z (k+2) (by simp);lia
|[0,1],_,_,_,pos =>
  have pos:0 < (w0 - (lk+mo))+((li+lk - li)+0):=pos;lia
|0 :: 0 :: _,q,_,_,_=>simp at q
|1 :: 0 :: _,q,_,_,_=>simp at q
|1 :: 1 :: _,q,_,_,_=>simp at q
|0 :: (k+2) :: _,_,z,_,_=>have:=z (k+2) (by simp);lia
|1 :: (k+2) :: _,_,z,_,_=>have:=z (k+2) (by simp);lia
|0 :: 1 :: k :: _,q,z,_,_ =>
  have:=z k (by simp);simp at q;lia
theorem P2.cut(q:P2 ps):∀p∈ps,p.u=0/\p.v=1/\1<=p.len/\p.g.okk:=λp h=>⟨(q.p p h).2.1,(q.p p h).2.2,(q.p p h).1.2.2.1,(q.p p h).1.2.2.2.2⟩
theorem N2.less(h:N2 lk mo li sp w0)(q:P2 ps)(p:Ovr (vs2 lk mo li sp) ps [w0,li+lk] n M side)(z:M < [w0,li+lk].sum):cmP ps n < lk:=by
 refine Int.not_le.mp λu=>?_;have:=cut2 h.l1 h.m0 h.l0 h.s0 h.w q.cut u λm k=>(ntOf (vs2 lk mo li sp) ps n).nd m k ∉ side;rw[<- show M=_ from p]at this;have e:[w0,li+lk].sum=w0+(li+lk+0):=rfl;lia
theorem N2.met(h:N2 lk mo li sp w0)(I:P2 ps)(mt:Met (vs2 lk mo li sp) ps [w0,li+lk] n [w0,li+lk].sum f) :
  lk<=su (ze3 ps n f.g n) Le.am/\su (ze3 ps n f.g n) Le.am<=lk+sp/\su (ze3 ps n f.g n) Le.am+w0<=lk+mo/\su (ze3 ps n f.g n) Le.am<=cmP ps n /\
  ∀l∈ze3 ps n f.g n,∃p,ps[l.at_]?=some p/\l.t+p.len<=n/\1<=l.am/\l.am<=p.g.at l.t/\p.g.ok:=by
 have Yv:Yw [lk+mo,li] ps:=⟨by simp,by simp,λx W=>by
  obtain⟨l1,m0,l0,_,_⟩:=h;simp at W;rcases W with rfl|rfl <;> lia,wL I.c2 (by decide),I.p⟩
 obtain⟨pm,rm,S⟩:=mt.pln Yv rfl (λk J=>by
  match k,J with
 |0,_=>rfl
 |1,_=>rfl
 |k+2,J=>exact aN (show k+2 < 2 from J) (by lia)) rfl
 have Z:∀m i,m < n->i∈pb ps m n->0<=f.g m i/\f.g m i<=zl5 ps i m:=λm i B hi=>mt.fl.g m i B hi;have q:∀l∈ze3 ps n f.g n,(l.t < n/\l.t+pl ps l.at_<=n)/\zp1 ps l.at_=0/\za6 ps l.at_=1/\1<=l.am/\l.am<=zl5 ps l.at_ l.t/\l.at_ < ps.length:=λl hl=>by
  obtain⟨m,i,B,hi,z,rfl⟩:=zgn hl;have u:=zne.2 i hi;obtain⟨u1,u2⟩:=zjd1 (λp h=>(I.p p h).2) u.1;exact⟨⟨B,u.2⟩,u1,u2,by show 1<=f.g m i;lia,(Z m i B hi).2,u.1⟩
 have e1:lieR ps [lk+mo,li] (ze3 ps n f.g n) n 1=li+su (ze3 ps n f.g n) Le.am:=by
  unfold lieR;rw[zn0 (g:=Le.am) λl hl=>aF ⟨(q l hl).1.2,(q l hl).2.2.1⟩,su_zero' λl hl=>aA λz=>by have:=(q l hl).2.1;lia];show li+_ - 0=_;lia
 have e0:lieR ps [lk+mo,li] (ze3 ps n f.g n) n 0=lk+mo - su (ze3 ps n f.g n) Le.am:=by
  unfold lieR;rw[su_zero' λl hl=>aA λz=>by have:=(q l hl).2.2.1;lia,zn0 (g:=Le.am) λl hl=>aF ⟨by have:=(q l hl).1.1;lia,(q l hl).2.1⟩];show lk+mo+0 - _=_;lia
 have a1:li+lk<=_:=S 1 (by simp);have a2:_<=li+lk+sp:=rm n 1 (u7 _) (by simp);have a3:w0<=_:=S 0 (by simp);rw[e1]at a1 a2;rw[e0]at a3;refine⟨by lia,by lia,by lia,?_,λl hl=>?_⟩
 ·rw[<- zbv λp h=>(I.p p h).1.2.2.1,zva];refine zvr λm B=>zvr λi hi=>?_;have:=Z m i (u8.mp B) hi;show(if 0 < f.g m i then f.g m i else 0)<=zl5 ps i m;split <;> lia
 ·obtain⟨⟨_,f2⟩,_,_,f5,O,f7⟩:=q l hl;have e:ps[l.at_]?=some ps[l.at_]:=u5 f7;refine⟨_,e,?_,f5,?_,(I.p _ (xF f7)).1.2.2.2.2.1⟩
  ·unfold pl at f2;rw[e]at f2;exact f2
  ·unfold zl5 at O;rw[e]at O;exact O
theorem P2.mono(q:P2 ps){j:Nat}(h:j<=m):cmP ps j<=cmP ps m:=zps (λp u=>(q.p p u).1.2.2.2.2) h
end
theorem zvc1(g:Gt):Fit 1 g.d:=by
 cases g <;> exact Fit.tup λe p=>by
  simp at p;rcases p with rfl|rfl|rfl|rfl <;> first|exact Fit.int _|exact Fit.str (by decide +kernel)
theorem zva1(p:Pi):Fit 2 p.d:=Fit.tup λe q=>by
 simp at q;rcases q with rfl|rfl|rfl|rfl|rfl
 ·exact Fit.int _
 ·exact Fit.int _
 ·exact Fit.int _
 ·exact Fit.int _
 ·exact zvc1 _
section
variable {P:aQ}{w:aR}{K:Fg}{mg:Str->Option aC}{base:aX}
theorem zq31:FnScope ["script", "lack", "count", "pipes", "last", "vats", "wants", "spare", "handed", "found", "due"] ["script"] (zh0 zi21):=by walk_at"sc"
theorem zg01(kt:Kit K)(jJ:mg "isinstance"=none)(jL:mg "len"=none)(kE:mg "list"=none)(jI:mg "range"=none)(qI:mg "tuple"=none)(uO:Def P w K mg base "soonest" 10 ["yard", "wants", "last"] (spD K zsj))(jK:Def P w K mg base "_law_cell_at" 1 ["script", "k"] (spD K zg6))(jU:Def P w K mg base "_law_whole" 1 ["found"] (spD K zo9))(qT:Def P w K mg base "_law_lack" 1 ["cells"] (spD K zpf))(qU:Def P w K mg base "_law_pipe" 2 ["cell", "lack"] (spD K zzf))(uE:Def P w K mg base "_law_due" 2 ["pipes", "lack", "last"] (spD K znk))(qV:Def P w K mg base "_law_plan" 2 ["plan", "pipes", "lack", "spare", "until"] (spD K zoe))(qE:Def P w K mg base "_law_short" 2 ["vats", "pipes", "wants", "part", "until"] (spD K zbd))(qW:Def P w K mg base "_law_vats" 2 ["script", "lack"] (spD K zbf)) :
  ∀(f:aE)(cdv:aC)(A:bB)(outer:List Env)(s:aH)(H:Hp)(E:XK),Room 10 (A.deeper (dJ "law" (zh0 zi21) s.heap.objs.size f cdv)) ->
   ∃t d,PSs (cxOf CX0 P w K mg base ["script", "lack", "count", "pipes", "last", "vats", "wants", "spare", "handed", "found", "due"] "law" (zh0 zi21) f cdv A outer s H E).nox (zw2 zi21) t/\RfS K t d/\∀(ns:List Int)(Qd:D->Prop),ns.length<=63->Qd (.bool true)->d { nx:=λ_=>Qd .none,rt:=rD Qd } (zrd ["script", "lack", "count", "pipes", "last", "vats", "wants", "spare", "handed", "found", "due"] [.list (ns.map .int)]):=by
 walk_at"g";have nd:=zq31.nd;refine⟨_,_,(zd0 (pset 1 nd (zo0 qT (rmn hr) rfl (za0 (zgi (sl_W (K:=K) rfl) (pv 0) zyi (zsa ze0)) zg0)))
   (zd0 (pset 2 nd (zl1 (zg1 (K:=K) rfl) ze0 (zl1 zu4 (zo0 jK (rmn hr) rfl (za0 (pv 0) (za0 ze0 zg0))) ze0)))
   (zd0 (zg7 (i:=3) (sc:=zh0 zi21) (N:=["script", "lack", "count", "pipes", "last", "vats", "wants", "spare", "handed", "found", "due"]) (own:=["k"]) (ix:=[1,0]) rfl rfl rfl (by walk_at"csc") nd rfl rfl (zl2 rfl jI (za0 (pv 2) zg0)) (λ_ _ _ _=>⟨(pgn 0 (nds ["k", "lack", "script"])),zy4,(zo0 qU (rmn hr) rfl (za0 (zo0 jK (rmn hr) rfl (za0 (pv 2) (za0 (zl1 (zg1 (K:=K) rfl) ze0 (pv 0)) zg0))) (za0 (pv 1) zg0)))⟩))
   (zd0 (pset 4 nd (zl1 zu4 (zl1 zi2 (zo0 jK (rmn hr) rfl (za0 (pv 0) (za0 ze0 zg0))) ze0) (pix w K hr (zb2 (za0 ze0 (za0 ze0 (za0 ze0 zg0)))) (zl1 zu4 (zo0 jK (rmn hr) rfl (za0 (pv 0) (za0 ze0 zg0))) ze0))))
   (zd0 (zuz (zo0 qW (rmn hr) rfl (za0 (pv 0) (za0 (pv 1) zg0))) (zr6 (K:=K) (n:=3) rfl rfl (zj1 (pgn 5 nd) (zj1 (pgn 6 nd) (zj1 (pgn 7 nd) zz6)))))
   (zd0 (pset 8 nd (ze1 (za0 (ze1 (za0 (zb9 (zt8 (K:=K) rfl) rfl kE zrb (za0 (pv 5) zg0)) (za0 (zb9 (zt8 (K:=K) rfl) rfl kE zrb (za0 (pv 3) zg0)) zg0))) (za0 (zb9 (zt8 (K:=K) rfl) rfl kE zrb (za0 (pv 6) zg0)) zg0))))
   (zd0 (pset 9 nd (zo0 uO (rmn hr) rfl (za0 (pix w K hr (pv 8) ze0) (za0 (pix w K hr (pv 8) ze0) (za0 (pv 4) zg0)))))
   (zd0 (zm7 (PW.pt (zgg (zr0 (zxe (K:=K) rfl (Room.units hr)) (pv 8) (ze1 (za0 (ze1 (za0 (pv 5) (za0 (pv 3) zg0))) (za0 (pv 6) zg0))) (zf1 _)) (zgg (zgc (zc4 (K:=K) rfl (zu0 (zc8 (K:=K) rfl) rfl jJ zr1 (za0 (pv 9) (za0 (zub (v:=.ty "tuple") rfl qI zop rfl) zg0))) (λ_=>rfl))) (zff (zr0 zcy (zu0 (zk1 (K:=K) rfl) rfl jL zb6 (za0 (pv 9) zg0)) ze0 (zf1 _)))))) (zj0 (zz0 zom)) zm1)
   (zd0 (pset 10 nd (zo0 uE (rmn hr) rfl (za0 (pv 3) (za0 (pv 1) (za0 (pv 4) zg0)))))
   (zd0 (zm7 (zr0 zcy (pv 10) ze0 (zf1 _)) (zd0 (zm7 (PW.pt (zgg (zr0 (zxe (K:=K) rfl (Room.units hr)) (pix w K hr (pv 9) ze0) zy5 (zf1 _)) (zgg (zr0 (zxe (K:=K) rfl (Room.units hr)) (zu0 (zk1 (K:=K) rfl) rfl jL zb6 (za0 (pv 9) zg0)) ze0 (zf1 _)) (zff (zgc (zc4 (K:=K) rfl (zu0 (zc8 (K:=K) rfl) rfl jJ zr1 (za0 (pix w K hr (pv 9) ze0) (za0 (zub (v:=.ty "list") rfl kE zrb rfl) zg0))) (λ_=>rfl))))))) (zj0 (zz0 zom)) zm1)
   (zj0 (zz0 (zo0 qE (rmn hr) rfl (za0 (pv 5) (za0 (pv 3) (za0 (pv 6) (za0 (pix w K hr (pv 9) ze0) (za0 (pv 4) zg0))))))))) zm1)
   (zd0 (zm7 (PW.pt (zgg (zr0 (zxe (K:=K) rfl (Room.units hr)) (pix w K hr (pv 9) ze0) zy5 (zf1 _)) (zgg (zr0 (zxe (K:=K) rfl (Room.units hr)) (zu0 (zk1 (K:=K) rfl) rfl jL zb6 (za0 (pv 9) zg0)) ze0 (zf1 _)) (zgg (zgc (zc4 (K:=K) rfl (zo0 jU (rmn hr) rfl (za0 (pix w K hr (pv 9) ze0) zg0)) (λ_=>rfl))) (zff (zr0 (zxe (K:=K) rfl (Room.units hr)) (pix w K hr (pv 9) ze0) (pv 10) (zf1 _))))))) (zj0 (zz0 zom)) zm1)
   (zd0 (zm7 (PW.pt (zgg (zgc (zc4 (K:=K) rfl (zo0 qV (rmn hr) rfl (za0 (pix w K hr (pv 9) ze0) (za0 (pv 3) (za0 (pv 1) (za0 (pv 7) (za0 (pv 10) zg0)))))) (λ_=>rfl))) (zff (zgc (zc4 (K:=K) rfl (zu0 (zc8 (K:=K) rfl) rfl jJ zr1 (za0 (pix w K hr (pv 9) ze0) (za0 (zub (v:=.ty "list") rfl kE zrb rfl) zg0))) (λ_=>rfl)))))) (zj0 (zz0 zom)) zm1)
   (zd0 (zm7 (zr0 (zo5 (K:=K) rfl (Room.units hr)) (pv 10) ze0 (zf1 _)) (zj0 (zz0 (zoj (zo5 (K:=K) rfl (Room.units hr)) (pix w K hr (pv 9) ze0) (zb2 zg0) (zf1 _)))) zm1)
   (zj0 (zz0 (zo0 qE (rmn hr) rfl (za0 (pv 5) (za0 (pv 3) (za0 (pv 6) (za0 (pix w K hr (pv 9) ze0) (za0 (zl1 zy8 (pv 10) ze0) zg0))))))))))))))))))))),(zl0 (za1 (zs0 (zb0 (zfc1 (zc0 0) zij (zef zc1)) zk0)) (rgn 1))
   (zl0 (za1 (zm0 zq7 rvi (RfE.v (zm0 zic (RfE.v (zs0 (zb0 (zi0 0) (zb0 zc1 zk0)))) rvi))) (rgn 2))
   (zl0 (za1 (RfF.e (zx2 (RfI.j (zu7 (zb0 (zi0 2) zk0))) (zo1 (i:=0) (n:=1) (by decide)) zk6 (zs0 (zb0 (zs0 (zb0 (zi0 2) (zb0 (zm0 zq7 rvi (zc0 0)) zk0))) (zb0 (zi0 1) zk0))))) (rgn 3))
   (zl0 (za1 (zm0 zic (RfE.v (zm0 zyk (RfE.v (zs0 (zb0 (zi0 0) (zb0 zc1 zk0)))) rvi)) (RfE.v (zm0 r_ix (RfE.v (RfF.e (zd6 (zb0 zc1 (zb0 zc1 (zb0 zc1 zk0)))))) (RfE.v (zm0 zic (RfE.v (zs0 (zb0 (zi0 0) (zb0 zc1 zk0)))) rvi))))) (rgn 4))
   (zl0 (za1 (zs0 (zb0 (zi0 0) (zb0 (zi0 1) zk0))) (ztb (zi1 (rgn 5) (zi1 (rgn 6) (zi1 (rgn 7) zy6)))))
   (zl0 (za1 (zy1 (zb0 (zy1 (zb0 (RfF.e (zd81 zet (zw0 (zc0 5) zq1))) (zb0 (RfF.e (zd81 zet (zw0 (zc0 3) zq1))) zk0))) (zb0 (RfF.e (zd81 zet (zw0 (zc0 6) zq1))) zk0))) (rgn 8))
   (zl0 (za1 (zs0 (zb0 (zm0 r_ix (zc0 8) rvi) (zb0 (zm0 r_ix (zc0 8) rvi) (zb0 (zi0 4) zk0)))) (rgn 9))
   (zl0 (zj7 (zfg (zq0 (zz1 q_ne (RfV.h (zc0 8)) (zrq (zv7 (zrq (zv7 (RfV.h (zc0 5)) (zv7 (RfV.h (zc0 3)) zjl))) (zv7 (RfV.h (zc0 6)) zjl))))) (zfg (zdc (zv8 (RfE.v (zmz kt (by simp) (zc0 9))))) (zq0 (zm0 r_lt (RfE.v (zf9 zle (zw0 (zc0 9) zq1))) rvi)))) (zd1 (RfE.c zbq)) zn1)
   (zl0 (za1 (zs0 (zb0 (zi0 3) (zb0 (zi0 1) (zb0 (zi0 4) zk0)))) (rgn 10))
   (zl0 (zj7 (zq0 (zm0 r_lt (zc0 10) rvi)) (zl0 (zj7 (zfg (zq0 (zz1 q_ne (RfV.h (RfE.v (zm0 r_ix (zc0 9) rvi))) (RfV.h (RfE.v zc6)))) (zfg (zq0 (zz1 q_ne (RfV.h (RfE.v (zf9 zle (zw0 (zc0 9) zq1)))) (RfV.h rvi))) (zdc (zv8 (RfE.v (zmz kt (by simp) (RfE.v (zm0 r_ix (zc0 9) rvi)))))))) (zd1 (RfE.c zbq)) zn1)
   (zd1 (RfE.c (zs0 (zb0 (zi0 5) (zb0 (zi0 3) (zb0 (zi0 6) (zb0 (zm0 r_ix (zc0 9) rvi) (zb0 (zi0 4) zk0))))))))) zn1)
   (zl0 (zj7 (zfg (zq0 (zz1 q_ne (RfV.h (RfE.v (zm0 r_ix (zc0 9) rvi))) (RfV.h (RfE.v zc6)))) (zfg (zq0 (zz1 q_ne (RfV.h (RfE.v (zf9 zle (zw0 (zc0 9) zq1)))) (RfV.h rvi))) (zfg (zdc (zv8 (RfE.v (zs0 (zb0 (zm0 r_ix (zc0 9) rvi) zk0))))) (zq0 (zz1 q_ne (RfV.h (RfE.v (zm0 r_ix (zc0 9) rvi))) (RfV.h (zc0 10))))))) (zd1 (RfE.c zbq)) zn1)
   (zl0 (zj7 (zfg (zdc (zv8 (RfE.v (zs0 (zb0 (zm0 r_ix (zc0 9) rvi) (zb0 (zi0 3) (zb0 (zi0 1) (zb0 (zi0 7) (zb0 (zi0 10) zk0))))))))) (zdc (zv8 (RfE.v (zmz kt (by simp) (RfE.v (zm0 r_ix (zc0 9) rvi))))))) (zd1 (RfE.c zbq)) zn1)
   (zl0 (zj7 (zq0 (zz1 q_eq (RfV.h (zc0 10)) (RfV.h rvi))) (zd1 (RfE.c (zz1 q_eq (RfV.h (RfE.v (zm0 r_ix (zc0 9) rvi))) (zyc1 zjl)))) zn1)
   (zd1 (RfE.c (zs0 (zb0 (zi0 5) (zb0 (zi0 3) (zb0 (zi0 6) (zb0 (zm0 r_ix (zc0 9) rvi) (zb0 (zm0 zgk (zc0 10) rvi) zk0))))))))))))))))))))),?_⟩
 intro ns Qd hns q;walk_at"ds";walk_at"a";rw[zai,show cutG ns none (some 80)=ns.take 80 from zk11 ns 80,yC (by lia)];refine⟨ns,rfl,by lia,λlk l1=>hJ _ ?_⟩;walk_at"c";refine⟨ns,0,rfl,by lia,λm=>?_⟩;walk_at"dd";obtain⟨c,hc⟩:=yX (show 0<=1+m % 2 by lia);have c2:c<=2:=by lia
 have c1:1<=c:=by lia
 walk_at"f";rw[hc];clear hc m;walk_at"a";refine⟨by lia,by lia,?_⟩;rw[v6];unfold rngD;refine zeg1 (λp:Pi=>PiOk 2 p/\p.u=0/\p.v=1) Pi.d (by rw[aY,wO];lia) (λk hk=>?_) λps hp1 hp2=>hJ _ ?_
 ·have hk:=u8.mp hk;clear hJ;rw[show(0:Int)+(k:Int)=(k:Int) by lia];walk_at"cs";walk_at"dd";refine⟨ns,2+k,by congr 2,by lia,λI=>?_⟩;walk_at"dd";exact⟨I,lk,rfl,l1,λp h S h2=>⟨p,⟨h,S,h2⟩,rfl⟩⟩
 clear hJ;rw[wO]at hp1;walk_at"a";refine⟨ns,1,rfl,by lia,λm=>?_⟩;walk_at"dd";refine⟨ns,1,rfl,by lia,λI=>?_⟩;walk_at"dd";obtain⟨b,hb,b1,b2⟩:∃b:Nat,atI [u6 61,.int 13,.int 13] (I % 3)=some (.int (b:Int))/\1<=b/\b<=61:=by
  rcases(show I % 3=0 \/ I % 3=1 \/ I % 3=2 by lia)with h|h|h <;> rw[h]
  ·exact⟨61,rfl,by lia,by lia⟩
  ·exact⟨13,rfl,by lia,by lia⟩
  ·exact⟨13,rfl,by lia,by lia⟩
 refine⟨_,hb,?_⟩;walk_at"dd";have x0:=Int.emod_nonneg (m / 3) (b:=(b:Int)) (by lia);have x1:=Int.emod_lt_of_pos (m / 3) (b:=(b:Int)) (by lia);obtain⟨l,hl⟩:=yX x0;have W:l<=60:=by lia
 refine⟨by lia,hJ _ ?_⟩;clear hJ;rw[hl];clear hl x0 x1 hb b1 b2 b m I;walk_at"a";refine⟨ns,lk,rfl,λZ li sp w0 mi m0 li0 s0 hw hmi=>?_⟩;walk_at"dd";walk_at"f";have O:P2 ps:=⟨by lia,by lia,hp2⟩
 have pd:∀p∈ps,p.g.ok/\p.len<=20:=λp h=>⟨(hp2 p h).1.2.2.2.2.1,(hp2 p h).1.2.2.2.1⟩
 have h:N2 lk Z li sp w0:=⟨l1,m0,li0,s0,hw⟩
 have fH:Fit 5 (.tuple [.tuple [.list ((vs2 lk Z li sp).map Va.d),.list (ps.map Pi.d)],.list ([w0,li+lk].map .int)]):=Fit.tup λd hd=>by
  simp only[vR,uaZ,or_false]at hd;rcases hd with rfl|rfl
  ·refine Fit.tup λd hd=>?_;simp only[vR,uaZ,or_false]at hd;rcases hd with rfl|rfl
   ·refine zgw λv hv=>Fit.tup λd hd=>?_;simp only[vR,uaZ,or_false]at hd hv;rcases hv with rfl|rfl <;> rcases hd with rfl|rfl|rfl <;> first|exact Fit.int _|exact(show Fit _ (wI "ab")from Fit.str (by decide +kernel))|exact(show Fit _ (wI "ba")from Fit.str (by decide +kernel))
   ·exact zgw λp O=>(zva1 p).mono (by lia)
  ·exact zow _
 walk_at"a";walk_at"b";have hN:(l+1) * (vs2 lk Z li sp).length<=122:=by show(l+1) * 2<=122;lia
 refine⟨_,rfl,_,rfl,vs2 lk Z li sp,ps,[w0,li+lk],l,rfl,h.yok O,h.zok O,W,hN,λr hr=>(h.never O hr).elim,λ_ M side ov hM=>hJ _ ?_,λ_ m f pt so=>hJ _ ?_⟩
 ·clear hJ;have less:=h.less O ov hM;walk_at"a";refine⟨fH.shaped (by decide),fH.shaped (by decide),two (λz=>aN ((_4.eqv_refl fH).symm.trans z) (by decide)) λ_=>⟨λ_=>trivial,?_⟩⟩;rw[aA (by decide)];walk_at"b";refine⟨ps,lk,l,rfl,W,by lia,pd,λr hr=>hJ _ ?_⟩;clear hJ;have er:r=-1:=by
   rcases hr with⟨m,S,_,h2,_⟩|⟨S,_⟩
   ·have:=O.mono S;lia
   ·exact S
  subst er;walk_at"a";walk_at"a";walk_at"k";rw[aA (show ¬¬((2:Nat):Int)=2 from λz=>z rfl)];refine⟨_,rfl,(λkvs e=>by cases e),?_⟩;rw[aA (show ¬isT "list" (v5 (ptN (vs2 lk Z li sp) ps l side))=false from λz=>by cases z)];walk_at"f";walk_at"dd";exact⟨_,rfl,vs2 lk Z li sp,ps,[w0,li+lk],l,side,M,rfl,h.yok O,W,ov,hM,q⟩
 ·clear hJ;obtain⟨t1,t2,t3,t4,t5⟩:=h.met O so.met;walk_at"a";refine⟨fH.shaped (by decide),fH.shaped (by decide),two (λz=>aN ((_4.eqv_refl fH).symm.trans z) (by decide)) λ_=>⟨λ_=>trivial,?_⟩⟩;rw[aA (by decide)];walk_at"b";refine⟨ps,lk,l,rfl,W,by lia,pd,λr hr=>hJ _ ?_⟩;clear hJ;have hml:=so.le;have er:r=(m:Int):=by
   rcases hr with⟨I,S,h2,h3,h4⟩|⟨_,S⟩
   ·rw[h2];have a:I<=m:=zV λz=>by have:=h4 m z;lia
    have b:m<=I:=by
     rcases so.pt with⟨e,_⟩|⟨M,side,e,_,ov,hM⟩
     ·lia
     ·have:=h.less O ov hM;exact zV λz=>by have:=O.mono (show I<=m - 1 by lia);lia
    lia
   ·have:=S m hml;lia
  subst er;walk_at"a";rw[aA (by lia)];walk_at"b";walk_at"k";rw[aA (show ¬¬((4:Nat):Int)=4 from λz=>z rfl)];refine⟨_,rfl,_,rfl,?_⟩;walk_at"dd";walk_at"k";walk_at"b";have pk:=zl01 (ps:=ps) (n:=m) (G:=f.g) m;have pn:=zo11 (ps:=ps) (n:=m) (G:=f.g) m;have:ps.length * m<=2 * 60:=Nat.mul_le_mul (by lia) (by lia);refine⟨_,rfl,ze3 ps m f.g m,ps,lk,mi,m,rfl,pk.1,by lia,t5,t1,by lia,?_⟩;walk_at"dd";refine⟨_,rfl,(λkvs e=>by cases e),?_⟩;rw[aA (show ¬isT "list" (v5 pt)=false from λz=>by cases z)];walk_at"b";obtain⟨h0,rfl⟩|⟨M,side,S,rfl,ov,hM⟩:=so.pt
  ·rw[aF (by lia)];exact⟨_,rfl,rfl,rfl,q⟩
  rw[aA (by lia)];walk_at"f";walk_at"dd";refine⟨_,rfl,?_⟩;exact⟨vs2 lk Z li sp,ps,[w0,li+lk],m - 1,side,M,by rw[show(m:Int) - 1=((m - 1:Nat):Int) by lia];rfl,h.yok O,by lia,ov,hM,q⟩
end
theorem all_mk{l:gD}{w:aR}{K:Fg}{h:aX}{mg:Str->Option aC}{fa:aE}{q jG jH jM:aE}(X:K.In h)(G:h.Ns aT mg)(O:mg "law"=some (.ref fa))
  (jB:TopCls K "Stream" q)
  (jW:TopCls K "Tidal" jG)
  (jX:TopCls K "Steady" jH)
  (kO:TopCls K "Late" jM)
  (jF:a9 K (.ref q) "steps"=some none)
  (jE:a9 K (.ref q) "ends"=some none)
  (jC:a9 K (.ref q) "left"=some none)
  (jS:a9 K (.ref jG) "wide"=some none)
  (jP:a9 K (.ref jG) "other"=some none)
  (jT:a9 K (.ref jG) "turn"=some none)
  (jO:a9 K (.ref jH) "wide"=some none)
  (jV:a9 K (.ref jM) "wide"=some none)
  (jR:a9 K (.ref jM) "since"=some none)
  (jZ:TopMeth K q "row_behind" "Stream.row_behind" za2)
  (kZ:TopMeth K q "levels" "Stream.levels" zg4)
  (kS:TopMeth K q "step_up" "Stream.step_up" zm3)
  (qA:TopMeth K q "way_up" "Stream.way_up" zf4)
  (qG:TopMeth K q "carry" "Stream.carry" zy2)
  (kT:TopMeth K q "push_up" "Stream.push_up" zd2)
  (kU:TopMeth K q "amounts" "Stream.amounts" zh3)
  (kH:TopMeth K q "__init__" "Stream.__init__" zw1)
  (uF:TopDefN K "greatest" zcb)
  (vL:TopDef K "node" ztz)
  (kW:TopMeth K jG "__init__" "Tidal.__init__" zg3)
  (kI:TopMeth K jH "__init__" "Steady.__init__" zt2)
  (qB:TopMeth K jM "__init__" "Late.__init__" zk4)
  (uP:TopDef K "gate_of" zgd)
  (kJ:TopMeth K jH "width_at" "Steady.width_at" zs2)
  (qC:TopMeth K jM "width_at" "Late.width_at" zr4)
  (kX:TopMeth K jG "width_at" "Tidal.width_at" zi3)
  (vG:TopDef K "width" zmr)
  (uG:TopDef K "pipes_by" zr8)
  (uQ:TopDef K "arcs_at" zqa)
  (vO:TopDef K "net" zh41)
  (uR:TopDef K "plan_of" ztd)
  (vM:TopDef K "spot" zf01)
  (qK:TopDef K "part_beyond" zq2)
  (uH:TopDef K "met_most" zvb)
  (uZ:TopDef K "met_at" zlh)
  (vH:TopDef K "worth" zcg)
  (uI:TopDef K "timeless" zc3)
  (uS:TopDef K "cut_off" zra)
  (qX:TopDef K "first_met" zl9)
  (uT:TopDef K "soonest" zde)
  (qH:TopDef K "_law_cell_at" zp5)
  (qM:TopDef K "_law_whole" ze8)
  (qY:TopDef K "_law_lack" zu9)
  (qN:TopDef K "_law_share" zk8)
  (qZ:TopDef K "_law_pipe" zr9)
  (qO:TopDef K "_law_width" zb8)
  (uJ:TopDef K "_law_due" zc9)
  (uA:TopDef K "_law_plan" zs9)
  (qP:TopDef K "_law_short" zi8)
  (uB:TopDef K "_law_vats" zm9)
  (vP:TopDef K "law" zi21)
  {p:Tok} (g_SOURCE:bA K aT "SOURCE"=some (some (.int 0 p)))
  {u:Tok} (g_SINK:bA K aT "SINK"=some (some (.int 1 u)))
  (uY:bA K aT "bool"=some none)
  (uX:bA K aT "dict"=some none)
  (qR:bA K aT "divmod"=some none)
  (jD:bA K aT "enumerate"=some none)
  (vI:bA K aT "int"=some none)
  (jJ:bA K aT "isinstance"=some none)
  (jL:bA K aT "len"=some none)
  (kE:bA K aT "list"=some none)
  (uU:bA K aT "min"=some none)
  (jI:bA K aT "range"=some none)
  (qQ:bA K aT "sorted"=some none)
  (kA:bA K aT "sum"=some none)
  (qI:bA K aT "tuple"=some none)
  (vC:bA K aT "zip"=some none) (kt:Kit K)
 :∃fd:cZ,(∀(s:aH)(v:aC),e7 s fd ⟨[v],[]⟩ [("script",v)])/\∀base:aX,K.In base->base.Ns aT mg->FnOk l.prog w K mg base CX0 11 fa fd ["script"] (zh81 K):=by
 have M:Md K mg:=⟨⟨h,X,G⟩⟩
 refine zsg1 M vP O zq31 (by walk_at"h") λbase kb nb=>?_;have jY:=zj8 (P:=l.prog) (w:=w) (K:=K) (mg:=mg) (base:=base) jB.cls jZ jF jE jC;have kC:=zxb (P:=l.prog) (w:=w) (K:=K) (mg:=mg) (base:=base) jB.cls kZ jY;have kK:=zia (P:=l.prog) (w:=w) (K:=K) (mg:=mg) (base:=base) jB.cls kS (M.not jL) jC jE;have kB:=zgb (P:=l.prog) (w:=w) (K:=K) (mg:=mg) (base:=base) jB.cls qA jE kK;have qF:=zec (P:=l.prog) (w:=w) (K:=K) (mg:=mg) (base:=base) jB.cls qG (M.not uU) jC;have kL:=zoa (P:=l.prog) (w:=w) (K:=K) (mg:=mg) (base:=base) jB.cls kT (M.not kE) jF kB qF;have kM:=zma (P:=l.prog) (w:=w) (K:=K) (mg:=mg) (base:=base) jB.cls kU jC;have uV:=zt9 (P:=l.prog) (w:=w) (K:=K) (mg:=mg) (base:=base) M jB kH (M.not jD) (M.not jI) jE jC jF;have Z:=zhl (P:=l.prog) (w:=w) (K:=K) (mg:=mg) (base:=base) M uF (M.not jL) (M.not qQ) jB.cls kC kL kM uV;have z:=zc31 (P:=l.prog) (w:=w) (K:=K) (mg:=mg) (base:=base) M vL (M.not jL);have vD:=zna (P:=l.prog) (w:=w) (K:=K) (mg:=mg) (base:=base) M jW kW jS jP jT;have uW:=zk9 (P:=l.prog) (w:=w) (K:=K) (mg:=mg) (base:=base) M jX kI jO;have vJ:=zqb (P:=l.prog) (w:=w) (K:=K) (mg:=mg) (base:=base) M kO qB jV jR;have uK:=zco (P:=l.prog) (w:=w) (K:=K) (mg:=mg) (base:=base) (jM:=jM) (jH:=jH) (jG:=jG) M uP vD uW vJ;have kG:=zg9 (P:=l.prog) (w:=w) (K:=K) (mg:=mg) (base:=base) jX.cls kJ jO;have kY:=zob (P:=l.prog) (w:=w) (K:=K) (mg:=mg) (base:=base) kO.cls qC jV jR;have kQ:=zla (P:=l.prog) (w:=w) (K:=K) (mg:=mg) (base:=base) jW.cls kX jS jP jT;have vE:=zoy (P:=l.prog) (w:=w) (K:=K) (mg:=mg) (base:=base) M vG uK kO.cls jX.cls jW.cls kG kY kQ;have W:=zil (P:=l.prog) (w:=w) (K:=K) (mg:=mg) (base:=base) M uG (M.not jD);have uL:=zbr (P:=l.prog) (w:=w) (K:=K) (mg:=mg) (base:=base) M uQ (M.not jD) vE z W;have vN:=zd91 (P:=l.prog) (w:=w) (K:=K) (mg:=mg) (base:=base) M vO (M.not jD) (M.not jI) z uL (M.got g_SOURCE) ⟨_,rfl⟩ (M.got g_SINK) ⟨_,rfl⟩;have uM:=zwp (P:=l.prog) (w:=w) (K:=K) (mg:=mg) (base:=base) M uR (M.not jL) (M.not jI) W;have vK:=zn71 (P:=l.prog) (w:=w) (K:=K) (mg:=mg) (base:=base) M vM (M.not qR) (M.not jL);have qJ:=zee (P:=l.prog) (w:=w) (K:=K) (mg:=mg) (base:=base) M qK (M.not uX) (M.not jI) vK;have uC:=zuk (P:=l.prog) (w:=w) (K:=K) (mg:=mg) (base:=base) M uH (M.not jL) (M.not kA) Z vN uM qJ (M.got g_SOURCE) ⟨_,rfl⟩ (M.got g_SINK) ⟨_,rfl⟩;have S:=zht (P:=l.prog) (w:=w) (K:=K) (mg:=mg) (base:=base) M uZ (M.not kA) uC;have vF:=zvw (P:=l.prog) (w:=w) (K:=K) (mg:=mg) (base:=base) M vH (M.not kA) (M.not vC);have uD:=zdl (P:=l.prog) (w:=w) (K:=K) (mg:=mg) (base:=base) M uI (M.not jD) (M.not kA) z (M.got g_SOURCE) ⟨_,rfl⟩ (M.got g_SINK) ⟨_,rfl⟩;have uN:=zwq (P:=l.prog) (w:=w) (K:=K) (mg:=mg) (base:=base) M uS (M.not jL) (M.not jI) (M.not kA) vF Z z uD (M.got g_SOURCE) ⟨_,rfl⟩ (M.got g_SINK) ⟨_,rfl⟩;have qS:=zqh (P:=l.prog) (w:=w) (K:=K) (mg:=mg) (base:=base) M qX S;have uO:=zjr (P:=l.prog) (w:=w) (K:=K) (mg:=mg) (base:=base) M uT S uN qS;have jK:=zfc (P:=l.prog) (w:=w) (K:=K) (mg:=mg) (base:=base) M qH (M.not jL);have jU:=zeg (P:=l.prog) (w:=w) (K:=K) (mg:=mg) (base:=base) M qM kt (M.not uY) (M.not vI) (M.not jJ);have qT:=zmg (P:=l.prog) (w:=w) (K:=K) (mg:=mg) (base:=base) M qY (M.not jL) (M.not jI);have qD:=zaf (P:=l.prog) (w:=w) (K:=K) (mg:=mg) (base:=base) M qN;have qU:=ztg (P:=l.prog) (w:=w) (K:=K) (mg:=mg) (base:=base) M qZ qD;have I:=zrf (P:=l.prog) (w:=w) (K:=K) (mg:=mg) (base:=base) M qO;have uE:=zvk (P:=l.prog) (w:=w) (K:=K) (mg:=mg) (base:=base) M uJ (M.not jI) (M.not kA) I;have qV:=zvh (P:=l.prog) (w:=w) (K:=K) (mg:=mg) (base:=base) M uA kt (M.not jJ) (M.not jL) (M.not kE) (M.not qI) jU I;have qE:=zuf (P:=l.prog) (w:=w) (K:=K) (mg:=mg) (base:=base) M qP (M.not jL) (M.not jI) I;have qW:=zih (P:=l.prog) (w:=w) (K:=K) (mg:=mg) (base:=base) M uB (M.not uU) jK;exact zg01 kt (M.not jJ) (M.not jL) (M.not kE) (M.not jI) (M.not qI) uO jK jU qT qU uE qV qE qW
end _53
local macro_rules|`(tactic| walk_at "top")=>`(tactic| (refine' zxt ?a ?l ?c ?k;(case a=>k_is);(case l=>k_is);(case c=>k_is);(case k=>k_is)))
local macro_rules|`(tactic| walk_at "topn")=>`(tactic| (refine' zir ?a ?l ?c ?k ?t ?d;(case a=>k_is);(case l=>k_is);(case c=>k_is);(case k=>k_is);(case t=>k_is);(case d=>rfl)))
local macro_rules|`(tactic| walk_at "meth")=>`(tactic| (refine' zvl ?a ?i ?l ?c ?k;(case a=>k_is);(case i=>k_is);(case l=>k_is);(case c=>k_is);(case k=>k_is)))
local macro_rules|`(tactic| walk_at "cls")=>`(tactic| (refine' zit ?a ?pg ?hd ?po ?sa ?mk ?kc;(case a=>k_is);(case pg=>k_is);(case hd=>k_is);(case po=>k_is);(case sa=>k_is);(case mk=>k_is);(case kc=>k_is)))
namespace PySem.W.Fast
def tw9939846517497321081:=0
def tw14937961190705258743:=0
def tw7995576334676781090:=0
def tw3888166181939184151:=0
def tw10320046954199691698:=0
def tw6653237541480801157:=0
def tw8900269270446627540:=0
def tw5893425800543249345:=0
def tw12595929850770355917:=0
def tw9687122879205327547:=0
def tw6101677389140126349:=0
def tw101795925315005811:=0
def tw9755793884914548698:=0
def tw4210245782471623586:=0
def tw15176936849606462039:=0
def tw15257173024483996534:=0
def tw637580299445964798:=0
def tw13106998863332652987:=0
def tw9293778163058256886:=0
def tw11562697300499283074:=0
def tw10962184244680024700:=0
def tw15109873248120726693:=0
def tw2816951835249093566:=0
def tw3842553515736894860:=0
def tw17144057675774162573:=0
def tw12185497956593017108:=0
def tw5445029515104151452:=0
def tw14109161953401810100:=0
def tw1033278115583551234:=0
def tw12608451490862452796:=0
def tw6012852903657902057:=0
def tw5012364542269183990:=0
def tw5481930265461761387:=0
def tw14344219052877797931:=0
def tw11391281735730269121:=0
def tw10841502447698897898:=0
def tw3572538641249976781:=0
def tw7024932679796357059:=0
def tw13352386251308246085:=0
def tw13040453746087473295:=0
def tw14050407190022357661:=0
def tw6310087824699385494:=0
def tw7607823478305059312:=0
def tw10035567043299159959:=0
def tw15767652563195765263:=0
def tw8111696770181636412:=0
def tw2186488654400616702:=0
def tw14347537823501275896:=0
def tw2970075319689519137:=0
def tw10996997968546012342:=0
def tw12742525286694152534:=0
def tw12767897034270391075:=0
def tw8381256487903801697:=0
def tw14021074066218420939:=0
def tw13307527465216894635:=0
def tw9778645131598626007:=0
def tw5174757622917212816:=0
def tw10285083458236614517:=0
def tw2132470743890466594:=0
def tw17353543968768890998:=0
def tw8151267228263882560:=0
def tw17818898997525146200:=0
def tw12533236330650487880:=0
def tw14363102811664758899:=0
def tw17218779850824322715:=0
def tw18271268775405967509:=0
def tw7520038048594254976:=0
def tw533159979934351396:=0
def tw6137702488957310306:=0
def tw9203651299726256378:=0
def tw14596838932430179213:=0
def tw11985756491270977610:=0
def tw5682839518107311904:=0
def tw5453846693482254970:=0
def tw17864946870862528899:=0
def tw16049939313281335087:=0
def tw1797037334171952716:=0
def tw7814487038735893628:=0
def tw18178754886248200020:=0
def tw11521798716848684923:=0
def tw4512045987407952736:=0
def tw16578063740285408729:=0
def tw16802162996292026995:=0
def tw4194199379654453118:=0
def tw15927060881658776683:=0
def tw5316544688033430824:=0
def tw16433712826226292657:=0
def tw18065998956186628499:=0
def tw162628525610655162:=0
def tw3445686411671477883:=0
def tw14135083104016795873:=0
def tw15252547959066226023:=0
def tw16754809541092516963:=0
def tw12046130485633581762:=0
def tw1414036387781431937:=0
def tw7962102072122395436:=0
def tw8005133694141682931:=0
def tw9934155030831735901:=0
def tw14038551702618559867:=0
def tw15082843374391510579:=0
def tw6428015740345104454:=0
def tw1772794482089877229:=0
def tw1618485255960601203:=0
def tw9124256409226719501:=0
def tw175078161017500191:=0
def tw16019886602157503862:=0
def tw2790978951819444065:=0
def tw10094896538248028312:=0
def tw1906115311106262443:=0
def tw2594301505058883732:=0
def tw1871531097401750161:=0
def tw17413661653314013538:=0
def tw1696661886402804305:=0
def tw619798256142142208:=0
def tw13396818260413404342:=0
def tw12859725606488026016:=0
def tw2332088131293346854:=0
def tw8863110350438700154:=0
def tw7879746600777689739:=0
def tw3316577367243297883:=0
def tw17726372171066298826:=0
def tw8676908352190797239:=0
def tw16397895672861023297:=0
def tw2939502744725897802:=0
def tw116729390752841927:=0
def tw8138734415340326970:=0
def tw5443938579671842740:=0
def tw9659873956788872737:=0
def tw13677322022865261926:=0
def tw16355383765583212328:=0
def tw17206783899489816011:=0
def tw2130844559042244004:=0
def tw4246110839305338560:=0
def tw4190136276023524123:=0
def tw10430413230126798652:=0
def tw15692112239771989050:=0
def tw5754147684715680956:=0
def tw2017414371717540548:=0
def tw6880821242819141116:=0
def tw5507417591931710152:=0
def tw15030647458903414716:=0
def tw9977190284867799867:=0
def tw4471989888835192139:=0
def tw15635400699635913305:=0
def tw11213114341203418169:=0
def tw16017903700040253814:=0
def tw16717023387147411697:=0
def tw4127088390913731412:=0
def tw9140272645767315583:=0
def tw15576574160312155778:=0
def tw8442809738042488313:=0
def tw14029523135290219133:=0
def tw5666604724560518998:=0
def tw14536259526335778704:=0
def tw11882234111182320053:=0
def tw14903720222615276980:=0
def tw8600849646841126955:=0
def tw12135436242451600124:=0
def tw7073895559464637375:=0
def tw12920168689976904235:=0
def tw14941631914988911768:=0
def tw4819376669902851626:=0
def tw13313044098516489599:=0
def tw1632234056518200147:=0
def tw7083542596191489440:=0
def tw14623613135459948092:=0
def tw15341482281983830269:=0
def tw1679475322413668296:=0
def tw17795487578288904060:=0
def tw277532400210631736:=0
def tw5888010837875452518:=0
def tw844285276997558056:=0
def tw15347710526805838380:=0
def tw4007410585139717660:=0
def tw13575199198304787390:=0
def tw11122846740280089938:=0
def tw10815882887858450956:=0
def tw16874295444082020192:=0
def tw12011368403754280583:=0
def tw7570254118517383172:=0
def tw13842419410784885024:=0
def tw9208923881608213123:=0
def tw15648194395301037852:=0
def tw10974397484514152647:=0
def tw14085758761713095904:=0
def tw2580067052225757939:=0
def tw128698653120194:=0
def tw12041082169895395757:=0
def tw5671901513167003041:=0
def tw18291253229607395067:=0
def tw1083872735717085335:=0
def tw3816519049734649954:=0
def tw2206729050517479357:=0
def tw5371214861742373978:=0
def tw11520114347081008681:=0
def tw8864399126474227717:=0
def tw11874519577708346175:=0
def tw4284865853312140098:=0
def tw11844383018487098656:=0
def tw1624858529880566035:=0
def tw7482458930572640178:=0
def tw7037052828078079715:=0
def tw9192879462243594977:=0
def tw12903798968192288377:=0
def tw7882182657091152438:=0
def tw16631375741470561295:=0
def tw5853463070395439484:=0
def tw10852776134738879280:=0
def tw11605603842944639393:=0
def tw5623530278647895927:=0
def tw4074777319622856712:=0
def tw11391146140144276842:=0
def tw2350869320365731257:=0
def tw1078416756183399517:=0
def tw18434582434014827805:=0
def tw6934224276021361122:=0
def tw9937277943274056386:=0
def tw3152574122488773831:=0
def tw14960574425233177576:=0
def tw1066568595485806361:=0
def tw4356129263268982613:=0
def tw2366809475008380663:=0
def tw6644689575311599148:=0
def tw10636235735095967943:=0
def tw14555920419044135938:=0
def tw8668339736110136507:=0
def tw9777942895007815024:=0
def tw5003252782494613376:=0
def tw16937081289161348807:=0
def tw14588291949880144373:=0
def tw687506135526633472:=0
def tw17471969444299162937:=0
def tw17687608731519970330:=0
def tw118565389020740802:=0
def tw13483889601882218815:=0
def tw6970645563666324961:=0
def tw14182478673860896226:=0
def tw5556579037812436405:=0
def tw14009960474539709454:=0
def tw8037687760790310017:=0
def tw2332258121907802747:=0
def tw12663954451074233778:=0
def tw1265523169036315242:=0
def tw17678354831322000355:=0
def tw7556547700240321546:=0
def tw77416323409038611:=0
def tw1144203032041670131:=0
def tw3613858247859306132:=0
def tw3198636859521150047:=0
def tw3589372308438378486:=0
def tw9609906042438689410:=0
def tw7095835591423164416:=0
def tw11690652404165042975:=0
def tw9958912088138078361:=0
def tw4766094280287752823:=0
def tw8272178260044752649:=0
def tw17406018591819604222:=0
def tw12740944760176634655:=0
def tw8812648176363172323:=0
def tw7840249423809973372:=0
def tw9188206446885402749:=0
def tw1917099507583878204:=0
def tw16405299426137959087:=0
def tw8970388695647368811:=0
def tw6845027832457607316:=0
def tw14598815499767843651:=0
def tw4538897016402670919:=0
def tw822685416739076847:=0
def tw9361535476019676707:=0
def tw11101546588423026387:=0
def tw14213842258636082821:=0
def tw1121508902531424555:=0
def tw9207275353091405142:=0
def tw4400881339812548325:=0
def tw10715349766826935685:=0
def tw16412494071027827155:=0
def tw7637871316562353678:=0
def tw18002345890976180559:=0
def tw5448909747106346211:=0
def tw1197499904444686123:=0
def tw5779383290690406695:=0
def tw9335234379460864580:=0
def tw14545936060029039561:=0
def tw6445480306852050087:=0
def tw5002638890736381200:=0
def tw14319657945262900668:=0
def tw2742928911265677076:=0
def tw11063915580024995585:=0
def tw3519781582170369167:=0
def tw2015326704657839387:=0
def tw8608671053567587404:=0
def tw9053997784918755850:=0
def tw7130576874133023179:=0
def tw14761684582817286151:=0
def tw12201297600231187275:=0
def tw8483949475989051548:=0
def tw7919990216603960670:=0
def tw18423921938476490724:=0
def tw8776693763858084509:=0
def tw7488780908560971635:=0
def tw5699337821416762866:=0
def tw282722221635617007:=0
def tw2078274286078906808:=0
def tw4446895365286729653:=0
def tw2357177842654554486:=0
def tw11910040461350066654:=0
def tw7578720438451314037:=0
def tw59499312864182393:=0
def tw1931819045321724680:=0
def tw13708910701430905750:=0
def tw7512263398987143189:=0
def tw5556852779536825869:=0
def tw2660676948777220213:=0
def tw11952851957082911462:=0
def tw16342367194255707447:=0
def tw10639880914746510513:=0
def tw12678784059364044483:=0
def tw56028602026540712:=0
def tw14796725683793278608:=0
def tw6939004660719488910:=0
def tw16398227655349386513:=0
def tw4939029047750923577:=0
def tw14271037800750463050:=0
def tw13789239341976329709:=0
def tw3385890529569214226:=0
def tw2480665852607032202:=0
def tw3098942697831505388:=0
def tw5238876336984360801:=0
def tw6333371620803238138:=0
def tw5990972057576964211:=0
def tw3140346890922270959:=0
def tw16973107330829943348:=0
end PySem.W.Fast
open PySem PySem.W PyProof.Rows _3 _4
set_option maxRecDepth 100000 in
set_option maxHeartbeats 0 in
theorem PySem.Challenge.cw_vatyard_k53_soonest_far_holds : PySem.Challenge.rw_vatyard_k53_soonest_far.Holds := by
  w_on; o_law; k_head; (case hw => w_witness2)
  k_fill
  refine _3.law_walk (k := 11) (l := PySem.Challenge.rw_vatyard_k53_soonest_far) ⟨rfl, by decide, rfl, by decide⟩ rfl rfl (fun w h Yv => PySem.W.kIn_of Yv) ?F
  case F =>
    intro w mg fa h KX G hmg
    refine' _53.all_mk KX G hmg ?jB ?jW ?jX ?kO ?jF ?jE ?jC ?jS ?jP ?jT ?jO ?jV ?jR ?jZ ?kZ ?kS ?qA ?qG ?kT ?kU ?kH ?uF ?vL ?kW ?kI ?qB ?uP ?kJ ?qC ?kX ?vG ?uG ?uQ ?vO ?uR ?vM ?qK ?uH ?uZ ?vH ?uI ?uS ?qX ?uT ?qH ?qM ?qY ?qN ?qZ ?qO ?uJ ?uA ?qP ?uB ?vP ?g_SOURCE ?g_SINK ?uY ?uX ?qR ?jD ?vI ?jJ ?jL ?kE ?uU ?jI ?qQ ?kA ?qI ?vC ?kt
    (case jB => walk_at"cls")
    (case jW => walk_at"cls")
    (case jX => walk_at"cls")
    (case kO => walk_at"cls")
    (case jF => k_is)
    (case jE => k_is)
    (case jC => k_is)
    (case jS => k_is)
    (case jP => k_is)
    (case jT => k_is)
    (case jO => k_is)
    (case jV => k_is)
    (case jR => k_is)
    (case jZ => walk_at"meth")
    (case kZ => walk_at"meth")
    (case kS => walk_at"meth")
    (case qA => walk_at"meth")
    (case qG => walk_at"meth")
    (case kT => walk_at"meth")
    (case kU => walk_at"meth")
    (case kH => walk_at"meth")
    (case uF => walk_at"topn")
    (case vL => walk_at"top")
    (case kW => walk_at"meth")
    (case kI => walk_at"meth")
    (case qB => walk_at"meth")
    (case uP => walk_at"top")
    (case kJ => walk_at"meth")
    (case qC => walk_at"meth")
    (case kX => walk_at"meth")
    (case vG => walk_at"top")
    (case uG => walk_at"top")
    (case uQ => walk_at"top")
    (case vO => walk_at"top")
    (case uR => walk_at"top")
    (case vM => walk_at"top")
    (case qK => walk_at"top")
    (case uH => walk_at"top")
    (case uZ => walk_at"top")
    (case vH => walk_at"top")
    (case uI => walk_at"top")
    (case uS => walk_at"top")
    (case qX => walk_at"top")
    (case uT => walk_at"top")
    (case qH => walk_at"top")
    (case qM => walk_at"top")
    (case qY => walk_at"top")
    (case qN => walk_at"top")
    (case qZ => walk_at"top")
    (case qO => walk_at"top")
    (case uJ => walk_at"top")
    (case uA => walk_at"top")
    (case qP => walk_at"top")
    (case uB => walk_at"top")
    (case vP => walk_at"top")
    (case g_SOURCE => k_is)
    (case g_SINK => k_is)
    (case uY => k_is)
    (case uX => k_is)
    (case qR => k_is)
    (case jD => k_is)
    (case vI => k_is)
    (case jJ => k_is)
    (case jL => k_is)
    (case kE => k_is)
    (case uU => k_is)
    (case jI => k_is)
    (case qQ => k_is)
    (case kA => k_is)
    (case qI => k_is)
    (case vC => k_is)
    (case kt => exact⟨fun t ht T hT => by simp only[List.mem_cons, List.not_mem_nil, or_false]at ht hT; rcases ht with rfl | rfl | rfl | rfl | rfl | rfl <;> rcases hT with rfl | rfl | rfl | rfl | rfl <;> rfl⟩)
