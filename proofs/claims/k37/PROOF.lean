import PyProof.Rows.All
import Wide.All
import OpenK.AllK
import Wide.FinOn
import Lean
import PyProof.EqAt
import PyProof.EqKinds
import PyProof.TupleCall
import PyProof.StrLawsIn
import PyProof.StrLawsJoin
import PyProof.ZipIter
import PyProof.EnumFor
import PyProof.EnumMake
import PyProof.EnumStmt
import PyProof.DictItems
import KE.KPairComp
import KE.KSortTup
import PyProof.DictWalks
import PyProof.Rows.SortWalk
import PyProof.ReprRoads
import PyProof.ReprLen
import PyProof.NsDelKeeps
import PyProof.RulesAs
import PyProof.AttrMissHeap
import KE.KDictOf
import PyProof.MinMaxWalk
import PyProof.ConsumeWalk
import PyProof.ListRange
import KE.KDictLaws
import KE.KRevIter
import PyProof.Rows.RuleM_int
import PyProof.SetKind
import PyProof.Rows.SetFrom
import PyProof.SetRoads
import PySem.Challenge.RW_vatyard_k37_never_or_surely
set_option Elab.async false
set_option genSizeOf false
set_option genInjectivity false
set_option bootstrap.genMatcherCode false
set_option compiler.extract_closed false
set_option compiler.extract_closed false
set_option linter.all false
set_option maxRecDepth 100000
set_option maxHeartbeats 4000000
noncomputable section
local macro_rules|`(tactic|walk_at $s)=>match s.getString.toNat? with|some n=>do let a:=((("F H Y U Qd Q s rv h k|pins s Y H Q I h|F H Y U Qd Q s rv hd k|pins s Y H xs us Q I r h|B F H Y U fps E Z r h k|pins s Y H D I h|F H x y d e Qd Q s q p h k|F H Y U Qd R s rv hd k|X G hw J Z i pins s Y H E I hf st B|pins s Y H x y v u Q I m g h|pins s Y H x y v u Q I g m h|pins s Y H x y v u Q I g f h|B F H Y U fps Qd Q r hd k|pins s Y H R I h|f cdv A outer s H vs Q E hr h|pins s Y H x y v u Q I p m h|pins s Y H x v B A lo hi sl Q I m z pl p h|B F H Y U fps Qd Q rs hd k|X q hw y A i pins s Y H Q E M I st m O|X q hw y A i pins s Y H Q E I st m N|X hP hw hK W i pins s Y H E I hf S U|F H vs ds Qd Q s p h k|X y hw B q i pins s Y H E I hf st p|X u hw x L i pins s Y H E I hf st q|X O hw U hc i pins s Y H E I hf S N|F H Y U Qd Q s r h k|F H v u fn vs ds Kd Q s hr I hf|pins s Y H x y v u Q I p g h|pins s Y H x y v u Q I o g h|pins s Y H x y v u Q I m f h|F H x y d e Qd Q s G B h k|F H x y d e Qd Q s u p h k|a s Y H x y v u Q I i g q|pins s Y H vs us Q I r h|j s b c hk hj st pb L q|pins s Y H v u Q I r h|F H vs ds Qd Q s z h k|F H Y U Qd Q s r hd k|pos pins s Y H Q I h".splitOn "|").getD n "").splitOn " ").toArray.map fun x=>Lean.mkIdent (.mkSimple x);`(tactic|intro $a*)|none=>Lean.Macro.throwUnsupported
open PySem renaming Value → aA, wpAny_bind → aC, Addr → aE, Shared → aG, wpAny_pure → aI, wpAny → aJ, model → aM, Program → aN, World → aP, sizeLine_eq → aQ, mainGlobals → aR, starEach → aS, Heap → aT, Expr → aX, PyData → aY, Around → a7, bootBuiltins → a8, compareOp → a9, eval → bA, SetTable → bG, mem_of_lookup → bI, wpAny_newObj_type → bJ, wpAny_holding → bL, wpAny_seqItems → bN, wpAny_field → bP, sliceBounds → bQ, binaryOp → bR, NameKind → bS, wpAny_call_entry → bT, wpAny_callSpecial?_slot → bY, codeAny_builtin → b6, backTo → b9, cellsFrom → cA, relayAll → cB, sysModules → cC, layNew → cH, wpAny_setField_rec → cJ, cLine → cM, hashInt → cO, codeAny → cP, wpAny_passesOwn → cQ, FuncData → cS, plainId_quiet → cU, wpAny_truthy_bool → cZ, wpAny_mono → dD, keywordEach → dG, holding → dJ, attributeBase → dM, wpAny_ite_split → dN, wpAny_Call_Name_kw → dP, tupleKind_room_in1 → dQ, Stmt → dR, wpAny_pyIter_list → dS, pyNext → dU, wpAny_tryCatch → dX, assignEach → dZ, wpAny_askSetting → d0, wpAny_letGo → d4, backToKw → d6, codeAny_mono → d7, wpAny_rule → eB, wpAny_setField → eC, wpAny_setState_of → eE, rawInt → eK, Scope → eP, behindInMarks → eQ, standAt → eS, intKind → eU, getMethod → eW, builtinLookup_eq_fast → eX, IsPair → e8, call_meets → e9, wpAny_updateSeq → fF, wpAny_execs_nil → fG, letOwnedTupleGo → fH, wpAny_updateSeq_pair → fL, relabel → fN, getItem → fO, callerA → fP, argBest → fQ, BindsTo → fR, intItems → fS, assign → fW, seqItems? → fX, wpAny_standAt → f6, wpAny_onRaise → f7, foldedSetIterable → f9, IsZip → gE, sliceRange → gF, valueAt → gG, pyIter → gH, argsOk → gI, Result → gJ, IsPart → gK, wpAny_typeOf → gM, wpAny_isInstance → gO, strKind_is → gP, wpAny_getItem_list_slice → gR, wpAny_comprehension_free → gU, atKey → gW, tupleKind → gX, swapsWith → gY, slicePick → gZ, pushCells → g6, typeLookup_type → g7, wpAny_pyNext_list_item → hU, notedBy → hZ, Keyword → h7, newFunctionEnv → h8, isSubtype_type → h9, firstArgMember → iA, wpAny_pyNext_list_end → iC, field → iD, bindL → iE, bindC → iF, entryFor → iH, callWith → iI, wpAny_call → iJ, PlainAttrs → iK, wpAny_loadName_local → iN, codeAny_call_builtin → iO, wpAny_attempt → iP, nums_intItems → iQ, strKind → iR, wpAny_setEntries_of → iT, wpAny_loadName_cell → iU, isTrue → iX, scanBound → iY, seqIndex_neg → iZ, concat_meets → i6, Within → i7, wpAny_pyIter_tuple → i9, getattributeRaised → lA, wpAny_storeSet_of → lC, wpAny_pyIter_slot → lD, wpAny_pyIter_enum → lG, wpAny_assign_Name → lH, wpAny_of_eq → lK, seqIndex_of → lM, layNew_perm → lN, intItems_at → lO, numAt_eq → lP, bindArgs → lQ, GenState → lR, wpAny_pyIter_zip → lT, wpAny_getItem_of → lU, wpAny_execs_cons → lV, noFill_tuple_add → lW, checkBuiltinCall → lX, table → l3, numAt → l4, wpAny_Name → l7, typeIs_str → l9, typeIs_int → mB, setsByText → mC, intKind_is → mE, builtinsNs → mF, call → mI, wpAny_loadPart' → mJ, pushCells_keeps → mK, codeAny_of_tree → mM, setItem → mR, wpAny_notIn_of → mS, isSubtype_stop → mY, entryFor_alias → mZ, intText? → m5, storeName → m8, pickOrder → m9, typeOf → nK, newExc → nM, Params → nO
open PySem.PassesOwn renaming never → aW
open PySem.W renaming nsIn → aZ, findIn → a6, kia_one → bH, keepIn → bK, fnOf → bV, emptyDict → bZ, instObj → cD, codeIn → dH, plainGet → d3, callWith_K → d8, kitOne → eD, hasDictIn → eJ, cellsFrom_some → eO, methodCall_KW → eZ, isFn → fE, makesIn → fJ, plainGet_of → fM, lookIn → fT, plainOver → gA, methodObj → gB, kitx_list → gC, takerIn → g8, OpenLaw → g9, kdu_collect → iV, kitx_tuple → lB, kitx_dict → lI, handedIn → lY, binds_K → mN, WalkO → nD
open PySem.Builtin.SmallTypes renaming nextOf → bC, ownedTupleIsFree → bX, ownedTupleHandOut → eA
open PySem.SeqAt renaming shaped → bD, EqAt → nT
open PySem.Heap renaming SameBut → bF, ExtBut → eM
open PySem.NameKind renaming free → bM, cell → cX
open PySem.SetTable renaming grown → bO, insertAt → eI, below → iB
open PySem.Around renaming under_plainId → bU, under → i8
open PyProof.Rows renaming callWith_type1 → b7, IntsAre → dL, envOfC → dW, AllBare → eV, slot_tuple_getitem → e7, subscriptTail_builtinR → hV, tail_any → iG, seqObj → l5, Subscript_ → mH, entry_list_sort → mL, callWith_builtin1 → mQ, sortedHeap_old → mT, slot_list_sort → mU, slicePart_none → mV, list_sort_tree → mW, args_list_sort → m3, IsTup → nH, callWith_kw → nP, bitXor_and → nQ, bitAnd_m1 → nS, IntsAre → nU
open PySem.Heap.SameBut renaming update → b8
open PySem.Builtin.List renaming listTooLong → cG, listLengthHint → fZ
open PySem.F renaming plain_max_loop → cI, slot_tuple_iterator_next → cY, slot_zip_next → fK, args_tuple_iterator_next_1 → fV, entry_tuple_iterator_next → fY, entry_max_loop → gQ, args_zip_next_1 → lJ, entry_zip_next → lZ, slot_int_rmul → mO, plain_set_new → mP
open PySem.Obj renaming data_mapFields → cK, isFreed_of_fields → e6, mapSeq → fC, cls_mapFields → gD, putSet → iM, mapFields → iS
open PyProof.Rows.F renaming plain_set_update_loop → cL, entry_set_update_loop → d9
open PySem.Builtin.Slice renaming slicePlaces → dE, sliceAdjust → d5, sliceApplied → f8, slicePartIndex → m7, sliceFields → nJ
open PySem.Builtin.Tuple renaming tupleExact → dI, tupleItemsOf → nG
open PySem.Paired renaming length → eR, snoc → nR
open PySem.Builtin renaming bitXor → fU
def aF:=@if_neg
def aH:=@if_pos
def aL:=@absurd
def bB:=@decide_eq_false
def bW:=@decide_eq_true
def dB:=@of_decide_eq_true
open List renaming range → u3, getElem?_eq_getElem → u4, length_map → u5, getElem?_map → u8, mem_range → u9, mem_cons → vT, mem_map → vV, length_append → vW, mem_append → vX, replicate → vY, getD_eq_getElem?_getD → v4, nodup_cons → v5, size_toArray → v8, map_cons → v9, mem_cons_of_mem → wC, append_assoc → wD, map_map → wE, getElem?_eq_none → wG, map_append → wH, getElem?_eq_some_iff → wI, mem_of_getElem? → wJ, length_set → wK, lookup_cons → wL, flatMap_cons → wN, getElem?_append_right → wO, getElem?_append_left → wP, mem_cons_self → wR, append_nil → wS, length_range → wT, nodup_append → wV, length_take → wW, mem_append_right → xC, lookup → xD, getElem_mem → xE, length_cons → xG, getElem?_range → xI, filterMap_cons → xK, take_length → xM, getElem?_set_self → xN, getElem?_replicate → xO, mem_append_left → xQ, getElem?_mapIdx → xS, getElem?_set → xT, take_succ → xU, mem_filter → xW, getElem?_set_ne → xX, any_cons → xY, range_succ → xZ, map_congr_left → x6, sum_cons → x8, find?_cons → yC, take_of_length_le → yD, ext_getElem? → yE, length_drop → yI, flatMap_nil → yK, map → yN, mem_filterMap → yP, length_replicate → yR, map_nil → yS, replicate_succ → yV, ext_getElem → yX, nodup_range → yY, mem_flatMap → yZ, length_mapIdx → y0, flatten_cons → y4, sum_append → y9, zip_append → zB, take_append_drop → zC, map_set → zD, length → zI, all_cons → zJ, foldl_cons → zK, length_singleton → zL, eq_nil_of_length_eq_zero → zP, filterMap_append → zX, getElem_of_mem → zY, mem_map_of_mem → zZ, take_zero → z5, flatMap_append → z7, pairwise_cons → z8, length_zip → z9, zip_map' → k7, map_filterMap → k9, getElem?_eq_none_iff → j4, of_mem_zip → j6, forIn_cons → j8, forIn_nil → j9, all_eq_true → uaA, mem_iff_getElem → uaB, length_filterMap_le → uaH, filterMap → uaI, dropLast_eq_take → uaJ, map_take → uaL, getElem_map → uaN, foldl_append → uaO, mem_singleton → uaP, getElem?_take_of_lt → uaU, filterMap_map → uaV, eraseIdx_cons_succ → uaW, length_eq_zero_iff → ua1, map_eq_nil_iff → ua2, getElem_range → ua3, zip_cons_cons → ua4, range_succ_eq_map → ua5, getLast?_cons → ua7, getLast?_eq_some_iff → ua8, dropLast_concat → ua9, flatten_replicate_singleton → ubA, map_replicate → ubB, drop_of_length_le → ubC, flatten_append → ubD
open PySem.PyData renaming int → u6, list → wB, bool → wM, str → wQ, tuple → xF, eqv → y6, none → y8, canLayAll0 → uaD, depthAll → uaE
open Nat renaming le_refl → u7, ne_of_lt → wF, zero_le → wU, le_trans → wX, lt_or_ge → wZ, lt_of_lt_of_le → w9, lt_irrefl → xB, le_of_lt → yH, add_mul → yL, mul_le_mul_right → yM, le_succ → yQ, lt_succ_of_lt → yW, ne_of_gt → y3, add_sub_cancel → zA, le_of_succ_le → zM, succ_ne_zero → zR, lt_succ_self → zU, min_eq_left → zW, add_assoc → kP, add_sub_cancel_left → k6, mul_comm → j7, min_eq_right → uaF, lt_trichotomy → uaG, eq_zero_or_pos → uaM, succ_sub_one → uaQ
open PySem.Heap renaming get?_push_of_some → vU, lt_size → vZ, get?_push_size → v7, size_push → xH, get?_update_self → yT, get?_update_other → yU, get?_some_iff → ua0
open PySem.Value renaming ref → v3, none → xJ, isStrOf → x9, int → yF, isInt → yO, str → zG, bool → zS, type → zT, float → j3
open Int renaming toNat_natCast → v6, le_refl → xP, eq_ofNat_of_zero_le → xV, emod_nonneg → zE, emod_lt_of_pos → zF, toNat_of_nonneg → zN, le_trans → z6, fmod_eq_emod_of_nonneg → uaS, fdiv_eq_ediv_of_nonneg → uaZ
open Bool renaming false_ne_true → wA, and_eq_true → yA, false_eq_true → yB, eq_iff_iff → zH, not_eq_true → zV, and_eq_true_iff → uaY
open Array renaming length_toList → wY, getElem?_toList → yJ, getElem?_eq_getElem → zQ, getElem?_eq_none → k8, toList → j5, toList_inj → uaC, append_assoc → uaR, mem_toList_iff → uaT, toList_filterMap → ua6
open Sum renaming inl → w6, inr → yG
open Option renaming some → w8, map_eq_some_iff → xA, isSome_iff_exists → xR, isSome_map → zO, bind_eq_some_iff → uaK, isSome_some → uaX
open PySem.Str renaming ofString → xL
local macro_rules|`(tactic|walk_at "vi")=>`(tactic|first|exact .inl rfl|exact .inr rfl|assumption)
abbrev Fg:=PySem.W.Frag
open PySem.F renaming plainAttrs_list → ğa, slot_list_append → ğb, type_list_append → ğc, slot_list_extend → ğd, type_list_extend → ğe, slot_list_pop → ğf, type_list_pop → ğg, slot_dict_getitem → ğh, args_tuple_add_2 → ği, entry_tuple_add → ğj, slot_tuple_add → ğk, slot_set_iter → ğl
namespace _2
open PySem PySem.Spec PyProof.Rows
variable {A:a7}{C a b dx it:aE}{E:aA->aG->Prop}{K:Fg}{M:Model}{N ps:List Str}{base:aT}{body:List dR}{ch fp:List aE}{es:List aX}{f:aA->aA->Sem aA}{g':Array lR}{i n:Nat}{kw:List (Str×aA)}{mA mg:Str->Option aA}{o:Obj}{op:Operator}{outer:List Env}{pins:List (aE×Obj)}{pos pos':Pos}{qual x:Str}{s:aG}{scope:eP}{tg:aX}{u:aA}{us:List aA}{w:aP}
abbrev Key:=Sum Int Str
def zs51:Key->aA->Bool
|.inl k,v=>yO k v
|.inr x,v=>x9 x v
def keyH(w:aP):Key->Int
|.inl k=>cO k
|.inr x=>hashStr w x
theorem zt1:∀{k:Key}{v:aA},zs51 k v=true->(∃i t,k=w6 i/\v=yF i t) \/ (∃x t,k=yG x/\v=zG x t)
|.inl i,v,h=>by
  obtain⟨t,e⟩:=Value.isInt_shape (k:=i) (v:=v) h;exact .inl ⟨i,t,rfl,e⟩
|.inr x,v,h=>by
  obtain⟨t,e⟩:=Value.isStrOf_shape (x:=x) (v:=v) h;exact .inr ⟨x,t,rfl,e⟩
theorem zte(i:Int)(t:Tok):zs51 (.inl i) (.int i t)=true:=by simp[zs51,yO]
theorem zvv(x:Str)(t:Tok):zs51 (.inr x) (.str x t)=true:=by simp[zs51,x9]
theorem zjc1(a b:Int):decide ((w6 a:Key)=w6 b)=(a == b):=by
 by_cases e:a=b
 ·subst e;simp
 ·have h:¬(w6 a:Key)=w6 b:=λq=>e (w6.inj q);rw[bB h];exact(beq_eq_false_iff_ne.mpr e).symm
theorem zad1(a b:Str):decide ((yG a:Key)=yG b)=decide (a=b):=by
 by_cases e:a=b
 ·subst e;simp
 ·have h:¬(yG a:Key)=yG b:=λq=>e (yG.inj q);rw[bB h,bB e]
theorem zhd1(a:Int)(b:Str):decide ((w6 a:Key)=yG b)=false:=bB (λq=>nomatch q)
theorem zfc1(a:Str)(b:Int):decide ((yG a:Key)=w6 b)=false:=bB (λq=>nomatch q)
def zr2(prog:aN)(w:aP):PySem.KeyKind prog w Key where
 is:=zs51
 hash:=keyH w
 inj:=λv a b z p=>by
  rcases zt1 z with⟨i,t,rfl,rfl⟩|⟨x,t,rfl,rfl⟩
  ·rcases zt1 p with⟨j,u,rfl,e⟩|⟨y,u,rfl,e⟩
   ·injection e with g _;rw[g]
   ·exact nomatch e
  ·rcases zt1 p with⟨j,u,rfl,e⟩|⟨y,u,rfl,e⟩
   ·exact nomatch e
   ·injection e with g _;rw[g]
 byValue:=λk v h=>by
  rcases zt1 h with⟨i,t,rfl,rfl⟩|⟨x,t,rfl,rfl⟩ <;> rfl
 pyHash:=λm h=>by
  rcases zt1 m with⟨i,t,rfl,rfl⟩|⟨x,t,rfl,rfl⟩
  ·exact wpAny_pyHash_int h
  ·exact wpAny_pyHash_str h
 eqBool:=λq m h=>by
  rcases zt1 q with⟨i,t,rfl,rfl⟩|⟨x,t,rfl,rfl⟩
  ·rcases zt1 m with⟨j,u,rfl,rfl⟩|⟨y,u,rfl,rfl⟩
   ·rw[zjc1]at h;exact wpAny_eqBool_int h
   ·rw[zhd1]at h;exact SeqAt.EqAt.int_str i t y u _ _ _ _ h
  ·rcases zt1 m with⟨j,u,rfl,rfl⟩|⟨y,u,rfl,rfl⟩
   ·rw[zfc1]at h;exact SeqAt.EqAt.str_int x t j u _ _ _ _ h
   ·rw[zad1]at h;exact wpAny_eqBool_str h
 «strs»:=λk x t v h=>by
  rcases zt1 h with⟨i,u,rfl,e⟩|⟨y,u,rfl,e⟩
  ·exact nomatch e
  ·injection e with g _
   subst g
   cases v <;> rfl
theorem zbm(prog:aN)(w:aP)(i:Int)(t:Tok):(zr2 prog w).is (.inl i) (.int i t)=true:=zte i t
theorem zul(prog:aN)(w:aP)(x:Str)(t:Tok):(zr2 prog w).is (.inr x) (.str x t)=true:=zvv x t
set_option genInjectivity true in
inductive V where
|non|bl (b:Bool)|int (i:Int)|str (x:Str)|byt (b:Array UInt8)|flt (b:UInt64)|ref (a:aE)|ty (n:String)
 deriving DecidableEq
def RelV:V->aA->Prop
|.non,u=>u=xJ
|.bl b,u=>u=zS b
|.int i,u=>∃t,u=yF i t
|.str x,u=>∃t,u=zG x t
|.byt b,u=>∃t,u=Value.bytes b t
|.flt b,u=>∃t,u=j3 b t
|.ref a,u=>u=v3 a
|.ty n,u=>u=zT n
abbrev Vals:List V->List aA->Prop:=Paired RelV
theorem Vals.length{xs:List V}{us:List aA}(r:Vals xs us):xs.length=us.length:=eR r
theorem Vals.get:∀{xs:List V}{us:List aA}{i:Nat}{x:V},Vals xs us->xs[i]?=some x->∃u,us[i]?=some u/\RelV x u
|_,_,_,_,.nil,e=>by simp at e
|_,_,0,_,.cons r _,e=>by simp at e;subst e;exact⟨_,rfl,r⟩
|_,_,i+1,x,.cons _ t,e=>by
  obtain⟨u,m,g⟩:=Vals.get (i:=i) (x:=x) t (by simpa using e);exact⟨u,by simpa using m,g⟩
theorem Vals.set{x:V}{u:aA}(r:RelV x u):∀{xs:List V}{us:List aA}(i:Nat),Vals xs us->Vals (xs.set i x) (us.set i u)
|_,_,_,.nil=>.nil
|_,_,0,.cons _ t=>.cons r t
|_,_,i+1,.cons q t=>.cons q (Vals.set r i t)
theorem Vals.append:∀{xs ys:List V}{us ws:List aA},Vals xs us->Vals ys ws->Vals (xs++ys) (us++ws)
|_,_,_,_,.nil,s=>s
|_,_,_,_,.cons r t,s=>.cons r (Vals.append t s)
theorem Vals.take:∀{xs:List V}{us:List aA}(n:Nat),Vals xs us->Vals (xs.take n) (us.take n)
|_,_,0,_=>.nil
|_,_,_+1,.nil=>.nil
|_,_,n+1,.cons r t=>.cons r (Vals.take n t)
theorem Vals.drop:∀{xs:List V}{us:List aA}(n:Nat),Vals xs us->Vals (xs.drop n) (us.drop n)
|_,_,0,r=>r
|_,_,_+1,.nil=>.nil
|_,_,n+1,.cons _ t=>Vals.drop n t
theorem Vals.none_of:∀{xs:List V}{us:List aA}{i:Nat},Vals xs us->xs[i]?=none->us[i]?=none:=λ{xs us i} r e=>by
 have m:=r.length;have g:xs.length<=i:=j4.mp e;exact j4.mpr (by lia)
def RelO:Option V->Option aA->Prop
|some v,some u=>RelV v u
|none,none=>True
|_,_=>False
def KV{κ:Type}:List (κ×V)->List (κ×aA)->Prop:=Paired λ(p:κ×V)(q:κ×aA)=>p.1=q.1/\RelV p.2 q.2
def kV:Key->V
|.inl i=>.int i
|.inr x=>.str x
set_option genInjectivity true in
inductive HO where
 /-- a list -/
|lst (xs:List V)
 /-- a tuple (never changes) -/
|tup (xs:List V)
 /-- a dict whose keys are ints and texts;one whose keys are tuples of ints and texts (the empty one is both) -/
|dK (kvs:List (Key×V))|dT (kvs:List (List Key×V))
 /-- a set of ints: its members,its size -/
|set (S:Int->Bool) (n:Nat)
 /-- an instance of the class at C,its dict at dx,its attributes -/
|ins (C dx:aE) (fs:List (Str×V))
 /-- the dict of the instance at x -/
|own (x:aE)
 /-- the dict of an exception -/
|xd (fs:List (Str×V))
 /-- a bound method,f of x -/
|met (f x:aE)
 /-- a range object lo,lo+1,.. below hi -/
|rng (lo hi:Int)
 /-- a thing that is known to the object (the script;a dict while a loop walks it): read,never written while it is so -/
|frz (o:Obj) (u:HO)
 /-- a code object's l3 -/
|tbl (ps:Array aA)
 /-- any other thing,by what is true of its one object (a def of one's own: SetO a S n:=HO.ext λh=>..) -/
|ext (φ:aT->Prop)
abbrev Hp:=aE->Option HO
def upd(H:Hp)(a:aE)(o:HO):Hp:=λb=>if b=a then some o else H b
theorem zq0{H:Hp}{o:HO}:upd H a o a=some o:=by unfold upd;rw[aH rfl]
theorem zd1{H:Hp}{o:HO}(h:b≠a):upd H a o b=H b:=by unfold upd;rw[aF h]
theorem zci1{H:Hp}{o u:HO}(h:H a=some o)(h':H b=some u)(d:o≠u):a≠b:=by
 intro e;subst e;rw[h]at h';exact d (w8.inj h')
theorem zn5{H:Hp}{o:HO}(h:H a=some o)(h':H b=none):a≠b:=by
 intro e;subst e;rw[h]at h';cases h'
section
variable (P:aN)(w:aP)
def ObjOk(H:Hp)(h:aT)(a:aE):HO->Prop
|.lst xs=>xs.length<=sizeLine/\∃(its:List aA)(n:Nat),Vals xs its/\h.get? a=some { cls:=.type "list",data:=.seq its.toArray n }
|.tup xs=>xs.length<=sizeLine/\∃its:List aA,Vals xs its/\nH h a its.toArray
|.dK kvs=>kvs.length<=sizeLine/\(a == cC)=false/\∃vs,KV kvs vs/\h.DictOf (zr2 P w) a vs
|.dT kvs=>kvs.length<=sizeLine/\(a == cC)=false/\∃xs:List (List Key×aE×aA),
   Paired (λ(p:List Key×V)(q:List Key×aE×aA)=>p.1=q.1/\H q.2.1=some (.tup (p.1.map kV))/\RelV p.2 q.2.2) kvs xs /\
   ∃o es ep,h.get? a=some o/\o.ExactDict/\o.data=.dict es ep/\es.toList=xs.map (entryOfKey (gX (zr2 P w)))/\(xs.map (·.1)).Nodup
|.set S n=>h.SetOf (eU P w) a S n
|.ins C dx fs=>H dx=some (.own a)/\fs.length<=1000/\dx≠a/\h.get? a=some (cD C dx) /\
   ∃mA,h.Ns1 dx mA/\(∀f,RelO (fs.lookup f) (mA f))/\i7 mA (fs.map (·.1))
|.own _=>∃o,h.get? a=some o
|.xd fs=>∃mA,h.Ns1 a mA/\∀f,RelO (fs.lookup f) (mA f)
|.rng lo hi=>∃t u v,h.get? a=some { cls:=.type "range",data:=.fields #[.int lo t,.int hi u,.int 1 v] }
|.frz o u=>h.get? a=some o/\ObjOk H h a u
|.tbl ps=>h.get? a=some { cls:=.none,data:=.fields ps }
|.met f x=>h.get? a=some (gB (.ref f) (.ref x))
|.ext φ=>φ h/\(∃o,h.get? a=some o)/\∀m g:aT,φ m->(∀o,m.get? a=some o->g.get? a=some o)->φ g
def HOk(H:Hp)(h:aT):Prop:=∀a o,H a=some o->ObjOk P w H h a o
end
section
variable {P:aN}{w:aP}{H H':Hp}{h h':aT}{a:aE}{o:HO}
theorem ObjOk.lt(x:ObjOk P w H h a o):a < h.objs.size:=by
 cases o with
|lst xs=>obtain⟨_,_,_,_,e⟩:=x;exact vZ e
|tup xs=>obtain⟨_,_,_,p⟩:=x;exact p.lt
|dK kvs=>obtain⟨_,_,_,_,o,_,_,e,_⟩:=x;exact vZ e
|dT kvs=>obtain⟨_,_,_,_,o,_,_,e,_⟩:=x;exact vZ e
|set S n=>obtain⟨o,_,_,_,e,_⟩:=x;exact vZ e
|ins C dx fs=>obtain⟨_,_,_,e,_⟩:=x;exact vZ e
|own y=>obtain⟨_,e⟩:=x;exact vZ e
|xd fs=>obtain⟨_,⟨_,_,_,e,_⟩,_⟩:=x;exact vZ e
|rng lo hi=>obtain⟨_,_,_,e⟩:=x;exact vZ e
|frz ob u=>obtain⟨e,_⟩:=x;exact vZ e
|tbl ps=>exact vZ (show h.get? a=some _ from x)
|met f y=>exact vZ (show h.get? a=some _ from x)
|ext φ=>obtain⟨_,⟨_,e⟩,_⟩:=x;exact vZ e
theorem Paired.mapP{α β:Type}{F G:α->β->Prop}:∀{l₁:List α}{l₂:List β},Paired F l₁ l₂->(∀a b,F a b->G a b)->Paired G l₁ l₂
|_,_,.nil,_=>.nil
|_,_,.cons r t,f=>.cons (f _ _ r) (Paired.mapP t f)
theorem ObjOk.stay(x:ObjOk P w H h a o)(k:∀b u,(b=a \/ H b=some (.own a))->h.get? b=some u->h'.get? b=some u)
  (G:∀b,H b=some (.own a)->H' b=some (.own a)) (B:∀b xs,H b=some (.tup xs)->H' b=some (.tup xs)):ObjOk P w H' h' a o:=by
 induction o with
|lst xs=>obtain⟨z,its,n,r,e⟩:=x;exact⟨z,its,n,r,k _ _ (.inl rfl) e⟩
|tup xs=>obtain⟨z,its,r,ob,e,c⟩:=x;exact⟨z,its,r,ob,k _ _ (.inl rfl) e,c⟩
|dK kvs=>obtain⟨z,y,vs,r,ob,es,ep,e,c⟩:=x;exact⟨z,y,vs,r,ob,es,ep,k _ _ (.inl rfl) e,c⟩
|dT kvs =>
  obtain⟨z,y,xs,r,ob,es,ep,e,c⟩:=x;exact⟨z,y,xs,Paired.mapP r λp q z=>⟨z.1,B _ _ z.2.1,z.2.2⟩,ob,es,ep,k _ _ (.inl rfl) e,c⟩
|set S n=>obtain⟨ob,es,ep,t,e,c⟩:=x;exact⟨ob,es,ep,t,k _ _ (.inl rfl) e,c⟩
|ins C dx fs =>
  obtain⟨d,z,ne,e,mA,⟨g,es,ep,I,c⟩,r⟩:=x;exact⟨G _ d,z,ne,k _ _ (.inl rfl) e,mA,⟨g,es,ep,k _ _ (.inr d) I,c⟩,r⟩
|own y=>obtain⟨ob,e⟩:=x;exact⟨ob,k _ _ (.inl rfl) e⟩
|xd fs=>obtain⟨mA,⟨g,es,ep,e,c⟩,r⟩:=x;exact⟨mA,⟨g,es,ep,k _ _ (.inl rfl) e,c⟩,r⟩
|rng lo hi=>obtain⟨t,u,v,e⟩:=x;exact⟨t,u,v,k _ _ (.inl rfl) e⟩
|frz ob u m=>obtain⟨e,q⟩:=x;exact⟨k _ _ (.inl rfl) e,m q⟩
|tbl ps =>
  have e:h.get? a=some { cls:=.none,data:=.fields ps }:=x;show h'.get? a=some { cls:=.none,data:=.fields ps };exact k a _ (.inl rfl) e
|met f y =>
  have e:h.get? a=some (gB (.ref f) (.ref y)):=x;show h'.get? a=some (gB (.ref f) (.ref y));exact k a _ (.inl rfl) e
|ext φ=>obtain⟨p,⟨o,e⟩,st⟩:=x;exact⟨st _ _ p λo q=>k _ _ (.inl rfl) q,⟨o,k _ _ (.inl rfl) e⟩,st⟩
theorem HOk.lt(x:HOk P w H h)(e:H a=some o):a < h.objs.size:=(x a o e).lt
theorem HOk.fresh(x:HOk P w H h)(e:h.objs.size<=a):H a=none:=by
 cases q:H a with
|none=>rfl
|some u=>exact aL (w9 (x.lt q) e) (xB _)
theorem HOk.kept(x:HOk P w H h)(k:∀b u,h.get? b=some u->h'.get? b=some u):HOk P w H h':=λa o e =>
 (x a o e).stay (λb u _ q=>k b u q) (λ_ q=>q) λ_ _ q=>q
theorem HOk.laid(x:HOk P w H h)(k:∀b u,h.get? b=some u->h'.get? b=some u)(p:h.objs.size<=a)(new:ObjOk P w (upd H a o) h' a o):HOk P w (upd H a o) h':=λb u e=>by
 have g:=x.fresh p;by_cases m:b=a
 ·subst m;rw[zq0]at e;cases e;exact new
 ·rw[zd1 m]at e;exact(x b u e).stay (λc v _ q=>k c v q) (λc q=>by rw[zd1 (zn5 q g)];exact q) λc xs q=>by rw[zd1 (zn5 q g)];exact q
end
def Rd(H:Hp)(a:aE)(u:HO):Prop:=H a=some u \/ ∃o,H a=some (.frz o u)
theorem Rd.ok{P:aN}{H:Hp}{h:aT}{u:HO}(r:Rd H a u)(x:HOk P w H h):ObjOk P w H h a u:=by
 rcases r with r|⟨o,r⟩
 ·exact x a u r
 ·obtain⟨_,q⟩:=x a _ r;exact q
def Mut:Option HO->Prop
|some (.lst _)=>True
|some (.dK _)=>True
|some (.dT _)=>True
|some (.set _ _)=>True
|some (.ins _ _ _)=>True
|some (.ext _)=>True
|_=>False
section
variable {P:aN}{w:aP}{H:Hp}{h h':aT}{x e:aE}{o':HO}
theorem HOk.write(ok:HOk P w H h)(B:Mut (H x))(O:e=x \/ H e=some (.own x))(k:∀b u,b≠e->h.get? b=some u->h'.get? b=some u)(J:∃u,h'.get? e=some u)
  (new:ObjOk P w (upd H x o') h' x o'):HOk P w (upd H x o') h':=λb u q=>by
 have m:∀c y,H c=some (.own y)->c≠x:=λc y r z=>by subst z;rw[r]at B;exact B
 have p:∀c xs,H c=some (.tup xs)->c≠x:=λc xs r z=>by subst z;rw[r]at B;exact B
 by_cases I:b=x
 ·subst I;rw[zq0]at q;cases q;exact new
 ·rw[zd1 I]at q;by_cases g:b=e
  ·have L:H b=some (.own x):=by
    rcases O with z|z
    ·exact aL (g.trans z) I
    ·rw[g];exact z
   rw[q]at L;cases L;obtain⟨v,S⟩:=J;exact⟨v,by rw[g];exact S⟩
  ·refine(ok b u q).stay (λc v G r=>k c v ?_ r) (λc r=>by rw[zd1 (m c b r)];exact r) λc xs r=>by rw[zd1 (p c xs r)];exact r
   rcases G with rfl|G
   ·exact g
   ·rintro rfl;rcases O with z|z
    ·exact m c b G z
    ·rw[G]at z;cases z;exact I rfl
end
structure Un(fs ex:List aE)(H H':Hp)(h h':aT):Prop where
 keep:∀b o,h.get? b=some o->H b=none->b ∉ fs->b ∉ ex->h'.get? b=some o
 slot:∀b o,h.get? b=some o->H b=none->b∈fs->b ∉ ex->∃sl,h'.get? b=some { o with slots:=sl }
 free:∀b o,h.get? b=some o->H b=none->b ∉ ex->H' b=none
 there:∀b o,h.get? b=some o->b ∉ ex->∃o',h'.get? b=some o'
 tups:∀b xs,H b=some (.tup xs)->H' b=some (.tup xs)
 frzs:∀b o u,H b=some (.frz o u)->H' b=some (.frz o u)
 tbls:∀b ps,H b=some (.tbl ps)->∃more,H' b=some (.tbl (ps++more))
section
variable {fs fs' ex ex':List aE}{H H1 H2:Hp}{h h1 h2 h':aT}{a x e:aE}{o:HO}
theorem Un.any(u:Un fs ex H H1 h h1){ob:Obj}(q:h.get? b=some ob)(n:H b=none)(g:b ∉ ex):∃sl,h1.get? b=some { ob with slots:=sl }:=by
 by_cases m:b∈fs
 ·exact u.slot b ob q n m g
 ·exact⟨ob.slots,u.keep b ob q n m g⟩
theorem Un.kept(k:∀b u,h.get? b=some u->h'.get? b=some u):Un fs ex H H h h' :=
 ⟨λb ob q _ _ _=>k b ob q,λb ob q _ _ _=>⟨ob.slots,k b ob q⟩,λ_ _ _ n _=>n,λb ob q _=>⟨ob,k b ob q⟩,λ_ _ q=>q,λ_ _ _ q=>q,λ_ ps q=>⟨#[],by rw[q];simp⟩⟩
theorem Un.refl:Un fs ex H H h h:=Un.kept λ_ _ q=>q
theorem Un.laid(k:∀b u,h.get? b=some u->h'.get? b=some u)(m:h.objs.size<=a)(g:H a=none):Un fs ex H (upd H a o) h h' where
 keep:=λb u q _ _ _=>k b u q
 slot:=λb u q _ _ _=>⟨u.slots,k b u q⟩
 free:=λb u q n _=>by rw[zd1 (wF (w9 (vZ q) m))];exact n
 there:=λb u q _=>⟨u,k b u q⟩
 tups:=λb xs q=>by rw[zd1 (zn5 q g)];exact q
 frzs:=λb u xs q=>by rw[zd1 (zn5 q g)];exact q
 tbls:=λb ps q=>⟨#[],by rw[zd1 (zn5 q g),q];simp⟩
theorem Un.write(m:Mut (H x))(I:e=x \/ H e=some (.own x))(k:∀b u,b≠e->h.get? b=some u->h'.get? b=some u)(y:∃u,h'.get? e=some u):Un fs ex H (upd H x o) h h':=by
 have B:∀b,H b=none->b≠x:=λb n z=>by subst z;rw[n]at m;exact m
 have G:∀b,H b=none->b≠e:=λb n z=>by
  subst z;rcases I with r|r
  ·exact B b n r
  ·rw[n]at r;cases r
 have p:∀b u,H b=some u->¬Mut (some u)->b≠x:=λb u q nm z=>by subst z;rw[q]at m;exact nm m
 refine⟨λb u q n _ _=>k b u (G b n) q,λb u q n _ _=>⟨u.slots,k b u (G b n) q⟩,λb u q n _=>by rw[zd1 (B b n)];exact n,λb u q _=>?_,
  λb xs q=>by rw[zd1 (p b _ q λz=>z)];exact q,λb u xs q=>by rw[zd1 (p b _ q λz=>z)];exact q,λb ps q=>⟨#[],by rw[zd1 (p b _ q λz=>z),q];simp⟩⟩
 by_cases g:b=e
 ·subst g;exact y
 ·exact⟨u,k b u g q⟩
end
def trk(h:aT)(H:Hp):List Addr:=(u3 h.objs.size).filter λa=>(H a).isSome
def hidT(h:aT)(H:Hp):Heap:=PySem.W.hideAll h (trk h H)
theorem zuv(h:aT)(H:Hp):(hidT h H).objs.size=h.objs.size:=PySem.W.hideAll_size _ _
theorem zp31{h:aT}{H:Hp}(e:h.get? b=some o)(n:H b=none):(hidT h H).get? b=some o :=
 PySem.W.hideAll_get _ e λg=>by
  have q:(H b).isSome=true:=(xW.mp g).2;rw[n]at q;simp at q
theorem zu61{h:aT}{H:Hp}(e:(hidT h H).get? b=some o):h.get? b=some o/\H b=none:=by
 have g:h.get? b=some o:=PySem.W.of_hideAll (trk h H) e;refine⟨g,?_⟩;cases q:H b with
|none=>rfl
|some x =>
  have m:b∈trk h H:=xW.mpr ⟨u9.mpr (vZ g),by simp[q]⟩;have z:(hidT h H).get? b=none:=PySem.W.hideAll_none (trk h H) m;rw[z]at e;cases e
structure Mod(K:Fg)(mg:Str->Option aA)(base:aT):Prop where
 kin:K.In base
 glob:base.Ns aR mg
 blt:∃mb,base.Ns mF mb/\∀x:Str,x ≠ "__name__"->mb x=a8 x
 nolimit:base.NoLimit
structure Cx where
 prog:aN
 w:aP
 K:Fg
 mg:Str->Option aA
 base:aT
 A:a7
 N:List Str
 s₀:aG
 H₀:Hp
 env:Env
 outer:List Env
 stack:List Env
 ex:List aE
 fn:Str->Bool
 calm:Bool
 pn:List (aE×Obj)
 xe:aA->aG->Prop
def frs(l:List Env):List Addr:=l.filterMap (·.frame)
abbrev Cx.fs(X:Cx):List Addr:=frs X.outer
def Vis(sc:eP)(x:Str):Prop:=sc.names.lookup x=some .local \/ sc.names.lookup x=some .cell \/ sc.names.lookup x=some .free
def Loc(sc:eP)(x:Str):Prop:=sc.names.lookup x=some .local \/ sc.names.lookup x=some .cell
def Look(env:Env)(h:aT)(m:Str->Option aA)(x:Str)(u:aA):Prop :=
 (env.kindOf x=some .local/\m x=some u) \/ ((env.kindOf x=some .cell \/ env.kindOf x=some .free)/\∃c,env.cells.lookup x=some c/\h.IsCell c (some u))
structure Cx.Ok(X:Cx):Prop where
 mod:Mod X.K X.mg X.base
 kind:X.env.scope.kind=.function
 glob:X.env.globals=aR
 blt:X.env.builtins=mF
 above:X.s₀.heap.objs.size<=X.env.locals
 inj:∀x y c,X.env.cells.lookup x=some c->X.env.cells.lookup y=some c->x=y
 has:∀x,(X.env.kindOf x=some .cell \/ X.env.kindOf x=some .free)->∃c,X.env.cells.lookup x=some c
 cab:∀x c,X.fn x=true->X.env.cells.lookup x=some c->X.s₀.heap.objs.size<=c
 hd:X.calm=true->X.A.handled=none
 frames:X.A.frames=some X.stack
 stk:X.stack=X.outer \/ (X.stack=X.env :: X.outer/\X.env.frame=some X.env.locals)
 exf:∀b∈X.ex,b≠X.env.locals/\∀x c,X.env.cells.lookup x=some c->c≠b
 bs:∀b o,X.base.get? b=some o->X.s₀.heap.get? b=some o/\X.H₀ b=none
 bsz:X.base.objs.size<=X.s₀.heap.objs.size
 noex:∀b o,X.base.get? b=some o->b ∉ X.ex
 exfs:∀b∈X.ex,b ∉ X.fs
 funs:X.s₀.heap.FunFrames X.base X.outer
 frf:∀b∈X.fs,X.H₀ b=none
structure Inv(X:Cx)(pins:List (aE×Obj))(Y:List (Option V))(H:Hp)(s:aG):Prop where
 ok:X.Ok
 os:s.os=X.s₀.os
 bare:eV s.gens
 base:Un X.fs X.ex X.H₀ H X.s₀.heap s.heap
 loc:∃m,s.heap.Ns X.env.locals m/\∀(i:Nat)(x:Str)(v:V),X.N[i]?=some x->Y[i]?=some (some v)->Vis X.env.scope x->∃u,RelV v u/\Look X.env s.heap m x u
 cell:∀x c,X.env.cells.lookup x=some c->∃v,s.heap.IsCell c v
 free:H X.env.locals=none
 freeC:∀x c,X.env.cells.lookup x=some c->H c=none
 pin:∀p∈X.pn++pins,s.heap.get? p.1=some p.2/\H p.1=none/\p.1≠X.env.locals/\p.1 ∉ X.fs/\∀v,p.2.data≠.cell v
 hok:HOk X.prog X.w H s.heap
 len:Y.length=X.N.length
section
variable {X:Cx}{pins:List (aE×Obj)}{Y:List (Option V)}{H H':Hp}{s:aG}{h':aT}
theorem Cx.Ok.nofr(ok:X.Ok)(e:X.base.get? b=some o):b ∉ X.fs:=λg=>by
 have:=(ok.funs.mem g).1;rw[e]at this;cases this
theorem Inv.bs(I:Inv X pins Y H s):∀b o,X.base.get? b=some o->s.heap.get? b=some o/\H b=none:=λb o e =>
 ⟨I.base.keep b o (I.ok.bs b o e).1 (I.ok.bs b o e).2 (I.ok.nofr e) (I.ok.noex b o e),I.base.free b o (I.ok.bs b o e).1 (I.ok.bs b o e).2 (I.ok.noex b o e)⟩
theorem Inv.bk(I:Inv X pins Y H s):∀b o,X.base.get? b=some o->s.heap.get? b=some o:=λb o e=>(I.bs b o e).1
theorem Inv.mod(I:Inv X pins Y H s):Mod X.K X.mg X.base:=I.ok.mod
theorem Inv.kIn(I:Inv X pins Y H s):X.K.In s.heap:=I.ok.mod.kin.keeps I.bk
theorem Inv.lt(I:Inv X pins Y H s):X.env.locals < s.heap.objs.size:=let ⟨_,g,_⟩:=I.loc;g.lt
theorem Inv.sz(I:Inv X pins Y H s):X.s₀.heap.objs.size<=s.heap.objs.size:=wX I.ok.above (yH I.lt)
theorem Inv.nofs(I:Inv X pins Y H s)(h:s.heap.objs.size<=a):a ∉ X.fs:=λm=>by
 obtain⟨_,o,g,_⟩:=I.ok.funs.mem m;exact aL (w9 (vZ g) (wX I.sz h)) (xB _)
theorem Inv.cne(I:Inv X pins Y H s):∀x c,X.env.cells.lookup x=some c->c≠X.env.locals:=λx c e z=>by
 obtain⟨v,o,q,hd⟩:=I.cell x c e;obtain⟨m,⟨y,es,ep,g,p,_⟩,_⟩:=I.loc;rw[z,g]at q;cases q;rw[p]at hd;cases hd
theorem Inv.funs(I:Inv X pins Y H s):s.heap.FunFrames X.base X.outer:=by
 have all:∀(l:List Env),(∀b∈frs l,b∈X.fs)->X.s₀.heap.FunFrames X.base l->s.heap.FunFrames X.base l:=by
  intro l
  induction l with
 |nil=>intro _ _;trivial
 |cons env r q =>
   intro p hl;obtain⟨G,⟨L,o,hf,B,y,hd⟩,hr⟩:=hl;have m:L∈X.fs:=p L (by unfold frs;rw[xK,hf];exact wR);obtain⟨sl,e⟩:=I.base.slot L o y (I.ok.frf L m) m λz=>I.ok.exfs L z m;exact⟨G,⟨L,_,hf,B,e,hd⟩,q (λb g=>p b (by unfold frs;rw[xK,hf];exact wC _ g)) hr⟩
 exact all X.outer (λ_ g=>g) I.ok.funs
theorem Inv.stack(I:Inv X pins Y H s):s.heap.FunFrames X.base X.stack:=by
 rcases I.ok.stk with e|⟨e,hf⟩
 ·rw[e];exact I.funs
 ·rw[e];obtain⟨m,g,_⟩:=I.loc;refine .cons (by rw[I.ok.kind];decide) hf g ?_ I.funs;exact Heap.get?_none_of_le (wX I.ok.bsz I.ok.above)
theorem Inv.stkSub(I:Inv X pins Y H s):∀b∈frs X.stack,b∈X.env.locals :: X.fs:=λb g=>by
 rcases I.ok.stk with e|⟨e,hf⟩
 ·rw[e]at g;exact wC _ g
 ·rw[e]at g;unfold frs at g;rw[xK,hf]at g;exact g
theorem Inv.stkFree(I:Inv X pins Y H s):∀b∈frs X.stack,H b=none:=λb g=>by
 rcases vT.mp (I.stkSub b g)with e|g
 ·rw[e];exact I.free
 ·obtain⟨_,o,m,_⟩:=I.ok.funs.mem g;exact I.base.free b o m (I.ok.frf b g) λz=>I.ok.exfs b z g
theorem Inv.step{g':Array lR}{t':Nat}{d':Drawn}(I:Inv X pins Y H s)
  (B:∀b∈ch,(b∈X.ex \/ X.s₀.heap.objs.size<=b)/\b≠X.env.locals/\(∀x c,X.env.cells.lookup x=some c->c≠b)/\∀p∈X.pn++pins,p.1≠b)
  (keep:∀b o,b≠X.env.locals->b ∉ X.fs->b ∉ ch->s.heap.get? b=some o->H b=none->h'.get? b=some o)
  (slot:∀b o,b≠X.env.locals->b∈X.fs->b ∉ ch->s.heap.get? b=some o->H b=none->∃sl,h'.get? b=some { o with slots:=sl }) (free:∀b o,b ∉ ch->s.heap.get? b=some o->H b=none->H' b=none)
  (there:∀b o,b ∉ ch->s.heap.get? b=some o->∃U,h'.get? b=some U)
  (tups:∀b xs,H b=some (.tup xs)->H' b=some (.tup xs)) (frzs:∀b o u,H b=some (.frz o u)->H' b=some (.frz o u)) (tbls:∀b ps,H b=some (.tbl ps)->∃more,H' b=some (.tbl (ps++more)))
  (ns:∀m,s.heap.Ns X.env.locals m->h'.Ns X.env.locals m) (hok:HOk X.prog X.w H' h') (hg:eV g') :
  Inv X pins Y H' { s with heap:=h',gens:=g',drawn:=d',toks:=t' }:=by
 have Z:∀b o,X.s₀.heap.get? b=some o->b≠X.env.locals:=λb o e=>wF (w9 (vZ e) I.ok.above);have L:∀b o,X.s₀.heap.get? b=some o->b ∉ X.ex->b ∉ ch:=λb o e g O=>by
  rcases(B b O).1 with z|z
  ·exact g z
  ·exact aL (w9 (vZ e) z) (xB _)
 have G:∀x c,X.env.cells.lookup x=some c->∀v,s.heap.IsCell c v->h'.IsCell c v:=λx c e v ⟨o,S,hd⟩=>by
  have y:c ∉ ch:=λz=>(B c z).2.2.1 x c e rfl;by_cases hc:c∈X.fs
  ·obtain⟨sl,q⟩:=slot c o (I.cne x c e) hc y S (I.freeC x c e);exact⟨_,q,hd⟩
  ·exact⟨o,keep c o (I.cne x c e) hc y S (I.freeC x c e),hd⟩
 refine⟨I.ok,I.os,hg,⟨λb o e n O g=>?_,λb o e n O g=>?_,λb o e n g=>?_,λb o e g=>?_,λb xs e=>tups b xs (I.base.tups b xs e),λb o xs e=>frzs b o xs (I.base.frzs b o xs e),λb ps e=>?_⟩,?_,λx c e=>?_,?_,λx c e=>?_,λp hp=>?_,hok,I.len⟩
 ·exact keep b o (Z b o e) O (L b o e g) (I.base.keep b o e n O g) (I.base.free b o e n g)
 ·obtain⟨sl,J⟩:=I.base.slot b o e n O g;obtain⟨sl',W⟩:=slot b _ (Z b o e) O (L b o e g) J (I.base.free b o e n g);exact⟨sl',W⟩
 ·obtain⟨U,J⟩:=I.base.there b o e g;exact free b U (L b o e g) J (I.base.free b o e n g)
 ·obtain⟨U,J⟩:=I.base.there b o e g;exact there b U (L b o e g) J
 ·obtain⟨m1,J⟩:=I.base.tbls b ps e;obtain⟨m2,W⟩:=tbls b _ J;exact⟨m1++m2,by rw[W,uaR]⟩
 ·obtain⟨m,hn,hl⟩:=I.loc;refine⟨m,ns m hn,λi x v J W e3=>?_⟩;obtain⟨u,r,l⟩:=hl i x v J W e3;refine⟨u,r,?_⟩;rcases l with l|⟨k,c,e,z⟩
  ·exact .inl l
  ·exact .inr ⟨k,c,e,G x c e _ z⟩
 ·obtain⟨v,z⟩:=I.cell x c e;exact⟨v,G x c e v z⟩
 ·obtain⟨m,⟨o,_,_,S,_⟩,_⟩:=I.loc;exact free _ o (λz=>(B _ z).2.1 rfl) S I.free
 ·obtain⟨v,o,S,hd⟩:=I.cell x c e;exact free c o (λz=>(B c z).2.2.1 x c e rfl) S (I.freeC x c e)
 ·obtain⟨e,n,ne,nf,d⟩:=I.pin p hp;have y:p.1 ∉ ch:=λz=>(B p.1 z).2.2.2 p hp rfl;exact⟨keep p.1 p.2 ne nf y e n,free p.1 p.2 y e n,ne,nf,d⟩
theorem Inv.un{t':Nat}(I:Inv X pins Y H s)(u:Un X.fs [] H H' s.heap h')(q:HOk X.prog X.w H' h'):Inv X pins Y H' { s with heap:=h',toks:=t' }:=by
 obtain⟨m,⟨o,es,ep,B,r⟩,_⟩:=id I.loc;obtain⟨sl,L⟩:=u.any B I.free (by simp);exact I.step (g':=s.gens) (d':=s.drawn) (ch:=[]) (λ_ z=>nomatch z) (λb o _ p _ e n=>u.keep b o e n p (by simp)) (λb o _ p _ e n=>u.slot b o e n p (by simp)) (λb o _ e n=>u.free b o e n (by simp)) (λb o _ e=>u.there b o e (by simp)) u.tups u.frzs u.tbls (λS J=>by
  obtain⟨O,es',y,g,G⟩:=J;rw[B]at g;cases g;exact⟨_,es',y,L,G⟩) q I.bare
theorem Inv.call{t':Nat}{d':Drawn}(I:Inv X pins Y H s)(u:Un (frs X.stack) ch H H' s.heap h')(G:HOk X.prog X.w H' h')(U:eV g')
  (y:∀b∈ch,(b∈X.ex \/ X.s₀.heap.objs.size<=b)/\b≠X.env.locals/\(∀x c,X.env.cells.lookup x=some c->c≠b)/\∀p∈X.pn++pins,p.1≠b) :
  Inv X pins Y H' { s with heap:=h',gens:=g',drawn:=d',toks:=t' }:=by
 obtain⟨m,⟨o,es,ep,L,r⟩,_⟩:=id I.loc;obtain⟨sl,B⟩:=u.any L I.free λz=>(y _ z).2.1 rfl;exact I.step (ch:=ch) y (λb o B W g e n=>u.keep b o e n (λz=>(vT.mp (I.stkSub b z)).elim B W) g) (λb o _ _ g e n=>u.any e n g) (λb o g e n=>u.free b o e n g) (λb o g e=>u.there b o e g) u.tups u.frzs u.tbls (λm' S=>by
  obtain⟨Z,es',J,q,O⟩:=S;rw[L]at q;cases q;exact⟨_,es',J,B,O⟩) G U
theorem Inv.turned{t':Nat}(I:Inv X pins Y H s)(k:∀b o,b≠it->s.heap.get? b=some o->h'.get? b=some o)(J:H it=none)(B:it≠X.env.locals)
  (W:it∈X.ex \/ X.s₀.heap.objs.size<=it) (U:∀x c,X.env.cells.lookup x=some c->c≠it) (S:∀p∈X.pn++pins,p.1≠it):Inv X pins Y H { s with heap:=h',toks:=t' }:=by
 have y:∀b u,H b=some u->b≠it:=λb u e z=>by rw[z,J]at e;cases e
 refine I.step (g':=s.gens) (d':=s.drawn) (ch:=[it]) (λb O=>?_) (λb o _ _ g e _=>k b o (λz=>g (by simp[z])) e) (λb o _ _ g e _=>⟨o.slots,k b o (λz=>g (by simp[z])) e⟩) (λ_ _ _ _ n=>n)
  (λb o g e=>⟨o,k b o (λz=>g (by simp[z])) e⟩) (λ_ _ e=>e) (λ_ _ _ e=>e) (λb ps e=>⟨#[],by rw[e];simp⟩) (λm L=>?_) (λb u e=>?_) I.bare
 ·have e:b=it:=by simpa using O
  subst e;exact⟨W,B,U,S⟩
 ·obtain⟨o,es,ep,G,r⟩:=L;exact⟨o,es,ep,k _ o (Ne.symm B) G,r⟩
 ·refine(I.hok b u e).stay (λc v g q=>k c v ?_ q) (λ_ q=>q) λ_ _ q=>q;rcases g with z|z
  ·rw[z];exact y b u e
  ·exact y c _ z
theorem Inv.tok(I:Inv X pins Y H s)(t:Nat):Inv X pins Y H { s with toks:=t }:=I.un (h':=s.heap) (t':=t) Un.refl I.hok
theorem Inv.kept{t':Nat}(I:Inv X pins Y H s)(k:∀b u,s.heap.get? b=some u->h'.get? b=some u):Inv X pins Y H { s with heap:=h',toks:=t' }:=I.un (Un.kept k) (I.hok.kept k)
theorem Inv.laid{a:aE}{o:HO}{t':Nat}(I:Inv X pins Y H s)(k:∀b u,s.heap.get? b=some u->h'.get? b=some u)(g:s.heap.objs.size<=a)(new:ObjOk X.prog X.w (upd H a o) h' a o) :
  Inv X pins Y (upd H a o) { s with heap:=h',toks:=t' }:=I.un (Un.laid k g (I.hok.fresh g)) (I.hok.laid k g new)
theorem Inv.write{x e:aE}{o:HO}{t':Nat}(I:Inv X pins Y H s)(m:Mut (H x))(p:e=x \/ H e=some (.own x))(k:∀b u,b≠e->s.heap.get? b=some u->h'.get? b=some u)(g:∃u,h'.get? e=some u)
  (new:ObjOk X.prog X.w (upd H x o) h' x o):Inv X pins Y (upd H x o) { s with heap:=h',toks:=t' }:=I.un (Un.write m p k g) (I.hok.write m p k g new)
theorem Inv.pins_of{g:List (aE×Obj)}(I:Inv X pins Y H s)(h:∀p∈g,s.heap.get? p.1=some p.2/\H p.1=none/\p.1≠X.env.locals/\p.1 ∉ X.fs/\∀v,p.2.data≠.cell v):Inv X g Y H s :=
 ⟨I.ok,I.os,I.bare,I.base,I.loc,I.cell,I.free,I.freeC,λp m=>(vX.mp m).elim (λz=>I.pin p (xQ _ z)) (h p),I.hok,I.len⟩
theorem zfp(g:N.Nodup){j:Nat}(a:N[i]?=some x)(b:N[j]?=some x):i=j:=by
 obtain⟨y,p⟩:=wI.mp a;obtain⟨q,m⟩:=wI.mp b;exact(List.getElem_inj g).mp (p.trans m.symm)
theorem ztk{M:Model}{A:a7}{E:aA->aG->Prop}{v:V}{Q:Unit->aG->Prop}(I:Inv X pins Y H s)(hN:X.N.Nodup)(hi:X.N[i]?=some x)(S:Loc X.env.scope x)(r:RelV v u)
  (h:∀s',Inv X pins (Y.set i (some v)) H s'->(∃a,bF a s.heap s'.heap/\(a=X.env.locals \/ X.env.cells.lookup x=some a))->Q () s') (hf:X.fn x=true \/ X.env.scope.names.lookup x=some .local:=by walk_at"vi"):aJ M A (m8 X.env x u) Q E s:=by
 obtain⟨m,hn,hl⟩:=id I.loc;have hcls:(X.env.scope.kind == .class || (X.env.scope.kind == .module && X.env.locals != X.env.globals))=false:=by rw[I.ok.kind];rfl
 have hiY:i < Y.length:=by rw[I.len];exact(wI.mp hi).1
 have cne:=I.cne;have L:∀{a:aE}{h':aT},(∃o,s.heap.get? a=some o/\H a=none)->bF a s.heap h'->HOk X.prog X.w H h':=λ{a h'} ha g b ob e=>by
  obtain⟨_,_,U⟩:=ha;refine(I.hok b ob e).stay (λc w' O q=>(g.2 c ?_).trans q) (λ_ q=>q) λ_ _ q=>q;rintro rfl;rcases O with rfl|O
  ·rw[U]at e;cases e
  ·rw[U]at O;cases O
 rcases S with Z|Z
 ·refine wpAny_storeName_local Z hn (λh' hn' g=>?_) hcls;obtain⟨oL,_,_,hoL,_⟩:=id hn;refine h _ ⟨I.ok,I.os,I.bare,⟨λb o e n hb S=>?_,λb o e n hb S=>?_,I.base.free,λb o e S=>?_,I.base.tups,I.base.frzs,I.base.tbls⟩,⟨_,hn',λj y v' G W e3=>?_⟩,λy c e=>?_,I.free,I.freeC,λp hp=>?_,L ⟨oL,hoL,I.free⟩ g,by simpa using I.len⟩ ⟨_,g,.inl rfl⟩
  ·exact(g.2 b (wF (w9 (vZ e) I.ok.above))).trans (I.base.keep b o e n hb S)
  ·obtain⟨sl,G⟩:=I.base.slot b o e n hb S;exact⟨sl,(g.2 b (wF (w9 (vZ e) I.ok.above))).trans G⟩
  ·obtain⟨o',G⟩:=I.base.there b o e S;exact⟨o',(g.2 b (wF (w9 (vZ e) I.ok.above))).trans G⟩
  ·by_cases hj:j=i
   ·subst hj;rw[hi]at G;cases G;rw[xN hiY]at W;cases W;exact⟨u,r,.inl ⟨Z,by simp⟩⟩
   ·rw[xX (Ne.symm hj)]at W;obtain⟨u',r',q⟩:=hl j y v' G W e3;refine⟨u',r',?_⟩;rcases q with⟨k,e⟩|⟨k,c,e,z⟩
    ·refine .inl ⟨k,?_⟩;have:y≠x:=λe=>hj (zfp hN G (e ▸ hi));simp[this,e]
    ·exact .inr ⟨k,c,e,z.sameBut g (cne y c e)⟩
  ·obtain⟨w',z⟩:=I.cell y c e;exact⟨w',z.sameBut g (cne y c e)⟩
  ·obtain⟨e,n,ne,nf,d⟩:=I.pin p hp;exact⟨(g.2 p.1 ne).trans e,n,ne,nf,d⟩
 ·have hfn:X.fn x=true:=by
   rcases hf with z|z
   ·exact z
   ·rw[z]at Z;cases Z
  obtain⟨c,O⟩:=I.ok.has x (.inl Z);obtain⟨w',z⟩:=I.cell x c O;refine wpAny_storeName_cell I.ok.kind Z O z (λh' hc' g=>?_);obtain⟨oc,hoc,hocd⟩:=id z;refine h { s with heap:=h' } ⟨I.ok,I.os,I.bare,⟨λb o e n hb S=>?_,λb o e n hb S=>?_,I.base.free,λb o e S=>?_,I.base.tups,I.base.frzs,I.base.tbls⟩,⟨m,hn.sameBut g (Ne.symm (cne x c O)),λj y v' G W e3=>?_⟩,λy c' e=>?_,I.free,I.freeC,λp hp=>?_,L ⟨oc,hoc,I.freeC x c O⟩ g,by simpa using I.len⟩ ⟨c,g,.inr O⟩
  ·exact(g.2 b (wF (w9 (vZ e) (I.ok.cab x c hfn O)))).trans (I.base.keep b o e n hb S)
  ·obtain⟨sl,G⟩:=I.base.slot b o e n hb S;exact⟨sl,(g.2 b (wF (w9 (vZ e) (I.ok.cab x c hfn O)))).trans G⟩
  ·obtain⟨o',G⟩:=I.base.there b o e S;exact⟨o',(g.2 b (wF (w9 (vZ e) (I.ok.cab x c hfn O)))).trans G⟩
  ·by_cases hj:j=i
   ·subst hj;rw[hi]at G;cases G;rw[xN hiY]at W;cases W;exact⟨u,r,.inr ⟨.inl Z,c,O,hc'⟩⟩
   ·rw[xX (Ne.symm hj)]at W;obtain⟨u',r',q⟩:=hl j y v' G W e3;refine⟨u',r',?_⟩;rcases q with q|⟨k,c',e,z'⟩
    ·exact .inl q
    ·refine .inr ⟨k,c',e,z'.sameBut g ?_⟩;rintro rfl;exact hj (zfp hN G (I.ok.inj _ _ _ e O ▸ hi))
  ·by_cases hcc:c'=c
   ·subst hcc;exact⟨_,hc'⟩
   ·obtain⟨w2,z2⟩:=I.cell y c' e;exact⟨w2,z2.sameBut g hcc⟩
  ·obtain⟨e,n,ne,nf,d⟩:=I.pin p hp;refine⟨(g.2 p.1 ?_).trans e,n,ne,nf,d⟩;intro q;rw[q,hoc]at e;have q':oc=p.2:=w8.inj e;exact d w' (by rw[<- q'];exact hocd)
theorem zbi{M:Model}{A:a7}{E:aA->aG->Prop}{v:V}{Q:Unit->aG->Prop}(I:Inv X pins Y H s)(m:X.N.Nodup)(hi:X.N[i]?=some x)(g:Loc X.env.scope x)(r:RelV v u)
  (h:∀s',Inv X pins (Y.set i (some v)) H s'->Q () s') (hf:X.fn x=true \/ X.env.scope.names.lookup x=some .local:=by walk_at"vi"):aJ M A (m8 X.env x u) Q E s :=
 ztk I m hi g r (λs' p _=>h s' p) hf
theorem Inv.call'{s':aG}(I:Inv X pins Y H s)(y:s'.os=s.os)(u:Un (frs X.stack) ch H H' s.heap s'.heap)(g:HOk X.prog X.w H' s'.heap)(z:eV s'.gens)
  (m:∀b∈ch,(b∈X.ex \/ X.s₀.heap.objs.size<=b)/\b≠X.env.locals/\(∀x c,X.env.cells.lookup x=some c->c≠b)/\∀p∈X.pn++pins,p.1≠b):Inv X pins Y H' s':=by
 obtain⟨h',g',d',t',q⟩:=s';have e:q=s.os:=y;subst e;exact I.call (g':=g') (t':=t') (d':=d') u g z m
end
abbrev XK:=aA->Option aE->Hp->Prop
abbrev St:=List (Option V)
abbrev VK:=V->Hp->Prop
abbrev TE:=St->Hp->VK->Prop
abbrev TT:=St->Hp->(Bool->Hp->Prop)->Prop
abbrev TA:=St->Hp->(List V->Hp->Prop)->Prop
structure Ends where
 nx:St->Hp->Prop
 rt:VK
 bk:St->Hp->Prop:=λ_ _=>False
 ct:St->Hp->Prop:=λ_ _=>False
abbrev TS:=Ends->St->Hp->Prop
def EP(X:Cx)(pins:List (aE×Obj))(Y:St)(Q:VK)(u:aA)(s':aG):Prop:=∃v H',Inv X pins Y H' s'/\RelV v u/\Q v H'
def TP(X:Cx)(pins:List (aE×Obj))(Y:St)(Q:Bool->Hp->Prop)(b:Bool)(s':aG):Prop:=∃H',Inv X pins Y H' s'/\Q b H'
def AP(X:Cx)(pins:List (aE×Obj))(Y:St)(Q:List V->Hp->Prop)(us:List aA)(s':aG):Prop:=∃vs H',Inv X pins Y H' s'/\Vals vs us/\Q vs H'
def SP(X:Cx)(pins:List (aE×Obj))(D:Ends)(f:Flow)(s':aG):Prop :=
 match f with
|.next=>∃g H',Inv X pins g H' s'/\D.nx g H'
|.brk=>∃g H',Inv X pins g H' s'/\D.bk g H'
|.cont=>∃g H',Inv X pins g H' s'/\D.ct g H'
|.ret u=>∃v g H',Inv X pins g H' s'/\RelV v u/\D.rt v H'
def PE(X:Cx)(e:aX)(t:TE):Prop :=
 ∀(pins:List (aE×Obj))(s:aG)(Y:St)(H:Hp)(Q:VK),Inv X pins Y H s->t Y H Q->aJ (aM X.prog X.w) X.A (bA e X.env) (EP X pins Y Q) X.xe s
def PT(X:Cx)(e:aX)(t:TT):Prop :=
 ∀(pins:List (aE×Obj))(s:aG)(Y:St)(H:Hp)(Q:Bool->Hp->Prop),Inv X pins Y H s->t Y H Q->aJ (aM X.prog X.w) X.A (iX e X.env (bA e X.env)) (TP X pins Y Q) X.xe s
def PW(X:Cx)(e:aX)(t:TT):Prop :=
 ∀(g:Sem aA)(pins:List (aE×Obj))(s:aG)(Y:St)(H:Hp)(Q:Bool->Hp->Prop),Inv X pins Y H s->t Y H Q->aJ (aM X.prog X.w) X.A (iX e X.env g) (TP X pins Y Q) X.xe s
theorem PW.pt{X:Cx}{e:aX}{t:TT}(h:PW X e t):PT X e t:=h _
def PA(X:Cx)(es:List aX)(t:TA):Prop :=
 ∀(pos:Pos)(pins:List (aE×Obj))(s:aG)(Y:St)(H:Hp)(Q:List V->Hp->Prop),Inv X pins Y H s->t Y H Q->aJ (aM X.prog X.w) X.A (spliced (b9 pos (aS es X.env))) (AP X pins Y Q) X.xe s
def PS(X:Cx)(st:dR)(t:TS):Prop :=
 ∀(pins:List (aE×Obj))(s:aG)(Y:St)(H:Hp)(D:Ends),Inv X pins Y H s->t D Y H->aJ (aM X.prog X.w) X.A (exec st X.env) (SP X pins D) X.xe s
def PSs(X:Cx)(st:List dR)(t:TS):Prop :=
 ∀(pins:List (aE×Obj))(s:aG)(Y:St)(H:Hp)(D:Ends),Inv X pins Y H s->t D Y H->aJ (aM X.prog X.w) X.A (execs st X.env) (SP X pins D) X.xe s
theorem thn{α:Type}{t:Sem α}{Q g:α->aG->Prop}(h:aJ M A t Q E s)(m:∀a s,Q a s->g a s):aJ M A t g E s:=dD h m λ_ _ x=>x
section
variable {X:Cx}
def tVar(i:Nat):TE:=λY H Q=>∃v,Y[i]?=some (some v)/\Q v H
def tC(v:V):TE:=λ_ H Q=>Q v H
theorem zpc1{pos:Pos}(L:X.N[i]?=some x)(B:Vis X.env.scope x)(hd:(x == ("__debug__":Str))=false:=by decide)(y:(x == ("__classdict__":Str))=false:=by decide):PE X (.Name x pos) (tVar i):=by
 walk_at"1";obtain⟨v,e,h⟩:=h;obtain⟨m,G,hl⟩:=I.loc;obtain⟨u,r,l⟩:=hl i x v L e B;have q:EP X pins Y Q u s:=⟨v,H,I,r,h⟩
 rcases l with⟨p,J⟩|⟨p,c,z,g⟩
 ·exact l7 (iN I.ok.kind p G J q) hd
 ·rcases p with p|p
  ·exact l7 (iU I.ok.kind p z g q) hd
  ·exact l7 (wpAny_loadName_free I.ok.kind p z g q y) hd
theorem ze0{i j pos}:PE X (.Constant (.int i) j pos) (tC (.int i)):=λ_ _ _ H _ I h=>wpAny_Constant_int ⟨.int i,H,I.tok _,⟨_,rfl⟩,h⟩
theorem zom{b j pos}:PE X (.Constant (.bool b) j pos) (tC (.bl b)):=λ_ _ _ H _ I h=>Constant_bool ⟨.bl b,H,I,rfl,h⟩
theorem zzg{j pos}:PE X (.Constant .none j pos) (tC .non):=λ_ _ _ H _ I h=>Constant_none ⟨.non,H,I,rfl,h⟩
theorem zi5{x j pos}:PE X (.Constant (.str x) j pos) (tC (.str x)):=λ_ _ _ H _ I h=>Calls.Constant_str ⟨.str x,H,I.tok _,⟨_,rfl⟩,h⟩
def Gl(X:Cx)(x:Str):Prop:=X.env.kindOf x=some .globalImplicit
theorem zzq{E:aA->aG->Prop}{Y:St}{H:Hp}{pos:Pos}{Q:aA->aG->Prop}(I:Inv X pins Y H s)(m:Gl X x)(g:X.mg x=some u)(h:Q u s)
  (hd:(x == ("__debug__":Str))=false:=by decide):aJ (aM X.prog X.w) X.A (bA (.Name x pos) X.env) Q E s :=
 Calls.Name_function_global I.ok.kind m (Calls.loadGlobal_global (by rw[I.ok.glob];exact I.mod.glob.keeps I.bk) g h) hd
theorem zkh{E:aA->aG->Prop}{Y:St}{H:Hp}{pos:Pos}{Q:aA->aG->Prop}(I:Inv X pins Y H s)(q:Gl X x)(p:X.mg x=none)(g:a8 x=some u)(h:Q u s)
  (m:x ≠ "__name__":=by decide) (hd:(x == ("__debug__":Str))=false:=by decide):aJ (aM X.prog X.w) X.A (bA (.Name x pos) X.env) Q E s:=by
 obtain⟨B,z,y⟩:=I.mod.blt;exact Calls.Name_function_global I.ok.kind q (Calls.loadGlobal_builtin (by rw[I.ok.glob];exact I.mod.glob.keeps I.bk) p (by rw[I.ok.blt];exact z.keeps I.bk) ((y x m).trans g) h) hd
theorem zl6{v:V}{pos:Pos}(m:Gl X x)(g:X.mg x=some u)(r:RelV v u)(hd:(x == ("__debug__":Str))=false:=by decide):PE X (.Name x pos) (tC v) :=
 λ_ _ _ H _ I h=>zzq I m g ⟨v,H,I,r,h⟩ hd
theorem zod{v:V}{pos:Pos}(q:Gl X x)(p:X.mg x=none)(g:a8 x=some u)(r:RelV v u)(m:x ≠ "__name__":=by decide)(hd:(x == ("__debug__":Str))=false:=by decide):PE X (.Name x pos) (tC v) :=
 λ_ _ _ H _ I h=>zkh I q p g ⟨v,H,I,r,h⟩ m hd
variable {a b:aX}{ta tb:TE}{pos:Pos}
variable {tA tB':TT}{rest:List aX}
def tAnd(t u:TT):TT:=λY H Q=>t Y H λc g=>if c=true then u Y g Q else Q false g
def tOr(t u:TT):TT:=λY H Q=>t Y H λc g=>if c=true then Q true g else u Y g Q
def tNot(t:TT):TT:=λY H Q=>t Y H λc g=>Q (!c) g
theorem zdh(g:PT X a tA):PW X (.BoolOp .And [a] pos) tA:=by
 intro m pins s Y H Q I h;refine isTrue_and (thn (g pins s Y H Q I h) λc s1 e=>?_);cases c with
|true=>exact isTrue_and_nil e
|false=>exact e
theorem zgf(g:PT X a tA):PW X (.BoolOp .Or [a] pos) tA:=by
 intro m pins s Y H Q I h;refine isTrue_or (thn (g pins s Y H Q I h) λc s1 e=>?_);cases c with
|false=>exact isTrue_or_nil e
|true=>exact e
theorem zao(z:PT X a tA)(y:PW X (.BoolOp .And (b :: rest) pos) tB'):PW X (.BoolOp .And (a :: b :: rest) pos) (tAnd tA tB'):=by
 intro q pins s Y H Q I h;refine isTrue_and (thn (z pins s Y H _ I h) λc s1 hz=>?_);obtain⟨p,m,g⟩:=hz;cases c with
|true=>exact y q pins s1 Y p Q m g
|false=>exact⟨p,m,g⟩
theorem zog(z:PT X a tA)(y:PW X (.BoolOp .Or (b :: rest) pos) tB'):PW X (.BoolOp .Or (a :: b :: rest) pos) (tOr tA tB'):=by
 intro q pins s Y H Q I h;refine isTrue_or (thn (z pins s Y H _ I h) λc s1 hz=>?_);obtain⟨p,m,g⟩:=hz;cases c with
|true=>exact⟨p,m,g⟩
|false=>exact y q pins s1 Y p Q m g
theorem zsb(g:PT X a tA):PT X (.UnaryOp .Not a pos) (tNot tA):=by
 walk_at"1";exact isTrue_not (g pins s Y H (λc m=>Q (!c) m) I h)
def zdi1(ta tb:TE):TE:=λY H Q=>ta Y H λx g=>∃c,x=.bl c/\if c=true then tb Y g Q else Q (.bl false) g
def zrh1(ta:TE):TE:=λY H Q=>ta Y H λx g=>∃c,x=.bl c/\Q (.bl (!c)) g
theorem zn31{op}{t:TE}(h:PE X a t):PE X (.BoolOp op [a] pos) t:=λpins s Y H Q I hw=>BoolOp_one (h pins s Y H Q I hw)
theorem zl01(z:PE X a ta)(y:PE X (.BoolOp .And (b :: rest) pos) tb):PE X (.BoolOp .And (a :: b :: rest) pos) (zdi1 ta tb):=by
 walk_at"1";refine BoolOp_and (thn (z pins s Y H _ I h) λv s1 hz=>?_);obtain⟨x,p,m,q,g⟩:=hz;obtain⟨c,rfl,g⟩:=g;cases q;refine cZ ?_;cases c with
|true=>exact y pins s1 Y p Q m g
|false=>exact⟨.bl false,p,m,rfl,g⟩
theorem zhc1(p:PE X a ta):PE X (.UnaryOp .Not a pos) (zrh1 ta):=by
 walk_at"1";refine UnaryOp_ (thn (p pins s Y H _ I h) λv s1 hz=>?_);obtain⟨x,y,q,m,g⟩:=hz;obtain⟨c,rfl,g⟩:=g;cases m;exact not_of (cZ ⟨.bl (!c),y,q,rfl,g⟩)
def tIf(t:TT)(ta tb:TE):TE:=λY H Q=>t Y H λc g=>if c=true then ta Y g Q else tb Y g Q
theorem zzh{c:aX}(q:PT X c tA)(z:PE X a ta)(y:PE X b tb):PE X (.IfExp c a b pos) (tIf tA ta tb):=by
 walk_at"1";refine wpAny_IfExp (thn (q pins s Y H _ I h) λd s1 hz=>?_);obtain⟨p,m,g⟩:=hz;cases d with
|true=>exact z pins s1 Y p Q m g
|false=>exact y pins s1 Y p Q m g
end
def SqL(K:Fg)(H:Hp)(a:aE)(xs:List V):Prop :=
 Rd H a (.lst xs) \/
  ∃(o:Obj)(its:Array aA)(n:Nat),K.lookup a=some o/\o.cls=.type "list"/\o.dict=none/\o.data=.seq its n/\its.size<=sizeLine/\Vals xs its.toList
def SqT(K:Fg)(H:Hp)(a:aE)(xs:List V):Prop :=
 Rd H a (.tup xs) \/
  ∃(o:Obj)(its:Array aA)(n:Nat),K.lookup a=some o/\o.cls=.type "tuple"/\o.data=.seq its n/\its.size<=sizeLine/\Vals xs its.toList
def absV:aA->Option V
|.none=>some .non
|.bool b=>some (.bl b)
|.int i _=>some (.int i)
|.str x _=>some (.str x)
|.bytes b _=>some (.byt b)
|.float b _=>some (.flt b)
|.ref a=>some (.ref a)
|.type n=>some (.ty n)
|_=>none
theorem RelV.abs{x:V}(r:RelV x u):absV u=some x:=by
 cases x with
|non=>cases r;rfl
|bl _=>cases r;rfl
|int _=>obtain⟨t,rfl⟩:=r;rfl
|str _=>obtain⟨t,rfl⟩:=r;rfl
|byt _=>obtain⟨t,rfl⟩:=r;rfl
|flt _=>obtain⟨t,rfl⟩:=r;rfl
|ref _=>cases r;rfl
|ty _=>cases r;rfl
theorem RelV.inj{x y:V}{u:aA}(r:RelV x u)(q:RelV y u):x=y:=w8.inj (r.abs.symm.trans q.abs)
theorem Vals.inj:∀{xs ys:List V}{us:List aA},Vals xs us->Vals ys us->xs=ys
|_,_,_,.nil,.nil=>rfl
|_,_,_,.cons r t,.cons r' t'=>by rw[r.inj r',Vals.inj t t']
section
variable {X:Cx}{pins:List (aE×Obj)}{Y:St}{H:Hp}{s:aG}{a:aE}{xs ys:List V}
theorem SqL.of(h:H a=some (.lst xs)):SqL K H a xs:=.inl (.inl h)
theorem SqT.of(h:H a=some (.tup xs)):SqT K H a xs:=.inl (.inl h)
theorem Inv.list(I:Inv X pins Y H s)(h:SqL X.K H a xs):∃its:List aA,Vals xs its/\PlainL s.heap a its.toArray/\xs.length<=sizeLine:=by
 rcases h with h|⟨o,its,n,m,p,hd,g,hz,r⟩
 ·obtain⟨z,its,n,r,e⟩:=h.ok I.hok;exact⟨its,r,⟨_,n,e,rfl,rfl,rfl⟩,z⟩
 ·refine⟨its.toList,r,⟨o,n,I.kIn a o m,p,hd,by simpa using g⟩,?_⟩;have e:=r.length;simp only[wY]at e;lia
theorem Inv.tuple(I:Inv X pins Y H s)(h:SqT X.K H a xs):∃its:List aA,Vals xs its/\nH s.heap a its.toArray/\xs.length<=sizeLine:=by
 rcases h with h|⟨o,its,n,m,q,g,hz,r⟩
 ·obtain⟨z,its,r,p⟩:=h.ok I.hok;exact⟨its,r,p,z⟩
 ·refine⟨its.toList,r,⟨o,I.kIn a o m,q,n,by simpa using g⟩,?_⟩;have e:=r.length;simp only[wY]at e;lia
theorem Inv.list_inj(I:Inv X pins Y H s)(h:SqL X.K H a xs)(h':SqL X.K H a ys):xs=ys:=by
 obtain⟨its,r,⟨o,n,e,_,_,d⟩,_⟩:=I.list h;obtain⟨its',m,⟨q,y,g,_,_,d'⟩,_⟩:=I.list h';rw[e]at g;cases g;rw[d]at d';injection d' with p _;have:its=its':=by simpa using congrArg j5 p
 subst this;exact r.inj m
theorem Inv.tuple_inj(I:Inv X pins Y H s)(h:SqT X.K H a xs)(h':SqT X.K H a ys):xs=ys:=by
 obtain⟨its,r,⟨o,e,_,n,d⟩,_⟩:=I.tuple h;obtain⟨its',m,⟨q,g,_,y,d'⟩,_⟩:=I.tuple h';rw[e]at g;cases g;rw[d]at d';injection d' with p _;have:its=its':=by simpa using congrArg j5 p
 subst this;exact r.inj m
end
abbrev Cx.wish(X:Cx)(E:aA->aG->Prop):Cx:={ X with xe:=E }
abbrev Cx.nox(X:Cx):Cx:=X.wish λ_ _=>False
theorem Cx.Ok.wish{X:Cx}(ok:X.Ok)(E:aA->aG->Prop):(X.wish E).Ok :=
 ⟨ok.mod,ok.kind,ok.glob,ok.blt,ok.above,ok.inj,ok.has,ok.cab,ok.hd,ok.frames,ok.stk,ok.exf,ok.bs,ok.bsz,ok.noex,ok.exfs,ok.funs,ok.frf⟩
theorem Cx.Ok.unwish{X:Cx}(ok:(X.wish E).Ok):X.Ok :=
 ⟨ok.mod,ok.kind,ok.glob,ok.blt,ok.above,ok.inj,ok.has,ok.cab,ok.hd,ok.frames,ok.stk,ok.exf,ok.bs,ok.bsz,ok.noex,ok.exfs,ok.funs,ok.frf⟩
section
variable {X:Cx}{pins:List (aE×Obj)}{Y:St}{H:Hp}{s:aG}{E:aA->aG->Prop}
theorem Inv.wish(I:Inv X pins Y H s)(E:aA->aG->Prop):Inv (X.wish E) pins Y H s:=⟨I.ok.wish E,I.os,I.bare,I.base,I.loc,I.cell,I.free,I.freeC,I.pin,I.hok,I.len⟩
theorem Inv.unwish(I:Inv (X.wish E) pins Y H s):Inv X pins Y H s:=⟨I.ok.unwish,I.os,I.bare,I.base,I.loc,I.cell,I.free,I.freeC,I.pin,I.hok,I.len⟩
theorem SP.unwish{D:Ends}{f:Flow}{s':aG}(h:SP (X.wish E) pins D f s'):SP X pins D f s':=by
 cases f with
|next=>obtain⟨g,H',I,q⟩:=h;exact⟨g,H',I.unwish,q⟩
|brk=>obtain⟨g,H',I,q⟩:=h;exact⟨g,H',I.unwish,q⟩
|cont=>obtain⟨g,H',I,q⟩:=h;exact⟨g,H',I.unwish,q⟩
|ret u=>obtain⟨v,g,H',I,r,q⟩:=h;exact⟨v,g,H',I.unwish,r,q⟩
theorem PSs.nox{st:List dR}{t:TS}(h:PSs X.nox st t):PSs X st t:=λpins s Y H D I hw =>
 dD (h pins s Y H D (I.wish _) hw) (λ_ _ q=>q.unwish) λ_ _ z=>False.elim z
end
section
variable {X:Cx}{st:dR}{rest:List dR}{t u:TS}{e:aX}{te:TE}{pos:Pos}
def zng1:TS:=λD Y H=>D.nx Y H
def tSeq(t u:TS):TS:=λD Y H=>t { D with nx:=u D } Y H
theorem zl1:PSs X [] zng1:=λ_ _ Y H _ I h=>fG ⟨Y,H,I,h⟩
theorem zd0(m:PS X st t)(g:PSs X rest u):PSs X (st :: rest) (tSeq t u):=by
 walk_at"5";refine lV (thn (m pins s Y H { D with nx:=u D } I h) λf s1 q=>?_);cases f with
|next =>
  obtain⟨p,H',y,q⟩:=q;exact g pins s1 p H' D y q
|ret v=>exact q
|brk=>exact q
|cont=>exact q
theorem zj0(g:PS X st t):PSs X [st] t:=by
 walk_at"5";refine lV (thn (g pins s Y H D I h) λf s1 q=>?_);cases f with
|next=>exact fG q
|ret v=>exact q
|brk=>exact q
|cont=>exact q
theorem Inv.quiet{Y:St}{H:Hp}(I:Inv X pins Y H s):interactive X.env=false:=by simp[interactive,I.ok.kind]
def zbi1(te:TE):TS:=λD Y H=>te Y H λ_ g=>D.nx Y g
theorem zk2(p:PE X e te)(m:gY e none pos.line X.env=pure false:=by rfl):PS X (.Expr e pos) (zbi1 te):=by
 walk_at"5";exact wpAny_Expr_any (thn (p pins s Y H _ I h) λv s1 ⟨x,y,q,z,g⟩=>⟨Y,y,q,g⟩) I.quiet m
def tRet(te:TE):TS:=λD Y H=>te Y H D.rt
theorem za1(p:PE X e te):PS X (.Return (some e) pos) (tRet te):=by
 walk_at"5";exact wpAny_Return_some (thn (p pins s Y H _ I h) λv s1 ⟨x,y,q,g,m⟩=>⟨x,Y,y,q,g,m⟩)
def tIfS(c:TT)(t u:TS):TS:=λD Y H=>c Y H λb g=>if b=true then t D Y g else u D Y g
theorem zv6{c:aX}{a b:List dR}{g:TT}(y:PT X c g)(B:PSs X a t)(z:PSs X b u):PS X (.If c a b pos) (tIfS g t u):=by
 walk_at"5";refine wpAny_If (thn (y pins s Y H _ I h) λd s1 hz=>?_);obtain⟨q,p,m⟩:=hz;cases d with
|true=>exact B pins s1 Y q D p m
|false=>exact z pins s1 Y q D p m
end
abbrev TG:=V->St->Hp->(St->Hp->Prop)->Prop
abbrev TGs:=List V->St->Hp->(St->Hp->Prop)->Prop
def PG(X:Cx)(g:aX)(t:TG):Prop :=
 ∀(pins:List (aE×Obj))(s:aG)(Y:St)(H:Hp)(v:V)(u:aA)(Q:St->Hp->Prop),Inv X pins Y H s->RelV v u->t v Y H Q ->
  aJ (aM X.prog X.w) X.A (fW g X.env u) (λ_ s'=>∃m H',Inv X pins m H' s'/\Q m H') X.xe s
def PGs(X:Cx)(ts:List aX)(t:TGs):Prop :=
 ∀(pins:List (aE×Obj))(s:aG)(Y:St)(H:Hp)(vs:List V)(us:List aA)(Q:St->Hp->Prop),Inv X pins Y H s->Vals vs us->t vs Y H Q ->
  aJ (aM X.prog X.w) X.A (assignInOrder ((dZ ts X.env).map (·.2)) us) (λ_ s'=>∃g H',Inv X pins g H' s'/\Q g H') X.xe s
abbrev TSet:=V->V->V->Hp->(Hp->Prop)->Prop
def PSet(X:Cx)(t:TSet):Prop :=
 ∀(pins:List (aE×Obj))(s:aG)(Y:St)(H:Hp)(o i v:V)(g m u:aA)(Q:Hp->Prop),Inv X pins Y H s->RelV o g->RelV i m->RelV v u->t o i v H Q ->
  aJ (aM X.prog X.w) X.A (mR g m u) (λ_ s'=>∃H',Inv X pins Y H' s'/\Q H') X.xe s
abbrev TIp:=V->V->Hp->VK->Prop
def PIp(X:Cx)(op:Operator)(t:TIp):Prop :=
 ∀(pins:List (aE×Obj))(s:aG)(Y:St)(H:Hp)(x y:V)(v u:aA)(Q:VK),Inv X pins Y H s->RelV x v->RelV y u->t x y H Q ->
  aJ (aM X.prog X.w) X.A (inplaceOp op v u) (EP X pins Y Q) X.xe s
section
variable {X:Cx}{pos:Pos}
def zjw(i:Nat):TG:=λv Y H Q=>Q (Y.set i (some v)) H
theorem zp71(m:X.N.Nodup)(hi:X.N[i]?=some x)(g:Loc X.env.scope x)(hf:X.fn x=true \/ X.env.scope.names.lookup x=some .local:=by walk_at"vi"):PG X (.Name x pos) (zjw i):=by
 walk_at"35";exact lH (zbi I m hi g r (λs' p=>⟨_,H,p,h⟩) hf)
def gNil:TGs:=λvs Y H Q=>vs=[]/\Q Y H
def zoh1(t:TG)(u:TGs):TGs:=λvs Y H Q=>∃v r,vs=v :: r/\t v Y H λg H'=>u r g H' Q
theorem za7:PGs X [] gNil:=by
 walk_at"33";obtain⟨e,h⟩:=h;subst e;cases r;exact assignInOrder_nil ⟨Y,H,I,h⟩
theorem zp1{e:aX}{t:TG}{u:TGs}(y:PG X e t)(q:PGs X es u)
  (p:(dZ (e :: es) X.env).map (·.2)=fW e X.env :: (dZ es X.env).map (·.2):=by rfl):PGs X (e :: es) (zoh1 t u):=by
 walk_at"33";obtain⟨v,L,z,h⟩:=h;subst z;cases r with
|cons r g =>
  rw[p];refine assignInOrder_cons (thn (y pins s Y H _ _ _ I r h) λ_ s1 hz=>?_);obtain⟨B,J,G,m⟩:=hz;exact q pins s1 B J _ _ Q G g m
def gTup(K:Fg)(n:Nat)(t:TGs):TG:=λv Y H Q=>∃a xs,v=.ref a/\SqT K H a xs/\xs.length=n/\t xs Y H Q
theorem ztc1{k:Nat}{t:TGs}(z:X.calm=true)(h:PGs X es t)
  (y:(dZ es X.env).length=n:=by rfl) (g:(dZ es X.env).findIdx? (·.1)=none:=by rfl):PG X (.Tuple es k pos) (gTup X.K n t):=by
 intro pins s Y H v u Q I r hw;obtain⟨a,xs,B,q,hl,hw⟩:=hw;subst B;cases r;obtain⟨its,rv,p,hz⟩:=I.tuple q;refine assign_Tuple_tuple (I.ok.hd z) p (by simp[y,<- hl,rv.length]) g λh' m=>?_;have G:Inv X pins Y H { s with heap:=h' }:=I.kept (t':=s.toks) λb o e=>m b o (wF (vZ e)) e;exact h pins _ Y H xs _ Q G (by simpa using rv) hw
def gSub(g ti:TE)(t:TSet):TG:=λv Y H Q=>g Y H λo p=>ti Y p λi H2=>t o i v H2 λm=>Q Y m
theorem znv{o i:aX}{p ti:TE}{t:TSet}(O:PE X o p)(hi:PE X i ti)(L:PSet X t)
  (S:∀v,fW (.Subscript o i pos) X.env v=(do
   let g <- dJ [v] (bA o X.env)
   let m <- dJ [v,g] (bA i X.env)
   eS pos
   dJ [v,g,m] (mR g m v)
   release [v,g,m] []):=by intro _;rfl):PG X (.Subscript o i pos) (gSub p ti t):=by
 walk_at"35";rw[S];refine aC (bL (thn (O pins s Y H _ I h) λg s1 hz=>?_));obtain⟨x,H1,Z,z,J⟩:=hz;refine aC (bL (thn (hi pins s1 Y H1 _ Z J) λm s2 hz=>?_));obtain⟨y,H2,W,q,G⟩:=hz;refine aC (f6 (aC (bL (thn (L pins s2 Y H2 x y v g m u _ W z q r G) λ_ s3 hz=>?_))));obtain⟨H3,U,B⟩:=hz;exact wpAny_release ⟨Y,H3,U,B⟩
def tAsg(m:TE)(g:TG):TS:=λD Y H=>m Y H λx p=>g x Y p D.nx
theorem zgv{e:aX}{m:TE}{g:TG}(G:PE X e m)(B:PG X tg g)(z:swapsWithSole [tg] e pos.line X.env=pure false:=by rfl)(hw:swappedStores [tg] e X.env=pure none:=by rfl)
  (J:(dZ [tg] X.env).map (·.2)=[fW tg X.env]:=by rfl):PS X (.Assign [tg] e pos) (tAsg m g):=by
 walk_at"5";refine wpAny_Assign_stores (thn (G pins s Y H _ I h) λv s1 hz=>?_) z hw;obtain⟨x,O,L,p,y⟩:=hz;rw[J];exact thn (B pins s1 Y O x v _ L p y) λ_ s2 q=>q
theorem zpe1{e:aX}{g:TE}(L:X.N.Nodup)(hi:X.N[i]?=some x)(q:Loc X.env.scope x)(G:PE X e g)(z:gY e (some (.Name x pos')) pos.line X.env=pure false:=by rfl)(hf:X.fn x=true \/ X.env.scope.names.lookup x=some .local:=by walk_at"vi") :
  PS X (.Assign [.Name x pos'] e pos) (tAsg g (zjw i)):=by
 walk_at"5";refine wpAny_Assign_Name (thn (G pins s Y H _ I h) λv s1 hz=>?_) z;obtain⟨y,U,S,m,p⟩:=hz;exact zbi S L hi q m (λs2 O=>⟨_,U,O,p⟩) hf
def tAug(i:Nat)(g:TE)(ti:TIp):TS:=λD Y H=>∃x,Y[i]?=some (some x)/\g Y H λy m=>ti x y m λz H2=>D.nx (Y.set i (some z)) H2
theorem zz71{e:aX}{L:TE}{ti:TIp}{pos':Pos}(hN:X.N.Nodup)(hi:X.N[i]?=some x)(q:Loc X.env.scope x)(he:PE X e L)(Z:PIp X op ti)(hf:X.fn x=true \/ X.env.scope.names.lookup x=some .local:=by walk_at"vi") :
  PS X (.AugAssign (.Name x pos') op e pos) (tAug i L ti):=by
 walk_at"5";obtain⟨v,e1,h⟩:=h;obtain⟨m,hn,hl⟩:=I.loc;have G:Vis X.env.scope x:=by rcases q with k|k;exact .inl k;exact .inr (.inl k)
 obtain⟨u,r,l⟩:=hl i x v hi e1 G;refine wpAny_AugAssign_Name ?_;have go:aJ (aM X.prog X.w) X.A (bA e X.env) (λw s₂=>aJ (aM X.prog X.w) X.A (inplaceOp op u w) (λr s₃=>aJ (aM X.prog X.w) X.A (m8 X.env x r) (λ_=>SP X pins D .next) X.xe s₃) X.xe s₂) X.xe s:=by
  refine thn (he pins s Y H _ I h) λw s1 hz=>?_;obtain⟨y,H1,I1,S,W⟩:=hz;refine thn (Z pins s1 Y H1 v y u w _ I1 r S W) λz s2 hz=>?_;obtain⟨zv,H2,I2,O,U⟩:=hz;exact zbi I2 hN hi q O (λs3 I3=>⟨_,H2,I3,U⟩) hf
 rcases l with⟨g,hm⟩|⟨g,c,hc,p⟩
 ·exact iN I.ok.kind g hn hm go
 ·rcases g with g|g
  ·exact iU I.ok.kind g hc p go
  ·rcases q with k|k
   ·have:X.env.scope.names.lookup x=some .free:=g;rw[k]at this;cases this
   ·have:X.env.scope.names.lookup x=some .free:=g;rw[k]at this;cases this
def zzh1(q ti B:TE)(m:V->V->Hp->VK->Prop)(p:TIp)(g:TSet):TS:=λD Y H=>q Y H λo O=>ti Y O λi H2=>m o i H2 λx L=>B Y L λy J=>p x y J λz I=>g o i z I λG=>D.nx Y G
def PGet(X:Cx)(t:V->V->Hp->VK->Prop):Prop :=
 ∀(pins:List (aE×Obj))(s:aG)(Y:St)(H:Hp)(o i:V)(g m:aA)(Q:VK),Inv X pins Y H s->RelV o g->RelV i m->t o i H Q ->
  aJ (aM X.prog X.w) X.A (fO g m) (EP X pins Y Q) X.xe s
theorem ztg{o i e:aX}{B ti G:TE}{m:V->V->Hp->VK->Prop}{y:TIp}{g:TSet}{z:Pos}(ho:PE X o B)(hi:PE X i ti)(hg:PGet X m)(he:PE X e G)(hp:PIp X op y)(hs:PSet X g)
  (ha:∀p q new,augStore i p q new=(do dJ [new,p,q] (mR p q new);release [new,p,q] [];pure .next):=by intros;rfl):PS X (.AugAssign (.Subscript o i z) op e pos) (zzh1 B ti G m y g):=by
 walk_at"5";refine wpAny_AugAssign_SubscriptAny (thn (ho pins s Y H _ I h) λp s1 hz=>?_) ha;obtain⟨x1,H1,I1,L,q1⟩:=hz;refine thn (hi pins s1 Y H1 _ I1 q1) λq s2 hz=>?_;obtain⟨x2,H2,I2,J,q2⟩:=hz;refine thn (hg pins s2 Y H2 x1 x2 p q _ I2 L J q2) λold s3 hz=>?_;obtain⟨x3,H3,I3,r3,q3⟩:=hz;refine thn (he pins s3 Y H3 _ I3 q3) λv W hz=>?_;obtain⟨S,H4,I4,r4,q4⟩:=hz;refine thn (hp pins W Y H4 x3 S old v _ I4 r3 r4 q4) λnew U hz=>?_;obtain⟨O,H5,I5,Z,q5⟩:=hz;exact thn (hs pins U Y H5 x1 x2 O p q new _ I5 L J Z q5) λ_ s6 ⟨H6,I6,q6⟩=>⟨Y,H6,I6,q6⟩
def ipI(f:Int->Int->Int):TIp:=λx y H Q=>∃i j,x=.int i/\y=.int j/\Q (.int (f i j)) H
theorem zuq:PIp X .Add (ipI λi j=>i+j):=by
 walk_at"9";obtain⟨i,j,z,p,q⟩:=h;subst z;subst p;obtain⟨t,rfl⟩:=m;obtain⟨t',rfl⟩:=g;exact iadd_int ⟨.int _,H,I.tok _,⟨_,rfl⟩,q⟩
theorem zga1:PIp X .Sub (ipI λi j=>i - j):=by
 walk_at"9";obtain⟨i,j,z,p,q⟩:=h;subst z;subst p;obtain⟨t,rfl⟩:=m;obtain⟨t',rfl⟩:=g;exact isub_int ⟨.int _,H,I.tok _,⟨_,rfl⟩,q⟩
def zx71(c:TT)(y:TS):TS:=λD Y H=>∃W:Nat->St->Hp->Prop,(∃m,W m Y H)/\∀m Y H,W m Y H ->
 c Y H λb q=>if b=true then ∃N:St->Hp->Prop,(∀p H',N p H'->∃g,g < m/\W g p H')/\y { D with nx:=N,ct:=N,bk:=D.nx } Y q else D.nx Y q
theorem zv9{c:aX}{S:TT}{U:TS}(Z:PassesOwn (aM X.prog X.w) X.A X.env X.xe)(hc:PT X c S)(hb:PSs X body U):PS X (.While c body [] pos) (zx71 S U):=by
 walk_at"5";obtain⟨W,⟨m0,w0⟩,p⟩:=h;refine wpAny_While (codeAny_whileLoop (λn s'=>∃Y' H',Inv X pins Y' H' s'/\W n Y' H') ?_ m0 ⟨Y,H,I,w0⟩);rintro n s1 ⟨z,H1,I1,w1⟩;refine cQ Z (thn (hc pins s1 z H1 _ I1 (p n z H1 w1)) λb s2 hz=>?_);obtain⟨H2,I2,y⟩:=hz;cases b with
|true =>
  obtain⟨N,hN,y⟩:=y;rw[aH rfl];refine cQ Z (thn (hb pins s2 z H2 _ I2 y) λf s3 q=>?_);cases f with
 |next =>
   obtain⟨g,m,O,G⟩:=q;obtain⟨J,L,B⟩:=hN g m G;exact⟨J,L,g,m,O,B⟩
 |cont =>
   obtain⟨g,m,O,G⟩:=q;obtain⟨J,L,B⟩:=hN g m G;exact⟨J,L,g,m,O,B⟩
 |brk=>exact q
 |ret v=>exact q
|false =>
  rw[aF wA];exact fG ⟨z,H2,I2,y⟩
end
structure It where
 go:Nat->Hp->Prop
 yld:Nat->Hp->V->Hp->Prop
 stop:Nat->Hp->Prop
def FpOk(X:Cx)(pins:List (aE×Obj))(H:Hp)(b:aE):Prop :=
 H b=none/\b≠X.env.locals/\b ∉ X.fs/\(b∈X.ex \/ X.s₀.heap.objs.size<=b)/\(∀x c,X.env.cells.lookup x=some c->c≠b)/\∀p∈X.pn++pins,p.1≠b
theorem Inv.fpOk{X:Cx}{Y:St}{H H':Hp}(I:Inv X pins Y H s)(g:s.heap.objs.size<=b)(y:H' b=none):FpOk X pins H' b:=by
 refine⟨y,y3 (w9 I.lt g),I.nofs g,.inr (wX I.sz g),λx c e z=>?_,λp m z=>?_⟩
 ·obtain⟨v,q⟩:=I.cell x c e;exact aL (w9 q.lt (by rw[z];exact g)) (xB _)
 ·exact aL (w9 (vZ (I.pin p m).1) (by rw[z];exact g)) (xB _)
structure Turn(P:aN)(w:aP)(K:Fg)(tg:aX)(J:It)(fp:List aE)(it:aE)(tn:Nat->aT->Prop):Prop where
 mem:it∈fp
 obj:∀i h,tn i h->∀b∈fp,∃o,h.get? b=some o/\∀v,o.data≠.cell v
 keep:∀i h h',tn i h->(∀b∈fp,∀o,h.get? b=some o->h'.get? b=some o)->tn i h'
 item:∀(X:Cx),X.prog=P->X.w=w->X.K=K->X.calm=true->∀(i:Nat)(pins:List (aE×Obj))(s:aG)(Y:St)(H:Hp)(E:aA->aG->Prop),Inv X pins Y H s->(∀b∈fp,FpOk X pins H b)->tn i s.heap->J.go i H ->
  aJ (aM P w) X.A (dU (.ref it)) (λr s1=>∃u,r=some u /\
   aJ (aM P w) X.A (fH tg (.ref it) u) (λ_ s2=>∃x H',Inv X pins Y H' s2/\RelV x u/\J.yld i H x H'/\tn (i+1) s2.heap/\∀b∈fp,H' b=none) E s1) E s
 done:∀(X:Cx),X.prog=P->X.w=w->X.K=K->X.calm=true->∀(i:Nat)(pins:List (aE×Obj))(s:aG)(Y:St)(H:Hp)(E:aA->aG->Prop),Inv X pins Y H s->(∀b∈fp,FpOk X pins H b)->tn i s.heap->J.stop i H ->
  aJ (aM P w) X.A (dU (.ref it)) (λr s1=>r=none/\Inv X pins Y H s1) E s
 self:∀(A:a7)(i:Nat)(s:aG)(Q:aA->aG->Prop)(E:aA->aG->Prop),tn i s.heap->Q (.ref it) s->aJ (aM P w) A (gH (.ref it)) Q E s
abbrev TI:=St->Hp->(It->Hp->Prop)->Prop
def PIE(X:Cx)(pins:List (aE×Obj))(Y:St)(tg:aX)(R:It->Hp->Prop)(g:aA)(s2:aG):Prop :=
 ∃(it:aE)(fp:List aE)(m:Nat->aT->Prop)(J:It)(H':Hp),g=.ref it/\Inv X pins Y H' s2/\Turn X.prog X.w X.K tg J fp it m/\m 0 s2.heap/\(∀b∈fp,FpOk X pins H' b)/\R J H'
def PI(X:Cx)(tg iter:aX)(g:TI):Prop :=
 ∀(pins:List (aE×Obj))(s:aG)(Y:St)(H:Hp)(R:It->Hp->Prop),Inv X pins Y H s->g Y H R ->
  aJ (aM X.prog X.w) X.A (bA iter X.env) (λv s1=>aJ (aM X.prog X.w) X.A (gH v) (PIE X pins Y tg R) X.xe s1) X.xe s
theorem zwb1{E : aA → aG → Prop}{n : String}{vs : Array aA}{Q : Unit → aG → Prop}(m : s.heap.get? it = some o)(q : o.cls = .type n)(hd : o.data = .fields vs)
    (p : ["enumerate", "zip", "dict_itemiterator", "dict_reverseitemiterator", "odict_iterator", "itertools.zip_longest", "itertools.pairwise"].contains n = false) (g : Q () s) : aJ M A (fH tg (.ref it) u) Q E s := by
  unfold fH;cases tg <;> first
    | exact aI g
    | (cases u <;> first
        | exact aI g
        | (refine aC (wpAny_load m ?_)
           rw[q, hd];show aJ M A (if(["enumerate", "zip", "dict_itemiterator", "dict_reverseitemiterator", "odict_iterator", "itertools.zip_longest", "itertools.pairwise"].contains n && vs[0]? == some (eK _)) = true then _ else _) Q E s;rw[aF (by intro h; rw[p, Bool.false_and]at h; cases h)];exact aI g))
def Itl(K:Fg)(a:aE):It :=
 ⟨λi H=>∃xs x,SqL K H a xs/\xs[i]?=some x,λi H x H'=>H'=H/\∀xs,SqL K H a xs->xs[i]?=some x,λi H=>∃xs,SqL K H a xs/\xs.length<=i⟩
def Itt(K:Fg)(a:aE):It :=
 ⟨λi H=>∃xs x,SqT K H a xs/\xs[i]?=some x,λi H x H'=>H'=H/\∀xs,SqT K H a xs->xs[i]?=some x,λi H=>∃xs,SqT K H a xs/\xs.length<=i⟩
def Itr(lo:Int)(n:Nat):It:=⟨λi _=>i < n,λi H x H'=>H'=H/\x=.int (lo+i),λi _=>n<=i⟩
theorem zsw{P:aN}(a it:aE):Turn P w K tg (Itl K a) [it] it (λi h=>h.IsListIter it a i) where
 mem:=by simp
 obj:=λi h st b g=>by
  have e:b=it:=by simpa using g
  subst e;obtain⟨o,e,c,d⟩:=st;exact⟨o,e,λv z=>by rw[d]at z;cases z⟩
 keep:=λi h h' st k=>st.at λo e=>k it (by simp) o e
 item:=by
  walk_at"8";subst G hw J;obtain⟨xs,x,q,y⟩:=B;obtain⟨its,rv,p,hz⟩:=I.list q;obtain⟨u,hu,ru⟩:=rv.get y;obtain⟨W,U,f2,S,O,L⟩:=hf it (by simp);refine hU st p.isList (x:=u) (by simpa using hu) λh' m sb=>?_;have I1:Inv X pins Y H { s with heap:=h' }:=I.turned (t':=s.toks) (λb o g e=>(sb.2 b g).trans e) W U S O L;obtain⟨o,e,c,d⟩:=id m;exact⟨u,rfl,zwb1 (s:={ s with heap:=h' }) e c d (by decide) ⟨x,H,I1,ru,⟨rfl,λys hy=>by rw[I.list_inj hy q];exact y⟩,m,λb g=>(hf b g).1⟩⟩
 done:=by
  walk_at"8";subst G hw J;obtain⟨xs,q,y⟩:=B;obtain⟨its,rv,p,hz⟩:=I.list q;obtain⟨W,U,f2,S,O,L⟩:=hf it (by simp);have hl:=rv.length;exact iC (I.ok.hd Z) st p.isList (by simp;lia) λh' eb=>⟨rfl,I.turned (t':=s.toks) (λb o g e=>eb b o g e) W U S O L⟩
 self:=λ_ _ _ _ _ st h=>wpAny_pyIter_listiter st h
theorem zyr{P:aN}(a it:aE):Turn P w K tg (Itt K a) [it] it (λi h=>h.IsTupleIter it a i) where
 mem:=by simp
 obj:=λi h st b g=>by
  have e:b=it:=by simpa using g
  subst e;obtain⟨o,e,c,d⟩:=st;exact⟨o,e,λv z=>by rw[d]at z;cases z⟩
 keep:=λi h h' st k=>st.at λo e=>k it (by simp) o e
 item:=by
  walk_at"8";subst G hw J;obtain⟨xs,x,q,y⟩:=B;obtain⟨its,rv,p,hz⟩:=I.tuple q;obtain⟨u,hu,ru⟩:=rv.get y;obtain⟨W,U,f2,S,O,L⟩:=hf it (by simp);refine wpAny_pyNext_tuple_item st (show s.heap.IsTuple a its.toArray from p) (x:=u) (by simpa using hu) λh' m sb=>?_;have I1:Inv X pins Y H { s with heap:=h' }:=I.turned (t':=s.toks) (λb o g e=>(sb.2 b g).trans e) W U S O L;obtain⟨o,e,c,d⟩:=id m;exact⟨u,rfl,zwb1 (s:={ s with heap:=h' }) e c d (by decide) ⟨x,H,I1,ru,⟨rfl,λys hy=>by rw[I.tuple_inj hy q];exact y⟩,m,λb g=>(hf b g).1⟩⟩
 done:=by
  walk_at"8";subst G hw J;obtain⟨xs,q,y⟩:=B;obtain⟨its,rv,p,hz⟩:=I.tuple q;obtain⟨W,U,f2,S,O,L⟩:=hf it (by simp);have hl:=rv.length;exact wpAny_pyNext_tuple_end (I.ok.hd Z) st (show s.heap.IsTuple a its.toArray from p) (by simp;lia) λh' eb=>⟨rfl,I.turned (t':=s.toks) (λb o g e=>eb b o g e) W U S O L⟩
 self:=λ_ _ _ _ _ st h=>wpAny_pyIter_tupleiter st h
theorem zdq{P:aN}(it:aE)(lo:Int)(n:Nat):Turn P w K tg (Itr lo n) [it] it (λi h=>IsRangeIter h it (lo+(i:Nat) * 1) ((n:Int) - (i:Nat)) 1) where
 mem:=by simp
 obj:=λi h st b g=>by
  have e:b=it:=by simpa using g
  subst e;exact⟨_,st,λv z=>by
   have U:Data.fields _=Data.cell v:=z;cases U⟩
 keep:=λi h h' st k=>k it (by simp) _ st
 item:=by
  walk_at"22";subst y hw B;obtain⟨S,O,f2,L,J,G⟩:=hf it (by simp);have W:=Walks.range (prog:=X.prog) (w:=X.w) (I.ok.hd q) it lo 1 n;refine W.item i s _ _ p st λv h' tk hv m Z=>?_;obtain⟨t,rfl⟩:=hv;have I1:Inv X pins Y H { s with heap:=h',toks:=tk }:=I.turned (λb o g e=>Z b o (by simpa using g) e) S O L J G;refine⟨_,rfl,zwb1 (s:={ s with heap:=h',toks:=tk }) (n := "range_iterator") m rfl rfl (by decide) ⟨.int (lo+i),H,I1,⟨t,?_⟩,⟨rfl,rfl⟩,m,λb g=>(hf b g).1⟩⟩;rw[Int.mul_one]
 done:=by
  walk_at"22";subst y hw B;obtain⟨S,O,f2,L,J,G⟩:=hf it (by simp);exact wpAny_pyNext_range_end (I.ok.hd q) st (by have:n<=i:=p;lia) λh' eb=>⟨rfl,I.turned (t':=s.toks) (λb o g e=>eb b o g e) S O L J G⟩
 self:=λ_ _ _ _ _ st h=>wpAny_pyIter_rangeiter st h
section
variable {X:Cx}{tg:aX}
theorem zds{Y:St}{H:Hp}{R:It->Hp->Prop}{lo hi:Int}{t u v:Tok}{tk:Nat}(I:Inv X pins Y H s)(B:-(2 ^ 62)<=lo)(z:lo < 2 ^ 62)(y:-(2 ^ 62)<=hi)(p:hi < 2 ^ 62)
  (q:R (Itr lo (hi - lo).toNat) H):aJ (aM X.prog X.w) X.A (gH (.ref s.heap.objs.size)) (PIE X pins Y tg R) E { s with heap:=s.heap.push { cls:=.type "range",data:=.fields #[.int lo t,.int hi u,.int 1 v] },toks:=tk }:=by
 refine wpAny_pyIter_range (IsRange.new ..) (small_one B z y p) ?_;have g:Inv X pins Y H { s with heap:=s.heap.push { cls:=.type "range",data:=.fields #[.int lo t,.int hi u,.int 1 v] },toks:=tk }:=I.kept λb o e=>vU _ e;refine⟨(s.heap.push { cls:=.type "range",data:=.fields #[.int lo t,.int hi u,.int 1 v] }).objs.size,[(s.heap.push { cls:=.type "range",data:=.fields #[.int lo t,.int hi u,.int 1 v] }).objs.size],_,_,H,rfl,
  g.kept (t':=tk) λb o e=>vU _ e,zdq _ lo (hi - lo).toNat,?_,λb m=>?_,q⟩
 ·have J:lo+((0:Nat):Int) * 1=lo:=by simp
  have G:(((hi - lo).toNat:Nat):Int) - ((0:Nat):Int)=Builtin.Range.rangeSize lo hi 1:=by rw[rangeSize_one];split <;> lia
  show IsRangeIter _ _ (lo+((0:Nat):Int) * 1) ((((hi - lo).toNat:Nat):Int) - ((0:Nat):Int)) 1;rw[J,G];exact v7 _ rfl
 ·have e:b=(s.heap.push { cls:=.type "range",data:=.fields #[.int lo t,.int hi u,.int 1 v] }).objs.size:=by simpa using m
  subst e;exact g.fpOk (u7 _) (g.hok.fresh (u7 _))
def zwh1(g:TA):TI:=λY H R=>g Y H λvs m=>∃j:Int,vs=[.int j]/\-(2 ^ 62)<=j/\j < 2 ^ 62/\R (Itr 0 j.toNat) m
def zsg1(g:TA):TI:=λY H R=>g Y H λvs m=>∃i j:Int,vs=[.int i,.int j]/\(-(2 ^ 62)<=i/\i < 2 ^ 62/\-(2 ^ 62)<=j/\j < 2 ^ 62)/\R (Itr i (j - i).toNat) m
theorem zy1{a:aX}{m:TA}{p pos:Pos}(L:Gl X "range")(J:X.mg "range"=none)(O:PA X [a] m)(G:aS [a] X.env=[(false,bA a X.env)]:=by rfl):PI X tg (.Call (.Name "range" p) [a] [] pos) (zwh1 m):=by
 walk_at"13";refine Call_ (zkh I L J boot_range (b7 (thn (O pos pins s Y H _ I h) λus s1 hz=>?_) G rfl));obtain⟨vs,U,S,z,g⟩:=hz;obtain⟨j,e,g,B,q⟩:=g;subst e;cases z with
|cons r y =>
  cases y;obtain⟨t,rfl⟩:=r;exact call_range_1 (zds S (by lia) (by lia) g B (by simpa using q))
theorem zdw{a b:aX}{z:TA}{p pos:Pos}(W:Gl X "range")(U:X.mg "range"=none)(Z:PA X [a,b] z)(S:aS [a,b] X.env=[(false,bA a X.env),(false,bA b X.env)]:=by rfl)(g:aS [b] X.env=[(false,bA b X.env)]:=by rfl) :
  PI X tg (.Call (.Name "range" p) [a,b] [] pos) (zsg1 z):=by
 walk_at"13";refine Call_ (zkh I W U boot_range (b7 (thn (Z pos pins s Y H _ I h) λus s1 hz=>?_) (by rw[S,g]) (by rw[g];rfl)));obtain⟨vs,H1,I1,B,y⟩:=hz;obtain⟨i,j,e,⟨y,O,L,J⟩,q⟩:=y;subst e;cases B with
|cons r m =>
  cases m with
 |cons G m =>
   cases m;obtain⟨t,rfl⟩:=r;obtain⟨t',rfl⟩:=G;exact call_range_2 (zds I1 y O L J q)
def tFor(y:TI)(g:TG)(z:TS):TS:=λD Y H=>y Y H λJ G=>∃W:Nat->Nat->St->Hp->Prop,(∃m,W 0 m Y G)/\∀i m Y H,W i m Y H ->
 (J.stop i H/\D.nx Y H) \/ (J.go i H/\∃N:St->Hp->Prop,(∀q H',N q H'->∃p,p < m/\W (i+1) p q H')/\∀x H',J.yld i H x H'->g x Y H' λB H2=>z { D with nx:=N,ct:=N,bk:=D.nx } B H2)
def ztq(fp:List aE)(h:aT):List (aE×Obj):=fp.filterMap λb=>(h.get? b).map λo=>(b,o)
theorem zo9{h:aT}(g:b∈fp)(e:h.get? b=some o):(b,o)∈ztq fp h:=yP.mpr ⟨b,g,by rw[e];rfl⟩
theorem ziv{h:aT}{p:aE×Obj}(g:p∈ztq fp h):p.1∈fp/\h.get? p.1=some p.2:=by
 obtain⟨b,m,e⟩:=yP.mp g;cases q:h.get? b with
|none=>rw[q]at e;cases e
|some o =>
  rw[q]at e;have y:(b,o)=p:=w8.inj e;subst y;exact⟨m,q⟩
theorem Inv.pinned{Y:St}{H:Hp}(I:Inv X pins Y H s)(hf:∀b∈fp,FpOk X pins H b)(y:∀b∈fp,∃o,s.heap.get? b=some o/\∀v,o.data≠.cell v):Inv X (pins++ztq fp s.heap) Y H s :=
 I.pins_of λp q=>(vX.mp q).elim (λz=>I.pin p (xC _ z)) λz=>by
  obtain⟨g,e⟩:=ziv z;obtain⟨J,G,B,_⟩:=hf p.1 g;obtain⟨o,m,d⟩:=y p.1 g;rw[e]at m;cases m;exact⟨e,J,G,B,d⟩
theorem Inv.unpinned{pl:List (aE×Obj)}{Y:St}{H:Hp}(I:Inv X (pins++pl) Y H s):Inv X pins Y H s:=I.pins_of λp g=>I.pin p (xC _ (xQ _ g))
theorem zo5{iter:aX}{wi:TI}{g:TG}{tb:TS}{pos:Pos}(S:PassesOwn (aM X.prog X.w) X.A X.env X.xe)(hc:X.calm=true)(hi:PI X tg iter wi)(hg:PG X tg g)(p:PSs X body tb)
  (hs:∀x,f9 iter X.env x=pure x:=by intro _;rfl):PS X (.For tg iter body [] pos) (tFor wi g tb):=by
 walk_at"5";refine wpAny_For (thn (hi pins s Y H _ I h) λv s1 h1=>thn h1 λitv s2 h2=>?_) hs;obtain⟨it,fp,tn,J,H2,e,I2,T,st2,f2,W,⟨m0,w0⟩,turn⟩:=h2;subst e
 -- what stays true of the iterator's objects through the loop
 have B:∀{H':Hp},(∀b∈fp,H' b=none)->∀b∈fp,FpOk X pins H' b:=λhn b p=>⟨hn b p,(f2 b p).2⟩
 refine codeAny_forLoop_any (λn s'=>∃i Z H',Inv X pins Z H' s'/\tn i s'.heap/\(∀b∈fp,H' b=none)/\W i n Z H') ?_ m0 ⟨0,Y,H2,I2,st2,λb p=>(f2 b p).1,w0⟩;rintro n s3 ⟨i,U,H3,I3,st3,fr3,w3⟩;rcases turn i n U H3 w3 with⟨stop,qn⟩|⟨go,N,hN,step⟩
 ·refine cQ S (thn (T.done X rfl rfl rfl hc i pins s3 U H3 X.xe I3 (B fr3) st3 stop) λr s4 hz=>?_);obtain⟨hr,I4⟩:=hz;subst hr;exact fG ⟨U,H3,I4,qn⟩
 ·refine cQ S (thn (T.item X rfl rfl rfl hc i pins s3 U H3 X.xe I3 (B fr3) st3 go) λr s4 hz=>?_);obtain⟨u,hr,h4⟩:=hz;subst hr;refine cQ S (thn h4 λ_ s5 hz=>?_);obtain⟨x,H5,I5,r5,y5,L,fr5⟩:=hz;have I5':=I5.pinned (B fr5) (T.obj _ _ L);refine cQ S (thn (hg _ s5 U H5 x u _ I5' r5 (step x H5 y5)) λ_ s6 hz=>?_);obtain⟨Y6,H6,I6,q6⟩:=hz;refine cQ S (thn (p _ s6 Y6 H6 _ I6 q6) λf s7 G=>?_);have again:∀{q:St}{z:Hp},Inv X (pins++ztq fp s5.heap) q z s7->N q z->∃m,m < n/\∃i Z H',Inv X pins Z H' s7/\tn i s7.heap/\(∀b∈fp,H' b=none)/\W i m Z H':=λ{q z} y O=>by
   obtain⟨m',hm,w7⟩:=hN q z O;refine⟨m',hm,i+1,q,z,y.unpinned,T.keep _ _ _ L λb p o e=>(y.pin (b,o) (xC _ (xC _ (zo9 p e)))).1,λb p=>?_,w7⟩;obtain⟨o,e,d⟩:=T.obj _ _ L b p;exact(y.pin (b,o) (xC _ (xC _ (zo9 p e)))).2.1
  cases f with
 |next=>obtain⟨q,z,y,O⟩:=G;exact again y O
 |cont=>obtain⟨q,z,y,O⟩:=G;exact again y O
 |brk=>obtain⟨q,z,y,G⟩:=G;exact⟨q,z,y.unpinned,G⟩
 |ret v=>obtain⟨x7,q,z,y,r7,G⟩:=G;exact⟨x7,q,z,y.unpinned,r7,G⟩
end
abbrev R2:=V->V->Hp->VK->Prop
def OpR(X:Cx)(f:aA->aA->Sem aA)(r:R2):Prop :=
 ∀(pins:List (aE×Obj))(s:aG)(Y:St)(H:Hp)(x y:V)(v u:aA)(Q:VK),Inv X pins Y H s->RelV x v->RelV y u->r x y H Q ->
  aJ (aM X.prog X.w) X.A (f v u) (EP X pins Y Q) X.xe s
def UnR(X:Cx)(f:aA->Sem aA)(r:V->Hp->VK->Prop):Prop :=
 ∀(pins:List (aE×Obj))(s:aG)(Y:St)(H:Hp)(x:V)(v:aA)(Q:VK),Inv X pins Y H s->RelV x v->r x H Q ->
  aJ (aM X.prog X.w) X.A (f v) (EP X pins Y Q) X.xe s
def CallR(X:Cx)(f:aA)(r:List V->Hp->VK->Prop):Prop :=
 ∀(pins:List (aE×Obj))(s:aG)(Y:St)(H:Hp)(xs:List V)(us:List aA)(Q:VK),Inv X pins Y H s->Vals xs us->r xs H Q ->
  aJ (aM X.prog X.w) X.A (call f us) (EP X pins Y Q) X.xe s
def TruR(X:Cx)(r:V->Hp->(Bool->Hp->Prop)->Prop):Prop :=
 ∀(pins:List (aE×Obj))(s:aG)(Y:St)(H:Hp)(x:V)(v:aA)(Q:Bool->Hp->Prop),Inv X pins Y H s->RelV x v->r x H Q ->
  aJ (aM X.prog X.w) X.A (truthy v) (TP X pins Y Q) X.xe s
def tOp(r:R2)(m g:TE):TE:=λY H Q=>m Y H λx p=>g Y p λy H2=>r x y H2 Q
def tUn(r:V->Hp->VK->Prop)(g:TE):TE:=λY H Q=>g Y H λx m=>r x m Q
def rI(C:Int->Int->Prop)(g:Int->Int->V):R2:=λx y H Q=>∃i j,x=.int i/\y=.int j/\C i j/\Q (g i j) H
def rI0(g:Int->Int->V):R2:=λx y H Q=>∃i j,x=.int i/\y=.int j/\Q (g i j) H
def rU(g:Int->V):V->Hp->VK->Prop:=λx H Q=>∃i,x=.int i/\Q (g i) H
section
variable {X:Cx}{a b c:aX}{ta tb tc:TE}{pos:Pos}
theorem binT(G:PE X a ta)(B:PE X b tb){Y:St}{H:Hp}{R:V->V->Hp->Prop}(I:Inv X pins Y H s)
  (h:ta Y H λx g=>tb Y g λy H2=>R x y H2) {Q:aA->aG->Prop} 
  (hf:∀v u s2 x y H2,Inv X pins Y H2 s2->RelV x v->RelV y u->R x y H2->aJ (aM X.prog X.w) X.A (f v u) Q X.xe s2) :
  aJ (aM X.prog X.w) X.A (bA a X.env) (λv s₁=>aJ (aM X.prog X.w) X.A (bA b X.env) (λu s₂=>aJ (aM X.prog X.w) X.A (f v u) Q X.xe s₂) X.xe s₁) X.xe s:=by
 refine thn (G pins s Y H _ I h) λv s1 hz=>?_;obtain⟨x,g,L,p,z⟩:=hz;refine thn (B pins s1 Y g _ L z) λu s2 hz=>?_;obtain⟨y,H2,J,m,q⟩:=hz;exact hf v u s2 x y H2 J p m q
theorem zj1{r:R2}(p:OpR X (bR op) r)(B:PE X a ta)(z:PE X b tb):PE X (.BinOp a op b pos) (tOp r ta tb):=by
 walk_at"1";exact wpAny_BinOp (binT B z I h λv u s2 x y H2 G m g q=>p pins s2 Y H2 x y v u Q G m g q)
theorem zgj1{op:UnaryOp}{r:V->Hp->VK->Prop}(p:UnR X (unaryOp op) r)(q:PE X a ta):PE X (.UnaryOp op a pos) (tUn r ta):=by
 walk_at"1";exact UnaryOp_ (thn (q pins s Y H _ I h) λv s1 ⟨x,z,y,g,m⟩=>p pins s1 Y z x v Q y g m)
theorem opI{f:aA->aA->Sem aA}{C:Int->Int->Prop}{g:Int->Int->Int}
  (rule:∀(i j:Int)(t u:Tok)(s:aG)(Q:aA->aG->Prop)(E:aA->aG->Prop),C i j->Q (.int (g i j) s.toks) { s with toks:=s.toks+1 }->aJ (aM X.prog X.w) X.A (f (.int i t) (.int j u)) Q E s) :
  OpR X f (rI C λi j=>.int (g i j)):=by
 walk_at"15";obtain⟨i,j,rfl,rfl,z,q⟩:=h;obtain⟨t,rfl⟩:=p;obtain⟨t',rfl⟩:=m;exact rule i j t t' s _ _ z ⟨.int (g i j),H,I.tok _,⟨_,rfl⟩,q⟩
theorem opI0{f:aA->aA->Sem aA}{g:Int->Int->Int}
  (rule:∀(i j:Int)(t u:Tok)(s:aG)(Q:aA->aG->Prop)(E:aA->aG->Prop),Q (.int (g i j) s.toks) { s with toks:=s.toks+1 }->aJ (aM X.prog X.w) X.A (f (.int i t) (.int j u)) Q E s) :
  OpR X f (rI0 λi j=>.int (g i j)):=by
 walk_at"15";obtain⟨i,j,rfl,rfl,q⟩:=h;obtain⟨t,rfl⟩:=p;obtain⟨t',rfl⟩:=m;exact rule i j t t' s _ _ ⟨.int (g i j),H,I.tok _,⟨_,rfl⟩,q⟩
theorem opB0{g:Int->Int->Bool}
  (rule:∀(i j:Int)(t u:Tok)(s:aG)(Q:aA->aG->Prop)(E:aA->aG->Prop),Q (.bool (g i j)) s->aJ (aM X.prog X.w) X.A (f (.int i t) (.int j u)) Q E s) :
  OpR X f (rI0 λi j=>.bl (g i j)):=by
 walk_at"15";obtain⟨i,j,rfl,rfl,q⟩:=h;obtain⟨t,rfl⟩:=p;obtain⟨t',rfl⟩:=m;exact rule i j t t' s _ _ ⟨.bl (g i j),H,I,rfl,q⟩
def CPow(i j:Int):Prop:=0<=j/\j<=1000000/\i.natAbs < 2 ^ 64
def CMul(i j:Int):Prop:=(-(2 ^ 64) < i/\i < 2 ^ 64) \/ (-(2 ^ 64) < j/\j < 2 ^ 64)
theorem CMul.ok{i j:Int}(h:CMul i j):IntMulOk i j:=by
 rcases h with⟨m,g⟩|⟨m,g⟩
 ·exact .of_left (intBits_le_64 m g)
 ·exact .of_right (intBits_le_64 m g)
theorem zce1:OpR X (bR .Add) (rI0 λi j=>.int (i+j)):=opI0 λ_ _ _ _ _ _ _ q=>add_int q
theorem zw9:OpR X (bR .Sub) (rI0 λi j=>.int (i - j)):=opI0 λ_ _ _ _ _ _ _ q=>sub_int q
theorem zed1:OpR X (bR .Mult) (rI CMul λi j=>.int (i * j)):=opI λ_ _ _ _ _ _ _ g q=>mul_int q g.ok
theorem zd3:OpR X (bR .Mod) (rI (λ_ j=>0 < j) λi j=>.int (i % j)):=opI λi j _ _ _ _ _ g q=>by
 have m:(0:Int) < j:=g;exact mod_int' (by lia) (by rw[uaS i (by lia)];exact q)
theorem zpp:OpR X (bR .Pow) (rI CPow λi j=>.int (i ^ j.toNat)):=opI λ_ _ _ _ _ _ _ g q=>pow_int_small g.1 g.2.1 g.2.2 q
theorem zn61:OpR X (bR .BitXor) (rI0 λi j=>.int (fU i j)):=opI0 λ_ _ _ _ _ _ _ q=>xor_int q
theorem unI{f:aA->Sem aA}{g:Int->Int}
  (rule:∀(i:Int)(t:Tok)(s:aG)(Q:aA->aG->Prop)(E:aA->aG->Prop),Q (.int (g i) s.toks) { s with toks:=s.toks+1 }->aJ (aM X.prog X.w) X.A (f (.int i t)) Q E s) :
  UnR X f (rU λi=>.int (g i)):=by
 intro pins s Y H x v Q I m h;obtain⟨i,rfl,q⟩:=h;obtain⟨t,rfl⟩:=m;exact rule i t s _ _ ⟨.int (g i),H,I.tok _,⟨_,rfl⟩,q⟩
theorem zfe1:UnR X (unaryOp .USub) (rU λi=>.int (-i)):=unI λ_ _ _ _ _ q=>neg_int q
end
def scal:V->V->Bool
|.non,.non=>true|.non,.int _=>true|.int _,.non=>true|.non,.bl _=>true|.bl _,.non=>true|.non,.str _=>true|.str _,.non=>true
|.int _,.int _=>true|.bl _,.bl _=>true|.str _,.str _=>true|.byt _,.byt _=>true
|.int _,.str _=>true|.str _,.int _=>true|.bl _,.str _=>true|.str _,.bl _=>true
|_,_=>false
def rEq:R2:=λx y H Q=>scal x y=true/\Q (.bl (decide (x=y))) H
def rNe:R2:=λx y H Q=>scal x y=true/\Q (.bl (!decide (x=y))) H
theorem zpg{i j:Int}:decide (V.int i=V.int j)=(i == j):=by
 rw[zH];simp
theorem zmt{i j:Bool}:decide (V.bl i=V.bl j)=(i == j):=by
 rw[zH];simp
theorem zbh{i j:Str}:decide (V.str i=V.str j)=(i == j):=by
 rw[zH];simp
theorem ziy{i j:Array UInt8}:decide (V.byt i=V.byt j)=(i.toList == j.toList):=by
 rw[zH];cases i;cases j;simp
section
variable {X:Cx}{a b c:aX}{ta tb tc:TE}{pos:Pos}
theorem zw1{Y:St}{H:Hp}{Q:VK}{k g:Bool}(I:Inv X pins Y H s)(q:Q (.bl k) H)(e:k=g):EP X pins Y Q (.bool g) s:=by
 subst e;exact⟨.bl k,H,I,rfl,q⟩
theorem zkj1:OpR X (a9 .Eq) rEq:=by
 walk_at"27";obtain⟨m,q⟩:=h;cases x with
|non =>
  cases p;cases y with
 |non=>cases g;exact PySem.EqNone.eq_none_none (zw1 I q (by simp))
 |bl j=>cases g;exact PySem.EqNone.eq_none_bool (zw1 I q (by simp))
 |int j=>obtain⟨t',rfl⟩:=g;exact PySem.EqNone.eq_none_int (zw1 I q (by simp))
 |str j=>obtain⟨t',rfl⟩:=g;exact PySem.EqNone.eq_none_str (zw1 I q (by simp))
 |_=>exact aL (show false=true from m) wA
|bl i =>
  cases p;cases y with
 |non=>cases g;exact PySem.EqNone.eq_bool_none (zw1 I q (by simp))
 |bl j=>cases g;exact eq_bool (zw1 I q zmt)
 |str j=>obtain⟨t',rfl⟩:=g;exact PySem.EqMixed.eq_bool_str (zw1 I q (by simp))
 |_=>exact aL (show false=true from m) wA
|int i =>
  obtain⟨t,rfl⟩:=p;cases y with
 |non=>cases g;exact PySem.EqNone.eq_int_none (zw1 I q (by simp))
 |int j=>obtain⟨t',rfl⟩:=g;exact eq_int (zw1 I q zpg)
 |str j=>obtain⟨t',rfl⟩:=g;exact PySem.EqMixed.eq_int_str (zw1 I q (by simp))
 |_=>exact aL (show false=true from m) wA
|str i =>
  obtain⟨t,rfl⟩:=p;cases y with
 |non=>cases g;exact PySem.EqNone.eq_str_none (zw1 I q (by simp))
 |bl j=>cases g;exact PySem.EqMixed.eq_str_bool (zw1 I q (by simp))
 |int j=>obtain⟨t',rfl⟩:=g;exact PySem.EqMixed.eq_str_int (zw1 I q (by simp))
 |str j=>obtain⟨t',rfl⟩:=g;exact eq_str (zw1 I q zbh)
 |_=>exact aL (show false=true from m) wA
|byt i =>
  obtain⟨t,rfl⟩:=p;cases y with
 |byt j=>obtain⟨t',rfl⟩:=g;exact PySem.W.eq_bytes (zw1 I q ziy)
 |_=>exact aL (show false=true from m) wA
|_=>cases y <;> exact aL (show false=true from m) wA
theorem zgi1:OpR X (a9 .NotEq) rNe:=by
 walk_at"27";obtain⟨m,q⟩:=h;cases x with
|non =>
  cases p;cases y with
 |non=>cases g;exact PySem.EqNone.ne_none_none (zw1 I q (by simp))
 |bl j=>cases g;exact PySem.EqNone.ne_none_bool (zw1 I q (by simp))
 |int j=>obtain⟨t',rfl⟩:=g;exact PySem.EqNone.ne_none_int (zw1 I q (by simp))
 |str j=>obtain⟨t',rfl⟩:=g;exact PySem.EqNone.ne_none_str (zw1 I q (by simp))
 |_=>exact aL (show false=true from m) wA
|bl i =>
  cases p;cases y with
 |non=>cases g;exact PySem.EqNone.ne_bool_none (zw1 I q (by simp))
 |bl j=>cases g;exact ne_bool (zw1 I q (congrArg not zmt))
 |str j=>obtain⟨t',rfl⟩:=g;exact PySem.EqMixed.ne_bool_str (zw1 I q (by simp))
 |_=>exact aL (show false=true from m) wA
|int i =>
  obtain⟨t,rfl⟩:=p;cases y with
 |non=>cases g;exact PySem.EqNone.ne_int_none (zw1 I q (by simp))
 |int j=>obtain⟨t',rfl⟩:=g;exact ne_int (zw1 I q (congrArg not zpg))
 |str j=>obtain⟨t',rfl⟩:=g;exact PySem.EqMixed.ne_int_str (zw1 I q (by simp))
 |_=>exact aL (show false=true from m) wA
|str i =>
  obtain⟨t,rfl⟩:=p;cases y with
 |non=>cases g;exact PySem.EqNone.ne_str_none (zw1 I q (by simp))
 |bl j=>cases g;exact PySem.EqMixed.ne_str_bool (zw1 I q (by simp))
 |int j=>obtain⟨t',rfl⟩:=g;exact PySem.EqMixed.ne_str_int (zw1 I q (by simp))
 |str j=>obtain⟨t',rfl⟩:=g;exact ne_str (zw1 I q (congrArg not zbh))
 |_=>exact aL (show false=true from m) wA
|byt i =>
  obtain⟨t,rfl⟩:=p;cases y with
 |byt j=>obtain⟨t',rfl⟩:=g;exact PySem.W.ne_bytes (zw1 I q (congrArg not ziy))
 |_=>exact aL (show false=true from m) wA
|_=>cases y <;> exact aL (show false=true from m) wA
theorem zov:OpR X (a9 .Lt) (rI0 λi j=>.bl (decide (i < j))):=opB0 λ_ _ _ _ _ _ _ q=>lt_int q
theorem zpj1:OpR X (a9 .LtE) (rI0 λi j=>.bl (decide (i<=j))):=opB0 λ_ _ _ _ _ _ _ q=>le_int q
theorem zxt:OpR X (a9 .Gt) (rI0 λi j=>.bl (decide (j < i))):=opB0 λ_ _ _ _ _ _ _ q=>gt_int q
theorem zha1:OpR X (a9 .GtE) (rI0 λi j=>.bl (decide (j<=i))):=opB0 λ_ _ _ _ _ _ _ q=>ge_int q
theorem zbw:OpR X (a9 .In) (λx y H Q=>∃i j,x=.str i/\y=.str j/\Q (.bl (!(Builtin.Str.occurrences j i 0 j.length 1).isEmpty)) H):=by
 walk_at"9";obtain⟨i,j,rfl,rfl,q⟩:=h;obtain⟨t,rfl⟩:=m;obtain⟨t',rfl⟩:=g;exact in_str (zw1 I q rfl)
theorem zme1:OpR X (a9 .Is) (λx y H Q=>y=.non/\Q (.bl (decide (x=.non))) H):=by
 walk_at"10";obtain⟨rfl,q⟩:=h;cases m;refine is_none_gen (zw1 I q ?_);cases x <;> first
 |(cases g;rfl)
 |(obtain⟨t,rfl⟩:=g;rfl)
theorem zir:OpR X (a9 .IsNot) (λx y H Q=>y=.non/\Q (.bl (!decide (x=.non))) H):=by
 walk_at"10";obtain⟨rfl,q⟩:=h;cases m;refine isnot_none_gen (zw1 I q ?_);cases x <;> first
 |(cases g;rfl)
 |(obtain⟨t,rfl⟩:=g;rfl)
theorem OpR.or{r p:R2}(h:OpR X f r)(h':OpR X f p):OpR X f (λx y H Q=>r x y H Q \/ p x y H Q):=by
 intro pins s Y H x y v u Q I m g q;rcases q with q|q
 ·exact h pins s Y H x y v u Q I m g q
 ·exact h' pins s Y H x y v u Q I m g q
theorem zf1(b:aX){op:CmpOp}(h:op≠.In:=by decide)(g:op≠.NotIn:=by decide):eQ op b=false:=by
 have p:(op == CmpOp.In)=false:=by cases op <;> first|rfl|exact aL rfl h
 have m:(op == CmpOp.NotIn)=false:=by cases op <;> first|rfl|exact aL rfl g
 cases b <;> simp[eQ,p,m]
theorem zld{op:CmpOp}{r:R2}(p:OpR X (a9 op) r)(G:PE X a ta)(B:PE X b tb)(z:eQ op b=false):PE X (.Compare a [op] [b] pos) (tOp r ta tb):=by
 walk_at"1";exact wpAny_Compare1 (binT G B I h λv u s2 x y H2 J m g q=>p pins s2 Y H2 x y v u Q J m g q) z
def zji1(t:TE):TT:=λY H Q=>t Y H λx H'=>∃k,x=.bl k/\Q k H'
theorem zoa1{op:CmpOp}{r:R2}(J:OpR X (a9 op) r)(S:PE X a ta)(O:PE X b tb)(L:eQ op b=false):PT X (.Compare a [op] [b] pos) (zji1 (tOp r ta tb)):=by
 walk_at"1";refine wpAny_isTrue_Compare1 (thn (S pins s Y H _ I h) λv s1 ⟨x,H1,Z,p,G⟩=>thn (O pins s1 Y H1 _ Z G) λu s2 ⟨y,H2,W,m,B⟩ =>
  thn (J pins s2 Y H2 x y v u _ W p m B) λc s3 hz=>?_) L
 obtain⟨z,H3,U,g,k,e,q⟩:=hz;subst e;cases g;exact cZ ⟨H3,U,q⟩
def TruV(K:Fg)(x:V)(H:Hp)(k:Bool):Prop :=
 match x with
|.non=>k=false
|.bl b=>k=b
|.int i=>k=(i != 0)
|.str y=>y.length<=sizeLine/\k=((y.length:Int) != 0)
|.byt y=>y.size<=sizeLine/\k=((y.size:Int) != 0)
|.ref p=>(∃xs,SqL K H p xs/\k=!xs.isEmpty) \/ (∃xs,SqT K H p xs/\k=!xs.isEmpty) \/ ∃kvs,H p=some (.dK kvs)/\k=!kvs.isEmpty
|_=>False
theorem zcs{κ:Type}{kvs:List (κ×V)}{vs:List (κ×aA)}(r:KV kvs vs):(!vs.isEmpty)=!kvs.isEmpty:=by
 cases r <;> rfl
theorem ztf{xs:List V}{its:List aA}(r:Vals xs its):(!its.toArray.isEmpty)=!xs.isEmpty:=by
 cases r <;> simp
theorem zei:(sizeLine:Nat) < 2 ^ 63:=by rw[aQ];decide
theorem zoc1:TruR X (λx H Q=>∃k,TruV X.K x H k/\Q k H):=by
 intro pins s Y H x v Q I B h;obtain⟨k,e,q⟩:=h;have hl:=zei;have O:sizeLine=16777216:=aQ;cases x with
|non =>
  cases B;have g:k=false:=e;subst g;exact truthy_none ⟨H,I,q⟩
|bl b =>
  cases B;have g:k=b:=e;subst g;exact cZ ⟨H,I,q⟩
|int i =>
  obtain⟨t,rfl⟩:=B;have g:k=(i != 0):=e;subst g;exact PySem.P.truthy_int ⟨H,I,q⟩
|str y =>
  obtain⟨t,rfl⟩:=B;obtain⟨J,g⟩:y.length<=sizeLine/\k=((y.length:Int) != 0):=e;subst g;exact PySem.P.truthy_str (by lia) ⟨H,I.tok _,q⟩
|byt y =>
  obtain⟨t,rfl⟩:=B;obtain⟨J,g⟩:y.size<=sizeLine/\k=((y.size:Int) != 0):=e;subst g;exact PySem.W.truthy_bytes (by lia) ⟨H,I.tok _,q⟩
|ref p =>
  cases B;have g:(∃xs,SqL X.K H p xs/\k=!xs.isEmpty) \/ (∃xs,SqT X.K H p xs/\k=!xs.isEmpty) \/ ∃kvs,H p=some (.dK kvs)/\k=!kvs.isEmpty:=e;rcases g with⟨xs,G,g⟩|⟨xs,G,g⟩|⟨kvs,G,g⟩
  ·subst g;obtain⟨its,r,pl,hz⟩:=I.list G;have z:=r.length;exact wpAny_truthy_list pl.isList (by simp only[v8];lia) ⟨H,I.tok _,by rw[ztf r];exact q⟩
  ·subst g;obtain⟨its,r,pl,hz⟩:=I.tuple G;have z:=r.length;exact truthy_tuple pl (by simp only[v8];lia) ⟨H,I.tok _,by rw[ztf r];exact q⟩
  ·subst g;obtain⟨hz,L,vs,r,m⟩:kvs.length<=sizeLine/\(p == cC)=false/\∃vs,KV kvs vs/\s.heap.DictOf (zr2 X.prog X.w) p vs:=I.hok p _ G;have z:kvs.length=vs.length:=eR r;exact wpAny_truthy_dict L m (by lia) ⟨H,I.tok _,by rw[zcs r];exact q⟩
|_=>exact(show False from e).elim
theorem zp01(y:PE X a ta)(q:∀g,iX a X.env g=(do let v <- g;eS a.pos;dJ [v] (truthy v))) :
  PT X a (λY H Q=>ta Y H λx H'=>∃k,TruV X.K x H' k/\Q k H'):=by
 walk_at"1";exact isTrue_plain (thn (y pins s Y H _ I h) λv s1 ⟨x,B,z,m,p⟩=>zoc1 pins s1 Y B x v Q z m p) (q _)
theorem zum:OpR X (bR .Add) (λx y H Q=>∃i j,x=.str i/\y=.str j/\i.length+j.length<=sizeLine/\Q (.str (i++j)) H):=by
 walk_at"9";obtain⟨i,j,rfl,rfl,hz,q⟩:=h;obtain⟨t,rfl⟩:=m;obtain⟨t',rfl⟩:=g;exact add_str (λt' tk=>⟨.str (i++j),H,I.tok _,⟨_,rfl⟩,q⟩) hz
theorem zwl{x:V}(r:Vals [x] us):∃u,us=[u]/\RelV x u:=by
 cases r with
|cons m g=>cases g;exact⟨_,rfl,m⟩
theorem zhb1{x y:V}(r:Vals [x,y] us):∃u g,us=[u,g]/\RelV x u/\RelV y g:=by
 cases r with
|cons z q =>
  cases q with
 |cons p m=>cases m;exact⟨_,_,rfl,z,p⟩
theorem zrw(m:X.calm=true):CallR X (.builtin "max") (λxs H Q=>∃i j,xs=[.int i,.int j]/\Q (.int (if j > i then j else i)) H):=by
 walk_at"3";obtain⟨i,j,rfl,q⟩:=h;obtain⟨u,p,rfl,⟨t,rfl⟩,⟨t',rfl⟩⟩:=zhb1 r;refine max_two_ints (I.ok.hd m) λh' tk k=>⟨_,H,I.kept k,?_,q⟩
 by_cases g:j > i
 ·rw[aH g,aH g];exact⟨_,rfl⟩
 ·rw[aF g,aF g];exact⟨_,rfl⟩
theorem zew:CallR X (.type "int") (λxs H Q=>(∃i,xs=[.int i]/\Q (.int i) H) \/ ∃k,xs=[.bl k]/\Q (.int (if k then 1 else 0)) H):=by
 walk_at"3";rcases h with⟨i,rfl,q⟩|⟨k,rfl,q⟩
 ·obtain⟨u,rfl,t,rfl⟩:=zwl r;exact call_int_int ⟨.int i,H,I,⟨_,rfl⟩,q⟩
 ·obtain⟨u,rfl,g⟩:=zwl r;cases g;exact call_int_bool ⟨.int (if k then 1 else 0),H,I.tok _,⟨_,rfl⟩,q⟩
def LenV(K:Fg)(x:V)(H:Hp)(n:Nat):Prop :=
 match x with
|.str y=>y.length<=sizeLine/\n=y.length
|.byt y=>y.size<=sizeLine/\n=y.size
|.ref p=>(∃xs,SqL K H p xs/\n=xs.length) \/ ∃xs,SqT K H p xs/\n=xs.length
|_=>False
theorem za31:CallR X (.builtin "len") (λxs H Q=>∃x n,xs=[x]/\LenV X.K x H n/\Q (.int n) H):=by
 walk_at"3";obtain⟨x,n,rfl,e,q⟩:=h;obtain⟨u,rfl,z⟩:=zwl r;have hl:=zei;have L:sizeLine=16777216:=aQ;cases x with
|str y =>
  obtain⟨t,rfl⟩:=z;obtain⟨J,m⟩:y.length<=sizeLine/\n=y.length:=e;subst m;exact len_str (by lia) ⟨.int _,H,I.tok _,⟨_,rfl⟩,q⟩
|byt y =>
  obtain⟨t,rfl⟩:=z;obtain⟨J,m⟩:y.size<=sizeLine/\n=y.size:=e;subst m;exact PySem.W.len_bytes (by lia) ⟨.int _,H,I.tok _,⟨_,rfl⟩,q⟩
|ref p =>
  cases z;have m:(∃xs,SqL X.K H p xs/\n=xs.length) \/ ∃xs,SqT X.K H p xs/\n=xs.length:=e;rcases m with⟨xs,G,m⟩|⟨xs,G,m⟩
  ·subst m;obtain⟨its,B,pl,hz⟩:=I.list G;have g:=B.length;exact Calls.call_len_list pl.isList (by simp only[v8];lia) ⟨.int xs.length,H,I.tok _,⟨_,by simp only[v8];rw[g]⟩,q⟩
  ·subst m;obtain⟨its,B,pl,hz⟩:=I.tuple G;have g:=B.length;exact len_tuple pl (by simp only[v8];lia) ⟨.int xs.length,H,I.tok _,⟨_,by simp only[v8];rw[g]⟩,q⟩
|_=>exact(show False from e).elim
end
structure ObjM(h:aT)(x dx C:aE)(mA:Str->Option aA):Prop where
 obj:h.get? x=some (cD C dx)
 ns:h.Ns1 dx mA
 ne:dx≠x
theorem znu{h:aT}(n:h.Ns1 dx mA):∃m,h.get? dx=some m/\∀name,fT name m=some (mA name):=by
 obtain⟨o,es,ep,B,hd,I,_,G⟩:=n;refine⟨o,B,λname=>?_⟩;have e:=G name;unfold nsFind findBy at e;rw[<- Array.find?_toList]at e;unfold fT;rw[hd];dsimp only;split
 ·rename_i y q
  rw[q]at e;exact congrArg some e
 ·rename_i q
  rw[q]at e;have a:es.toList.any (·.refKey)=false:=by
   rw[List.any_eq_false];intro y p;obtain⟨z,t,g⟩:=I y (uaT.mp p);simp[DictEntry.refKey,g]
  have J:¬es.toList.any (·.refKey)=true:=by rw[a];exact wA
  rw[aF J];exact congrArg some e
theorem ObjM.look{h:aT}{x:aE}(I:ObjM h x dx C mA):∃g,PySem.W.InstAt h x (cD C dx) C (some g)/\∀name,fT name g=some (mA name) :=
 let ⟨g,m,hl⟩:=znu I.ns
 ⟨g,⟨I.obj,rfl,rfl,m⟩,hl⟩
section
variable {prog:aN}{w:aP}{A:a7}{E:aA->aG->Prop}{s:aG}{K:Fg}{x dx C f:aE}{mA:Str->Option aA}{name:Str}{v:aA}
theorem zz51{g:Bool}{Q:aA->aG->Prop}(X:K.In s.heap)(I:ObjM s.heap x dx C mA)(y:d3 K C name=true)(q:eJ K C=true)
  (z:a6 K (.ref C) name=some none) (p:mA name=some v) (m:lY v=true) (h:Q v { s with toks:=s.toks+1 }) :
  aJ (aM prog w) A (getAttr (.ref x) name g) Q E s:=by
 obtain⟨B,J,hl⟩:=I.look;exact PySem.W.get_value X J (fM y).1 (PySem.W.findObj_own q z rfl (by rw[hl,p])) m h
theorem zl31{pl:Sem Bool}{Q:aA×List aA->aG->Prop}(X:K.In s.heap)(I:ObjM s.heap x dx C mA)(g:d3 K C name=true)
  (hf:a6 K (.ref C) name=some (some (.ref f))) (q:fE K (.ref f)=true) (p:mA name=none) (h:Q (.ref f,[.ref x]) s) :
  aJ (aM prog w) A (eW (.ref x) name pl) Q E s:=by
 obtain⟨m,J,hl⟩:=I.look;exact PySem.W.method_fn X J (fM g).1 (fM g).2 hf (beq_iff_eq.mp q) (by show(fT name m).map (·.isSome)=some false;rw[hl,p];rfl) h
theorem zh71{ns:List Str}{Q:Unit->aG->Prop}(X:K.In s.heap)(I:ObjM s.heap x dx C mA)
  (O:a6 K (.ref C) "__setattr__"=some (some (.builtin "object.__setattr__"))) (S:gA K C=true) (L:g8 K C name=some none) (U:eJ K C=true)
  (hw:i7 mA ns) (hsz:ns.length<=sizeLine)
  (h:∀h',ObjM h' x dx C (λy=>if y=name then some v else mA y)->bF dx s.heap h'->Q () { s with heap:=h',toks:=s.toks+2 }) :
  aJ (aM prog w) A (setAttr (.ref x) name v) Q E s:=by
 obtain⟨od,J,hl⟩:=I.look;refine PySem.W.set_plain X J O (PySem.W.osa_open (s:={ s with toks:=s.toks+1 }) (r:=none) X J S L λb=>?_);obtain⟨cd,Y,z⟩:=PySem.W.any_some U;have G:s.heap.get? x=some ⟨.ref C,some dx,.plain,#[]⟩:=I.obj;refine aC (aI (aC (aC (wpAny_loadPart G (aC (PySem.W.Looks.here (s:={ s with toks:=s.toks+1 }) (PySem.W.looks_clsIn X Y) ?_))))));rw[z];refine aI (a:=some dx) (aC (aI (aC ?_)));refine wpAny_nsSet1 (s:={ s with toks:=s.toks+1 }) I.ns λh' m g=>?_;obtain⟨oD,Z,epD,p,q,B⟩:=m.count (PySem.Within.cons name v hw);refine aC (wpAny_lookBehind p (by rw[q];exact pastItsLine_dict (wX B (by rw[xG];lia))) ?_);exact aI (h _ ⟨(g.2 _ (Ne.symm I.ne)).trans I.obj,m,I.ne⟩ g)
theorem zu21{R:gJ->aG->Prop}{vs:List aA}(X:K.In s.heap)(m:fJ K C=true)
  (hi:a6 K (.ref C) "__init__"=some (some (.ref f))) (hf:PySem.W.typeIn K (.ref f)=some (.type "function"))
  (h:cP (aM prog w) (A.under (.builtin "type.__call__" ⟨.ref C :: vs,kw⟩)) (.call (.ref f) ⟨.ref (s.heap.objs.size+1) :: vs,kw⟩) (PySem.W.InitBack (s.heap.objs.size+1) R)
   { s with heap:=(s.heap.push bZ).push (cD C s.heap.objs.size) }) :
  cP (aM prog w) A (.call (.ref C) ⟨vs,kw⟩) R s:=by
 obtain⟨p,g,d,t,os⟩:=s;exact PySem.W.make_core (PySem.W.makes_of X m) (PySem.W.looks_findIn X hi) (λself=>PySem.W.bind_fn X self hf) (.inl rfl) h
end
def putF(f:Str)(v:V):List (Str×V)->List (Str×V)
|[]=>[(f,v)]
|(g,x) :: r=>if g=f then(g,v) :: r else(g,x) :: putF f v r
theorem zfd(f g:Str)(v:V):∀fs:List (Str×V),(putF f v fs).lookup g=if g=f then some v else fs.lookup g
|[]=>by
  show xD g [(f,v)]=_;by_cases h:g=f
  ·have m:(g == f)=true:=beq_iff_eq.mpr h;simp only[xD,m,aH h]
  ·have m:(g == f)=false:=beq_eq_false_iff_ne.mpr h;simp only[xD,m,aF h]
|(k,x) :: r=>by
  have q:=zfd f g v r;rw[show putF f v ((k,x) :: r)=(if k=f then(k,v) :: r else(k,x) :: putF f v r)from rfl];by_cases p:k=f
  ·rw[aH p];by_cases h:g=k
   ·have m:(g == k)=true:=beq_iff_eq.mpr h;simp only[xD,m,aH (h.trans p)]
   ·have m:(g == k)=false:=beq_eq_false_iff_ne.mpr h;simp only[xD,m,aF (λe:g=f=>h (e.trans p.symm))]
  ·rw[aF p];by_cases h:g=k
   ·have m:(g == k)=true:=beq_iff_eq.mpr h;simp only[xD,m,aF (λe:g=f=>p (h.symm.trans e))]
   ·have m:(g == k)=false:=beq_eq_false_iff_ne.mpr h;simp only[xD,m];exact q
theorem zle(f:Str)(v:V):∀fs:List (Str×V),f∈(putF f v fs).map (·.1)/\∀g,g∈fs.map (·.1)->g∈(putF f v fs).map (·.1)
|[]=>⟨by simp[putF],λg h=>by simp at h⟩
|(k,x) :: r=>by
  obtain⟨q,p⟩:=zle f v r;rw[show putF f v ((k,x) :: r)=(if k=f then(k,v) :: r else(k,x) :: putF f v r)from rfl];by_cases m:k=f
  ·rw[aH m];subst m;exact⟨by simp,λg h=>by simpa using h⟩
  ·rw[aF m];refine⟨?_,λg h=>?_⟩
   ·rw[v9];exact wC _ q
   ·rw[v9]at h ⊢;rcases vT.mp h with e|e
    ·exact vT.mpr (.inl e)
    ·exact wC _ (p g e)
theorem ztd(f:Str)(v:V):∀fs:List (Str×V),(putF f v fs).length<=fs.length+1
|[]=>by simp[putF]
|(k,x) :: r=>by
  have m:=ztd f v r;rw[show putF f v ((k,x) :: r)=(if k=f then(k,v) :: r else(k,x) :: putF f v r)from rfl];by_cases g:k=f
  ·rw[aH g,xG,xG];lia
  ·rw[aF g,xG,xG];lia
theorem RelO.some_of{v:V}{o:Option aA}(r:RelO (some v) o):∃u,o=some u/\RelV v u:=by
 cases o with
|none=>exact(show False from r).elim
|some u=>exact⟨u,rfl,r⟩
theorem RelO.none_of{o:Option aA}(r:RelO none o):o=none:=by
 cases o with
|none=>rfl
|some u=>exact(show False from r).elim
theorem zku{v:V}(r:RelV v u):lY u=true:=by
 cases v with
|non=>cases (show u=xJ from r);rfl
|bl b=>cases (show u=zS b from r);rfl
|int i=>obtain⟨t,e⟩:=(show ∃t,u=yF i t from r);cases e;rfl
|str x=>obtain⟨t,e⟩:=(show ∃t,u=zG x t from r);cases e;rfl
|byt b=>obtain⟨t,e⟩:=(show ∃t,u=Value.bytes b t from r);cases e;rfl
|flt b=>obtain⟨t,e⟩:=(show ∃t,u=j3 b t from r);cases e;rfl
|ref a=>cases (show u=v3 a from r);rfl
|ty n=>cases (show u=zT n from r);rfl
section
variable {P:aN}{w:aP}{H H':Hp}{h h':aT}{a C dx:aE}{fs fs':List (Str×V)}
theorem zll(g:HOk P w H h)(e:H a=some (.ins C dx fs)):∃mA,ObjM h a dx C mA/\(∀f,RelO (fs.lookup f) (mA f))/\i7 mA (fs.map (·.1))/\fs.length<=1000/\H dx=some (.own a):=by
 obtain⟨d,z,ne,ob,mA,n,r,q⟩:=(show ObjOk P w H h a (.ins C dx fs)from g a _ e)
 exact⟨mA,⟨ob,n,ne⟩,r,q,z,d⟩
end
structure Cls(K:Fg)(C:aE):Prop where
 pg:d3 K C Str.empty=true
 hd:eJ K C=true
 po:gA K C=true
 sa:a6 K (.ref C) "__setattr__"=some (some (.builtin "object.__setattr__"))
theorem Cls.get(c:Cls K C)(f:Str):d3 K C f=true:=c.pg
def NoAttr(K:Fg)(C:aE)(f:Str):Prop:=a6 K (.ref C) f=some none
theorem NoAttr.taker{f:Str}(n:NoAttr K C f):g8 K C f=some none:=by
 unfold g8;rw[show a6 K (.ref C) f=some none from n];rfl
structure Meth(K:Fg)(C:aE)(m:Str)(f:aE):Prop where
 at_:a6 K (.ref C) m=some (some (.ref f))
 fn:fE K (.ref f)=true
 kp:bK K (.ref f)=true
section
variable {X:Cx}{pins:List (aE×Obj)}{Y:St}{H:Hp}{s:aG}{a C dx:aE}{fs:List (Str×V)}{f:Str}{v:V}{A:a7}{E:aA->aG->Prop}
theorem zes{b:Bool}{Q:aA->aG->Prop}(I:Inv X pins Y H s)(e:H a=some (.ins C dx fs))(c:Cls X.K C)(n:NoAttr X.K C f)(l:fs.lookup f=some v)
  (h:∀u s',Inv X pins Y H s'->RelV v u->Q u s'):aJ (aM X.prog X.w) A (getAttr (.ref a) f b) Q E s:=by
 obtain⟨mA,O,r,_,_,_⟩:=zll I.hok e;obtain⟨u,m,g⟩:=RelO.some_of (v:=v) (o:=mA f) (by rw[<- l];exact r f);exact zz51 I.kIn O (c.get f) c.hd n m (zku g) (h u _ (I.tok _) g)
theorem zj9{m:Str}{g:aE}{pl:Sem Bool}{Q:aA×List aA->aG->Prop}(I:Inv X pins Y H s)(e:H a=some (.ins C dx fs))(c:Cls X.K C)(k:Meth X.K C m g)(l:fs.lookup m=none)
  (h:Q (.ref g,[.ref a]) s):aJ (aM X.prog X.w) A (eW (.ref a) m pl) Q E s:=by
 obtain⟨mA,O,r,_,_,_⟩:=zll I.hok e;have p:mA m=none:=RelO.none_of (by rw[<- l];exact r m);exact zl31 I.kIn O (c.get m) k.at_ k.fn p h
theorem zvo{y:V}{Q:Unit->aG->Prop}(I:Inv X pins Y H s)(e:H a=some (.ins C dx fs))(c:Cls X.K C)(n:NoAttr X.K C f)(hl:fs.length < 1000)(J:RelV y u)
  (h:∀s',Inv X pins Y (upd H a (.ins C dx (putF f y fs))) s'->Q () s'):aJ (aM X.prog X.w) A (setAttr (.ref a) f u) Q E s:=by
 obtain⟨mA,O,r,p,_,B⟩:=zll I.hok e;have hz:(fs.map (·.1)).length<=sizeLine:=by rw[u5,aQ];lia
 refine zh71 I.kIn O c.sa c.po n.taker c.hd p hz λh' m G=>h _ ?_;have hd:∃o,h'.get? dx=some o:=let ⟨o,_,_,U,_⟩:=m.ns;⟨o,U⟩;refine I.write (x:=a) (e:=dx) (by rw[e];exact True.intro) (.inr B) (λb q S z=>(G.2 b S).trans z) hd ?_;refine⟨by rw[zd1 O.ne];exact B,?_,O.ne,m.obj,_,m.ns,λg=>?_,λg L=>?_⟩
 ·have:=ztd f y fs;lia
 ·show RelO ((putF f y fs).lookup g) (if g=f then some u else mA g);rw[zfd];by_cases q:g=f
  ·rw[aH q,aH q];exact J
  ·rw[aF q,aF q];exact r g
 ·by_cases q:g=f
  ·rw[q];exact(zle f y fs).1
  ·refine(zle f y fs).2 g (p g λz=>L ?_);show(if g=f then some u else mA g)=none;rw[aF q];exact z
theorem Inv.made(I:Inv X pins Y H s):Inv X pins Y (upd (upd H s.heap.objs.size (.own (s.heap.objs.size+1))) (s.heap.objs.size+1) (.ins C s.heap.objs.size []))
  { s with heap:=(s.heap.push bZ).push (cD C s.heap.objs.size) }:=by
 have g:(s.heap.push bZ).get? s.heap.objs.size=some PySem.W.emptyDict:=v7 s.heap rfl;have B:((s.heap.push bZ).push (cD C s.heap.objs.size)).get? (s.heap.objs.size+1)=some (cD C s.heap.objs.size):=by
  have:=v7 (s.heap.push bZ) (o:=cD C s.heap.objs.size) rfl
  rwa [xH]at this
 have z:(s.heap.push bZ).Ns s.heap.objs.size (λ_=>none):=⟨bZ,#[],_,g,rfl,(λe p=>aL p (by simp)),λ_=>rfl⟩
 have G:=I.laid (a:=s.heap.objs.size) (o:=.own (s.heap.objs.size+1)) (h':=s.heap.push bZ) (t':=s.toks) (λb u q=>vU _ q) (u7 _) ⟨_,g⟩;refine G.laid (a:=s.heap.objs.size+1) (o:=.ins C s.heap.objs.size []) (t':=s.toks) (λb u q=>vU _ q) (Nat.le_of_eq (xH _ _)) ?_;have ne:s.heap.objs.size≠s.heap.objs.size+1:=wF (zU _);refine⟨by rw[zd1 ne,zq0],wU _,ne,B,λ_=>none,(Heap.Ns1.of_empty z).at λo q=>vU _ q,λ_=>True.intro,λy m=>aL rfl m⟩
theorem zc61{prog:aN}{env:Env}{e:aX}{f:Str}{Q:aA->aG->Prop}(g:dM e f env (bA e env)=bA e env)
  (h:aJ (aM prog w) A (bA e env) (λo s₁=>aJ (aM prog w) A (getAttr o f true) Q E s₁) E s):aJ (aM prog w) A (bA (.Attribute e f pos) env) Q E s :=
 Attribute_any_ h (by rw[arm_eval_Attribute,g])
end
def tFld(K:Fg)(m:TE)(f:Str):TE:=λY H Q=>m Y H λx g=>∃a C dx fs v,x=.ref a/\g a=some (.ins C dx fs)/\Cls K C/\NoAttr K C f/\fs.lookup f=some v/\Q v g
def sFld(K:Fg)(m g:TE)(f:Str):TS:=λD Y H=>g Y H λy p=>m Y p λx H2=>∃a C dx fs,x=.ref a/\H2 a=some (.ins C dx fs)/\Cls K C/\NoAttr K C f/\fs.length < 1000 /\
 D.nx Y (upd H2 a (.ins C dx (putF f y fs)))
section
variable {X:Cx}{o e value:aX}{f:Str}{pos pos' tpos:Pos}{ta tv:TE}
theorem zye1(p:PE X e ta)(y:dM e f X.env (bA e X.env)=bA e X.env):PE X (.Attribute e f pos) (tFld X.K ta f):=by
 walk_at"1";refine zc61 y (thn (p pins s Y H _ I h) λu s1 hz=>?_);obtain⟨x,J,G,g,a,C,dx,fs,v,ex,z,c,n,l,q⟩:=hz;subst ex;obtain rfl:u=v3 a:=g;exact zes G z c n l λL s2 B m=>⟨v,J,B,m,q⟩
theorem zqe(J:PE X o ta)(B:PE X value tv)(G:gY value (some (.Attribute o f pos')) pos.line X.env=pure false):PS X (.Assign [.Attribute o f pos'] value pos) (sFld X.K ta tv f):=by
 walk_at"5";refine plainObj_wpAny_Assign_Attribute (thn (B pins s Y H _ I h) λu s1 ⟨y,W,U,g,q⟩=>thn (J pins s1 Y W _ U q) λz s2 hz=>?_) G;obtain⟨x,H2,S,m,a,C,dx,fs,ex,L,c,n,l,p⟩:=hz;subst ex;obtain rfl:z=v3 a:=m;exact zvo S L c n l g λs3 O=>⟨Y,_,O,p⟩
end
section
variable {X:Cx}{pins:List (aE×Obj)}{Y:St}{H:Hp}{s:aG}{A:a7}{E:aA->aG->Prop}{Q:aA->aG->Prop}{c:aA}{b:Bool}
inductive TyOf(K:Fg)(H:Hp):V->aA->Prop where
|non:TyOf K H .non (.type "NoneType")
|bl (x:Bool):TyOf K H (.bl x) (.type "bool")
|int (i:Int):TyOf K H (.int i) (.type "int")
|str (x:Str):TyOf K H (.str x) (.type "str")
|flt (x:UInt64):TyOf K H (.flt x) (.type "float")
|lst {a:aE} {xs:List V} (e:H a=some (.lst xs)):TyOf K H (.ref a) (.type "list")
|frz {a:aE} {o:Obj} {xs:List V} (e:H a=some (.frz o (.lst xs))):TyOf K H (.ref a) (.type "list")
|tup {a:aE} {xs:List V} (e:H a=some (.tup xs)):TyOf K H (.ref a) (.type "tuple")
|dK {a:aE} {kvs:List (Key×V)} (e:H a=some (.dK kvs)):TyOf K H (.ref a) (.type "dict")
|dT {a:aE} {kvs:List (List Key×V)} (e:H a=some (.dT kvs)):TyOf K H (.ref a) (.type "dict")
|ins {a C dx:aE} {fs:List (Str×V)} (e:H a=some (.ins C dx fs)) (cl:Cls K C) (ha:a6 K (.ref C) "__class__"=some (some (.builtin "object.__class__")))
   (hn:PySem.W.specialIn K (.builtin "object.__class__") "__get__"=some (some (.builtin "getset_descriptor.__get__"))) (htk:PySem.W.takesIn K (.builtin "object.__class__")=some true)
   (hm:PySem.W.mroIn K C (.type "object")=some true):TyOf K H (.ref a) (.ref C)
theorem zmw{x:V}{t:aA}(I:Inv X pins Y H s)(g:RelV x u)(ty:TyOf X.K H x t)(e:eD X.K t c=some b)(h:∀tk,Q (.bool b) { s with toks:=tk }) :
  aJ (aM X.prog X.w) A (call (.builtin "isinstance") [u,c]) Q E s:=by
 cases ty with
|non=>cases (show u=xJ from g);exact bH PySem.W.kitx_none I.kIn True.intro e (λz=>nomatch z) h
|bl y=>cases (show u=zS y from g);exact bH PySem.W.kitx_bool I.kIn True.intro e (λz=>nomatch z) h
|int i=>obtain⟨t,q⟩:=(show ∃t,u=yF i t from g);cases q;exact bH PySem.W.kitx_int I.kIn True.intro e (λz=>nomatch z) h
|str y=>obtain⟨t,q⟩:=(show ∃t,u=zG y t from g);cases q;exact bH PySem.W.kitx_str I.kIn True.intro e (λz=>nomatch z) h
|flt y=>obtain⟨t,q⟩:=(show ∃t,u=j3 y t from g);cases q;exact bH PySem.W.kitx_float I.kIn True.intro e (λz=>nomatch z) h
|@lst a xs m =>
  cases (show u=v3 a from g);obtain⟨_,_,n,_,B⟩:=(show ObjOk X.prog X.w H s.heap a (.lst xs)from I.hok a _ m)
  exact bH gC I.kIn ⟨_,B,rfl⟩ e (λz=>nomatch z) h
|@frz a ob xs m =>
  cases (show u=v3 a from g);obtain⟨_,_,_,n,_,B⟩:=(show ObjOk X.prog X.w H s.heap a (.frz ob (.lst xs))from I.hok a _ m)
  exact bH gC I.kIn ⟨_,B,rfl⟩ e (λz=>nomatch z) h
|@tup a xs m =>
  cases (show u=v3 a from g);obtain⟨_,_,_,p⟩:=(show ObjOk X.prog X.w H s.heap a (.tup xs)from I.hok a _ m)
  obtain⟨o,B,G,_⟩:=p;exact bH lB I.kIn ⟨o,B,G⟩ e (λz=>nomatch z) h
|@dK a kvs m =>
  cases (show u=v3 a from g);obtain⟨_,_,vs,_,p⟩:=(show ObjOk X.prog X.w H s.heap a (.dK kvs)from I.hok a _ m)
  obtain⟨o,es,ep,B,G,_⟩:=p;exact bH lI I.kIn ⟨o,B,G.1⟩ e (λz=>nomatch z) h
|@dT a kvs m =>
  cases (show u=v3 a from g);obtain⟨_,_,xs,_,o,es,ep,B,G,_⟩:=(show ObjOk X.prog X.w H s.heap a (.dT kvs)from I.hok a _ m)
  exact bH lI I.kIn ⟨o,B,G.1⟩ e (λz=>nomatch z) h
|@ins a C dx fs m cl Z S L U =>
  cases (show u=v3 a from g);obtain⟨mA,O,_⟩:=zll I.hok m;obtain⟨od,J,_⟩:=O.look;exact bH (PySem.W.kitx_own (cl.get _) cl.hd Z S L U) I.kIn J e (λz=>nomatch z) h
end
structure Room(k:Nat)(A:a7):Prop where
 hd:A.handled=none
 dp:A.depth+3 * k+5 < recursionLimit
 gd:A.guards=some []
 un:A.units+16 * k+200 < cM
theorem Room.mono{j k:Nat}(r:Room k A)(h:j<=k):Room j A:=⟨r.hd,by have:=r.dp;lia,r.gd,by have:=r.un;lia⟩
theorem Room.deeper{k:Nat}{A:a7}(r:Room (k+1) A)(env:Env):Room k (A.deeper env) :=
 ⟨r.hd,by have:=r.dp;show A.depth+1+3 * k+5 < _;lia,r.gd,by have:=r.un;show A.units+3+16 * k+200 < _;lia⟩
theorem zxm:(A.under (.builtin "type.__call__" ⟨.ref C :: us,kw⟩)).depth=A.depth+1:=by
 first|rfl|simp[i8,Code.weight,Code.isCreation,Code.isGuard,Code.isCaller,Code.frames,Code.isFrame,guardIds]
theorem zaq:(A.under (.builtin "type.__call__" ⟨.ref C :: us,kw⟩)).units=A.units+1:=by
 first|rfl|simp[i8,Code.cUnits,Code.frames,Code.isFrame]
theorem Room.make{k:Nat}(r:Room (k+1) A)(C:aE)(us:List aA)(kw:List (Str×aA)):Room k (A.under (.builtin "type.__call__" ⟨.ref C :: us,kw⟩)) :=
 ⟨r.hd,by have:=r.dp;rw[zxm];lia,r.gd,by have:=r.un;rw[zaq];lia⟩
theorem Room.depth{k:Nat}{A:a7}(r:Room k A):A.depth < recursionLimit:=by have:=r.dp;lia
theorem Room.units{k:Nat}{A:a7}(r:Room k A):A.units+64 < cLine:=by have:=r.un;lia
def tNil:TA:=λ_ H Q=>Q [] H
def zdm(m:TE)(g:TA):TA:=λY H Q=>m Y H λx p=>g Y p λxs H2=>Q (x :: xs) H2
section
variable {X:Cx}{e:aX}{es:List aX}{te:TE}{t:TA}{pos:Pos}
theorem zg0:PA X [] tNil:=λ_ _ _ _ H Q I h=>Calls.spliced_nil ⟨[],H,I,.nil,h⟩
theorem za0(z:PE X e te)(hr:PA X es t)(y:aS (e :: es) X.env=(false,bA e X.env) :: aS es X.env:=by rfl):PA X (e :: es) (zdm te t):=by
 walk_at"38";rw[y];show aJ _ _ (spliced ((false,bA e X.env) :: b9 pos (aS es X.env))) _ _ s;refine Calls.spliced_cons (thn (z pins s Y H _ I h) λu s1 hz=>?_);obtain⟨x,J,G,m,q⟩:=hz;exact thn (hr pos pins s1 Y J _ G q) λus s2 ⟨xs,H2,B,g,p⟩=>⟨x :: xs,H2,B,.cons m g,p⟩
def tTup(t:TA):TE:=λY H Q=>t Y H λxs g=>xs.length<=sizeLine/\∀p,g p=none->Q (.ref p) (upd g p (.tup xs))
def tLst(t:TA):TE:=λY H Q=>t Y H λxs g=>xs.length<=sizeLine/\∀p,g p=none->Q (.ref p) (upd g p (.lst xs))
theorem zwe1{x1}(h:PA X es t):PE X (.Tuple es x1 pos) (tTup t):=by
 intro pins s Y H Q I p;refine wpAny_Tuple_spliced (thn (h pos pins s Y H _ I p) λus s1 ⟨xs,m,g,r,z,q⟩=>⟨by rw[<- r.length];exact z,?_⟩);have hf:m s1.heap.objs.size=none:=g.hok.fresh (u7 _);refine⟨.ref s1.heap.objs.size,upd m s1.heap.objs.size (.tup xs),g.laid (t':=s1.toks) (λb u e=>vU _ e) (u7 _) ?_,rfl,q _ hf⟩;exact⟨z,us,r,⟨_,v7 _ rfl,rfl,_,rfl⟩⟩
theorem zrf1(h:PA X es t):PE X (.List es pos) (tLst t):=by
 intro pins s Y H Q I p;refine wpAny_List_spliced (thn (h pos pins s Y H _ I p) λus s1 ⟨xs,m,g,r,z,q⟩=>⟨by rw[<- r.length];exact z,?_⟩);have hf:m s1.heap.objs.size=none:=g.hok.fresh (u7 _);refine⟨.ref s1.heap.objs.size,upd m s1.heap.objs.size (.lst xs),g.laid (t':=s1.toks) (λb u e=>vU _ e) (u7 _) ?_,rfl,q _ hf⟩;exact⟨z,us,0,r,v7 _ rfl⟩
end
abbrev Sp:=List V->Hp->VK->XK->Prop
abbrev CXT:=List Env->Hp->aG->XK->aA->aG->Prop
structure Env0(P:aN)(w:aP)(K:Fg)(mg:Str->Option aA)(base:aT)(A:a7)(outer:List Env)(s:aG)(H:Hp):Prop where
 frames:A.frames=some outer
 mod:Mod K mg base
 bs:∀b o,base.get? b=some o->s.heap.get? b=some o/\H b=none
 bsz:base.objs.size<=s.heap.objs.size
 funs:s.heap.FunFrames base outer
 frf:∀b∈frs outer,H b=none
 hok:HOk P w H s.heap
 bare:eV s.gens
def CE(outer:List Env)(P:aN)(w:aP)(H:Hp)(s:aG)(Q:VK)(u:aA)(s':aG):Prop :=
 ∃v H',s'.os=s.os/\eV s'.gens/\Un (frs outer) [] H H' s.heap s'.heap/\HOk P w H' s'.heap/\RelV v u/\Q v H'
def CR(CX:CXT)(outer:List Env)(P:aN)(w:aP)(H:Hp)(s:aG)(Q:VK)(E:XK)(r:gJ)(s':aG):Prop :=
 match r with
|.ok (.ret u)=>CE outer P w H s Q u s'
|.ok _=>False
|.error e=>CX outer H s E e s'
structure FnOk(P:aN)(w:aP)(K:Fg)(mg:Str->Option aA)(base:aT)(CX:CXT)(k:Nat)(f:aE)(fd:cS)(ps:List Str)(sp:Sp):Prop where
 len:∀vs H Q E,sp vs H Q E->vs.length=ps.length
 run:∀(A:a7)(outer:List Env)(s:aG)(H:Hp)(args:Args)(us:List aA)(vs:List V)(Q:VK)(E:XK),Room k A->Env0 P w K mg base A outer s H->fR s fd args (ps.zip us)->Vals vs us->sp vs H Q E ->
  cP (aM P w) A (.call (.ref f) args) (CR CX outer P w H s Q E) s
theorem Env0.make{P:aN}{H:Hp}(e:Env0 P w K mg base A outer s H)(C:aE)(us:List aA)(kw:List (Str×aA)) :
  Env0 P w K mg base (A.under (.builtin "type.__call__" ⟨.ref C :: us,kw⟩)) outer s H:=⟨by first|exact e.frames|(simpa[i8,Code.envs,Code.isFrame,pushEnvs]using e.frames),e.mod,e.bs,e.bsz,e.funs,e.frf,e.hok,e.bare⟩
section
variable {X:Cx}{pins:List (aE×Obj)}{Y:St}{H:Hp}{s s':aG}
theorem Inv.env0(I:Inv X pins Y H s):Env0 X.prog X.w X.K X.mg X.base X.A X.stack s H :=
 ⟨I.ok.frames,I.ok.mod,I.bs,wX I.ok.bsz I.sz,I.stack,I.stkFree,I.hok,I.bare⟩
theorem Inv.after{Q:VK}(I:Inv X pins Y H s)(h:CE X.stack X.prog X.w H s Q u s'):EP X pins Y Q u s':=by
 obtain⟨v,H',os,bare,un,p,r,q⟩:=h;obtain⟨y,g,d,t,m⟩:=s';obtain rfl:m=s.os:=os;exact⟨v,H',I.call (h':=y) (g':=g) (d':=d) (t':=t) (ch:=[]) un p bare (λb z=>aL z (by simp)),r,q⟩
end
def zq51(sp:Sp)(dvs:List V)(E:XK)(t:TA):TE:=λY H Q=>t Y H λvs g=>sp (vs++dvs) g Q E
def zn51(C:aE)(m:Str)(sp:Sp)(dvs:List V)(E:XK)(p:TE)(t:TA):TE:=λY H Q=>p Y H λx g=>∃a dx fs,x=.ref a/\g a=some (.ins C dx fs)/\fs.lookup m=none /\
 t Y g λvs H2=>sp (x :: (vs++dvs)) H2 Q E
def zid1(C:aE)(sp:Sp)(dvs:List V)(E:XK)(t:TA):TE:=λY H Q=>t Y H λvs g=>∀x dx,g x=none->g dx=none->dx≠x ->
 sp (.ref x :: (vs++dvs)) (upd (upd g dx (.own x)) x (.ins C dx [])) (λv H2=>v=.non/\Q (.ref x) H2) E
def Binds(K:Fg)(g:cS)(ps:List Str)(ds:List aA):Prop :=
 ∀(s:aG)(us:List aA),K.In s.heap->(us++ds).length=ps.length->fR s g ⟨us,[]⟩ (ps.zip (us++ds))
theorem Binds.all{g:cS}(h:∀us:List aA,us.length=ps.length->lQ g ⟨us,[]⟩=pure (ps.zip us)):Binds K g ps []:=λs us _ hl=>by
 rw[wS]at hl ⊢;exact .of_eq (h us hl)
def znj(CX:CXT)(X:Cx)(E:XK):Prop:=∀(pins:List (aE×Obj))(Y:St)(H:Hp)(s:aG)(e:aA)(s':aG),Inv X pins Y H s->CX X.stack H s E e s'->X.xe e s'
section
variable {X:Cx}{CX:CXT}{k:Nat}{f C:aE}{fd:cS}{ps:List Str}{sp:Sp}{dvs:List V}{ds:List aA}{E:XK}{x m:Str}{p pos apos:Pos}{e o:aX}{es:List aX}{ta:TE}{t:TA}
theorem zju{Y:St}{H:Hp}{Q:VK}{vs:List V}(F:FnOk X.prog X.w X.K X.mg X.base CX k f fd ps sp)(hr:Room k X.A)(z:Binds X.K fd ps ds)(hd:Vals dvs ds)(y:znj CX X E)
  (I:Inv X pins Y H s) (r:Vals vs us) (h:sp (vs++dvs) H Q E):aJ (aM X.prog X.w) X.A (call (.ref f) us) (EP X pins Y Q) X.xe s:=by
 have q:Vals (vs++dvs) (us++ds):=r.append hd;have hl:(us++ds).length=ps.length:=by rw[<- q.length];exact F.len _ _ _ _ h
 refine iJ (d7 (F.run X.A X.stack s H ⟨us,[]⟩ (us++ds) (vs++dvs) Q E hr I.env0 (z s us I.kIn hl) q h) λr s' g=>?_);cases r with
|error e=>exact y pins Y H s e s' I g
|ok fl =>
  cases fl with
 |ret u=>exact I.after g
 |next=>exact False.elim g
 |brk=>exact False.elim g
 |cont=>exact False.elim g
theorem zay(F:FnOk X.prog X.w X.K X.mg X.base CX k f fd ps sp)(hr:Room k X.A)(L:Gl X x)(G:X.mg x=some (.ref f))(J:bK X.K (.ref f)=true)(S:Binds X.K fd ps ds)(hd:Vals dvs ds)(B:znj CX X E)
  (U:PA X (e :: es) t) (y:(x == ("__debug__":Str))=false:=by decide) (O:aS (e :: es) X.env=(false,bA e X.env) :: aS es X.env:=by rfl) (g:(b9 pos (aS es X.env)).any (·.1)=false:=by rfl) :
  PE X (.Call (.Name x p) (e :: es) [] pos) (zq51 sp dvs E t):=by
 walk_at"1";refine dP (zzq I L G ?_ y);refine d8 (h₀:=X.base) I.ok.mod.kin J (thn (U pos pins s Y H _ I h) λus s1 ⟨vs,W,z,r,q⟩=>⟨z.kIn,?_⟩) O g;exact zju F hr S hd B z r q
theorem zb91{pl:Sem Bool}(W:PE X o ta)(c:Cls X.K C)(B:Meth X.K C m f)(F:FnOk X.prog X.w X.K X.mg X.base CX k f fd ps sp)(hr:Room k X.A)(Z:Binds X.K fd ps ds)(hd:Vals dvs ds)(S:znj CX X E)(ha:PA X (e :: es) t)
  (g:aS (e :: es) X.env=(false,bA e X.env) :: aS es X.env:=by rfl) (y:(b9 pos (aS es X.env)).any (·.1)=false:=by rfl)
  (U:bA (.Call (.Attribute o m apos) (e :: es) [] pos) X.env=(do
   let z <- bA o X.env
   eS apos.atName
   let (f,first) <- dJ [z] (eW z m pl)
   iI pos f first (b9 pos (aS (e :: es) X.env)) (d6 pos (dG [] X.env))):=by rfl) :
  PE X (.Call (.Attribute o m apos) (e :: es) [] pos) (zn51 C m sp dvs E ta t):=by
 walk_at"1";refine eZ (pl:=pl) (thn (W pins s Y H _ I h) λu s1 hz=>?_) U;obtain⟨x,H1,J,L,a,dx,fs,ex,ea,l,q⟩:=hz;subst ex;obtain rfl:u=v3 a:=L;refine zj9 J ea c B l ?_;refine d8 (first:=[.ref a]) (h₀:=X.base) I.ok.mod.kin B.kp (thn (ha pos pins s1 Y H1 _ J q) λus s2 ⟨vs,H2,G,r,O⟩=>⟨G.kIn,?_⟩) g y;exact zju (us:=.ref a :: us) (vs:=.ref a :: vs) F hr Z hd S G (.cons rfl r) O
theorem zu01{pl:Sem Bool}(L:PE X o ta)(c:Cls X.K C)(z:Meth X.K C m f)(F:FnOk X.prog X.w X.K X.mg X.base CX k f fd ps sp)(hr:Room k X.A)(O:Binds X.K fd ps ds)(hd:Vals dvs ds)(G:znj CX X E)
  (J:bA (.Call (.Attribute o m apos) [] [] pos) X.env=(do
   let y <- bA o X.env
   eS apos.atName
   let (f,first) <- dJ [y] (eW y m pl)
   iI pos f first (b9 pos (aS [] X.env)) (d6 pos (dG [] X.env))):=by rfl) :
  PE X (.Call (.Attribute o m apos) [] [] pos) (zn51 C m sp dvs E ta tNil):=by
 walk_at"1";refine eZ (pl:=pl) (thn (L pins s Y H _ I h) λu s1 hz=>?_) J;obtain⟨x,U,g,B,a,dx,fs,ex,S,l,q⟩:=hz;subst ex;obtain rfl:u=v3 a:=B;refine zj9 g S c z l ?_;exact PySem.W.callWith_K0 (first:=[.ref a]) g.kIn z.kp (zju (us:=[.ref a]) (vs:=[.ref a]) F hr O hd G g (.cons rfl .nil) q)
structure Mk(K:Fg)(C f:aE):Prop where
 makes:fJ K C=true
 init:a6 K (.ref C) "__init__"=some (some (.ref f))
 fn:fE K (.ref f)=true
 kp:bK K (.ref C)=true
theorem zb31{Y:St}{H:Hp}{Q:VK}{vs:List V}(M:Mk X.K C f)(F:FnOk X.prog X.w X.K X.mg X.base CX k f fd ps sp)(hr:Room (k+1) X.A)(J:Binds X.K fd ps ds)(hd:Vals dvs ds)
  (G:znj CX X E) (I:Inv X pins Y H s) (r:Vals vs us)
  (h:∀x dx,H x=none->H dx=none->dx≠x->sp (.ref x :: (vs++dvs)) (upd (upd H dx (.own x)) x (.ins C dx [])) (λv H2=>v=.non/\Q (.ref x) H2) E) :
  aJ (aM X.prog X.w) X.A (call (.ref C) us) (EP X pins Y Q) X.xe s:=by
 have z:=h (s.heap.objs.size+1) s.heap.objs.size (I.hok.fresh (yQ _)) (I.hok.fresh (u7 _)) (wF (zU _));have q:=Inv.made (C:=C) I;have y:Vals (V.ref (s.heap.objs.size+1) :: (vs++dvs)) (v3 (s.heap.objs.size+1) :: (us++ds)):=.cons rfl (r.append hd);have hl:(v3 (s.heap.objs.size+1) :: us++ds).length=ps.length:=by
  have e:=y.length;rw[F.len _ _ _ _ z]at e;exact e.symm
 refine iJ (zu21 (f:=f) I.kIn M.makes M.init (beq_iff_eq.mp M.fn) (d7 (F.run _ X.stack _ _ ⟨v3 (s.heap.objs.size+1) :: us,[]⟩ (v3 (s.heap.objs.size+1) :: (us++ds)) _ _ E (hr.make C us [])
  (q.env0.make C us []) (J _ (v3 (s.heap.objs.size+1) :: us) q.kIn hl) y z) λr s' g=>?_))
 cases r with
|error e=>exact G pins Y _ _ e s' q g
|ok fl =>
  cases fl with
 |ret u =>
   obtain⟨v,H',O,rv,L,B⟩:=q.after g;subst L;exact⟨rv,⟨V.ref (s.heap.objs.size+1),H',O,rfl,B⟩⟩
 |next=>exact False.elim g
 |brk=>exact False.elim g
 |cont=>exact False.elim g
theorem zx91(M:Mk X.K C f)(F:FnOk X.prog X.w X.K X.mg X.base CX k f fd ps sp)(hr:Room (k+1) X.A)(J:Gl X x)(G:X.mg x=some (.ref C))(O:Binds X.K fd ps ds)(hd:Vals dvs ds)(B:znj CX X E)
  (S:PA X (e :: es) t) (y:(x == ("__debug__":Str))=false:=by decide) (L:aS (e :: es) X.env=(false,bA e X.env) :: aS es X.env:=by rfl) (g:(b9 pos (aS es X.env)).any (·.1)=false:=by rfl) :
  PE X (.Call (.Name x p) (e :: es) [] pos) (zid1 C sp dvs E t):=by
 walk_at"1";refine dP (zzq I J G ?_ y);refine d8 (h₀:=X.base) I.ok.mod.kin M.kp (thn (S pos pins s Y H _ I h) λus s1 ⟨vs,U,z,r,q⟩=>⟨z.kIn,?_⟩) L g;exact zb31 M F hr O hd B z r q
end
def PK(X:Cx)(g:List h7)(t:TA):Prop :=
 ∀(pos:Pos)(pins:List (aE×Obj))(s:aG)(Y:St)(H:Hp)(Q:List V->Hp->Prop),Inv X pins Y H s->t Y H Q->aJ (aM X.prog X.w) X.A (evalAll ((d6 pos (dG g X.env)).map (·.2))) (AP X pins Y Q) X.xe s
section
variable {X:Cx}{CX:CXT}{k:Nat}{f C:aE}{fd:cS}{ps ks:List Str}{sp:Sp}{E:XK}{x m:Str}{p pos apos kpos:Pos}{e o:aX}{es:List aX}{kws:List h7}{te ta:TE}{t tk:TA}{nm:Option Str}
theorem zxe1:PK X [] tNil:=λ_ _ _ _ H Q I h=>wpAny_evalAll_nil ⟨[],H,I,.nil,h⟩
theorem zk71(B:PE X e te)(hr:PK X kws t):PK X (⟨nm,e,kpos⟩ :: kws) (zdm te t):=by
 walk_at"38";show aJ _ _ (evalAll ((do let v <- bA e X.env;eS pos;pure v) :: (d6 pos (dG kws X.env)).map (·.2))) _ _ s;refine wpAny_evalAll_cons (aC (thn (B pins s Y H _ I h) λu s1 ⟨x,L,J,q,z⟩=>aC (f6 (aI ?_))));exact thn (hr pos pins s1 Y L _ J z) λus s2 ⟨xs,H2,G,g,y⟩=>⟨x :: xs,H2,G,.cons q g,y⟩
variable {g:List aA->List aA->List aA}{gV:List V->List V->List V}
end
structure FnScope(N P:List Str)(sc:eP):Prop where
 kind:sc.kind=.function
 co:sc.isCoroutine=false
 gen:sc.isGenerator=false
 nd:N.Nodup
 pre:N.take P.length=P
 par:∀x∈P,sc.names.lookup x=some .local \/ sc.names.lookup x=some .cell
 nofree:∀y∈sc.names,y.2≠.free
theorem znk{kindOf:Str->Option bS}{x:Str}:∀{binds:List (Str×aA)}{m:Str->Option aA},(∀v,(x,v) ∉ binds)->iE kindOf binds m x=m x
|[],_,_=>rfl
|(n,v) :: r,m,h=>by
  unfold iE;rw[znk λw hw=>h w (wC _ hw)];split
  ·have:x≠n:=by rintro rfl;exact h v wR
   simp[this]
  ·rfl
theorem zmk{kindOf:Str->Option bS}{x:Str}:∀{binds:List (Str×aA)}{m:Str->Option aA},(∀v,(x,v) ∉ binds)->iF kindOf binds m x=m x
|[],_,_=>rfl
|(n,v) :: r,m,h=>by
  unfold iF;rw[zmk λw hw=>h w (wC _ hw)];split
  ·rfl
  ·have:x≠n:=by rintro rfl;exact h v wR
   simp[this]
theorem zol{kindOf:Str->Option bS}{x:Str}{v:aA}:∀{P:List Str}{vs:List aA}{i:Nat}{m:Str->Option aA},P.Nodup->P[i]?=some x->vs[i]?=some v->kindOf x=some .local ->
  iE kindOf (P.zip vs) m x=some v
|[],_,_,_,_,h,_,_=>by simp at h
|_ :: _,[],_,_,_,_,h,_=>by simp at h
|p :: P,w :: vs,0,m,nd,q,g,hk=>by
  simp at q g;subst q;subst g;show iE kindOf ((p,w) :: P.zip vs) m p=_;unfold iE;rw[znk λv y=>(v5.mp nd).1 (j6 y).1,aH hk];simp
|p :: P,w :: vs,i+1,m,nd,q,g,hk=>by
  show iE kindOf ((p,w) :: P.zip vs) m x=_;unfold iE;exact zol (i:=i) (v5.mp nd).2 (by simpa using q) (by simpa using g) hk
theorem zhk{kindOf:Str->Option bS}{x:Str}{v:aA}:∀{P:List Str}{vs:List aA}{i:Nat}{m:Str->Option aA},P.Nodup->P[i]?=some x->vs[i]?=some v->kindOf x≠some .local ->
  iF kindOf (P.zip vs) m x=some v
|[],_,_,_,_,h,_,_=>by simp at h
|_ :: _,[],_,_,_,_,h,_=>by simp at h
|p :: P,w :: vs,0,m,nd,q,g,hk=>by
  simp at q g;subst q;subst g;show iF kindOf ((p,w) :: P.zip vs) m p=_;unfold iF;rw[zmk λv y=>(v5.mp nd).1 (j6 y).1,aF hk];simp
|p :: P,w :: vs,i+1,m,nd,q,g,hk=>by
  show iF kindOf ((p,w) :: P.zip vs) m x=_;unfold iF;exact zhk (i:=i) (v5.mp nd).2 (by simpa using q) (by simpa using g) hk
def start(N:List Str)(vs:List V):St:=vs.map some++vY (N.length - vs.length) none
def cxOf(CX:CXT)(P:aN)(w:aP)(K:Fg)(mg:Str->Option aA)(base:aT)(N:List Str)(qual:Str)(scope:eP)(f:aE)(m:aA)(A:a7)(outer:List Env)(s:aG)(H:Hp)(E:XK):Cx where
 prog:=P
 w:=w
 K:=K
 mg:=mg
 base:=base
 A:=A.deeper (dW qual scope s.heap.objs.size f m)
 N:=N
 s₀:=s
 H₀:=H
 env:=dW qual scope s.heap.objs.size f m
 outer:=outer
 stack:=dW qual scope s.heap.objs.size f m :: outer
 ex:=[]
 calm:=true
 fn:=λ_=>true
 pn:=[]
 xe:=λe s'=>aJ (aM P w) (A.deeper (dW qual scope s.heap.objs.size f m)) (leaving (dW qual scope s.heap.objs.size f m) e) (λ_ g=>CX outer H s E e g) (λp g=>CX outer H s E p g) s'
theorem znr{sc:eP}(h:sc.names.lookup x=some .cell):∃c,(cA n sc.names []).lookup x=some c:=by
 have q:=eO sc.names n [] (.inl h);exact xR.mp q
theorem zou{CX:CXT}{P:aN}{f:aE}{O:aA}{s1:aG}{H:Hp}{E:XK}{vs:List V}
  (S:FnScope N ps scope) (hd:A.handled=none) (m:Env0 P w K mg base A outer s H) (hl:vs.length=ps.length) (r:Vals vs us)
  (x:InCallC s s.heap.objs.size (iE (dW qual scope s.heap.objs.size f O).kindOf (ps.zip us) λ_=>none) (cA (s.heap.objs.size+1) scope.names []) (iF (dW qual scope s.heap.objs.size f O).kindOf (ps.zip us) λ_=>none) s1) :
  Inv (cxOf CX P w K mg base N qual scope f O A outer s H E) [] (start N vs) H s1:=by
 have Y:ps.length<=N.length:=by have:=congrArg zI S.pre;rw[wW]at this;lia
 obtain⟨L,tk,rfl,W⟩:=x.done;have G:∀b:aE,b ∉ (cxOf CX P w K mg base N qual scope f O A outer s H E).ex:=λb z=>aL (show b∈([]:List aE)from z) (by simp);refine⟨⟨m.mod,S.kind,rfl,rfl,u7 _,λy z c L g=>?_,λy B=>?_,λy c _ h=>?_,λ_=>hd,Around.frames_deeper m.frames,.inr ⟨rfl,rfl⟩,λb z=>aL z (G b),m.bs,m.bsz,λb _ _=>G b,λb z=>aL z (G b),m.funs,m.frf⟩,
  rfl,m.bare,Un.kept W,⟨_,x.toInCall.ns,λi y v L g Z=>?_⟩,λy c h=>⟨_,x.cell y c h⟩,m.hok.fresh (u7 _),λy c h=>?_,λp I=>aL (show p∈([]:List (aE×Obj))from I) (by simp),m.hok.kept W,?_⟩
 ·exact name_of_addr x.apart (bI L) (bI g)
 ·have B:scope.names.lookup y=some .cell \/ scope.names.lookup y=some .free:=B;rcases B with B|B
  ·exact znr B
  ·exact aL rfl (S.nofree _ (bI B))
 ·exact yH (x.above y c (bI h))
 ·have hi:i < vs.length:=by
   unfold start at g;by_cases hi:i < vs.length
   ·exact hi
   ·rw[wO (by simpa using hi)]at g;rw[xO]at g;split at g <;> cases g
  have X:vs[i]?=some v:=by
   unfold start at g;rw[wP (by simpa using hi),u8]at g;cases e:vs[i]? with
  |none=>rw[e]at g;cases g
  |some a=>rw[e]at g;cases g;rfl
  obtain⟨u,U,rv⟩:=r.get X;have I:ps[i]?=some y:=by
   rw[<- S.pre,uaU (by lia)];exact L
  have J:ps.Nodup:=by rw[<- S.pre];exact S.nd.sublist (List.take_sublist _ _)
  refine⟨u,rv,?_⟩;rcases S.par y (wJ I)with k|k
  ·exact .inl ⟨k,zol J I U k⟩
  ·obtain⟨c,e⟩:=znr (n:=s.heap.objs.size+1) k;refine .inr ⟨.inl k,c,e,?_⟩;have q:=x.cell y c e;rw[zhk J I U (by show scope.names.lookup y≠_;rw[k];decide)]at q;exact q
 ·exact m.hok.fresh (yH (x.above y c (bI h)))
 ·unfold start;show _=N.length;rw[vW,u5,yR];lia
theorem zvh1{CX:CXT}{P:aN}{k:Nat}{f:aE}{name:Str}{params:Arguments}{dV kV L Z cdv ct oc:aA}{an od:Option aE}
  {U:Array (Option aA)} {sp:Sp} (lk:K.lookup f=some ⟨oc,od,.func (bV name qual params body scope dV kV L Z an cdv ct),U⟩) (Y:dH K cdv qual=true) (S:FnScope N ps scope)
  (len:∀vs H Q E,sp vs H Q E->vs.length=ps.length)
  (m:∀(A:a7)(outer:List Env)(s:aG)(H:Hp)(vs:List V)(Q:VK)(E:XK),Room k (A.deeper (dW qual scope s.heap.objs.size f cdv))->sp vs H Q E ->
   ∃t,PSs (cxOf CX P w K mg base N qual scope f cdv A outer s H E) body t/\t { nx:=λ_ H'=>Q .non H',rt:=Q } (start N vs) H) :
  FnOk P w K mg base CX (k+1) f (bV name qual params body scope dV kV L Z an cdv ct) ps sp:=by
 refine⟨len,λA outer s H args us vs Q E hr z hb r B=>?_⟩;have hl:=len _ _ _ _ B;have KX:K.In s.heap:=z.mod.kin.keeps λb o e=>(z.bs b o e).1;have X:s.heap.NoLimit:=z.mod.nolimit.keeps λb o e=>(z.bs b o e).1;have g:∀y∈ps.zip us,scope.names.lookup y.1=some .local \/ (scope.names.lookup y.1=some .cell/\((cA (s.heap.objs.size+1) scope.names []).lookup y.1).isSome=true):=λ⟨n,v⟩ hy=>by
  rcases S.par n (j6 hy).1 with q|q
  ·exact .inl q
  ·exact .inr ⟨q,eO _ _ _ (.inl q)⟩
 refine codeAny_call_function hr.depth (KX _ _ lk) rfl S.co S.gen rfl (PySem.W.codeRec_of KX Y) (hb _ _ _ _ ?_);refine wpAny_newFunctionEnv_cells S.kind g λenv he s1 x=>?_;subst he;refine⟨X.keeps x.toInCall.keep,codeAny_func ?_⟩;obtain⟨t,ht,hq⟩:=m A outer s H vs Q E (hr.deeper _) B;have I:Inv (cxOf CX P w K mg base N qual scope f cdv A outer s H E) [] (start N vs) H s1:=zou S hr.hd z hl r x;refine dD (ht [] s1 (start N vs) H _ I hq) (λfl s' p=>?_) λe s' p=>p;have G:∀{O:St}{H':Hp}{v:V}{u:aA},Inv (cxOf CX P w K mg base N qual scope f cdv A outer s H E) [] O H' s'->RelV v u->Q v H'->CE outer P w H s Q u s' :=
  λ{O H' v u} J rv q=>⟨v,H',J.os,J.bare,J.base,J.hok,rv,q⟩
 cases fl with
|ret u =>
  obtain⟨v,O,H',J,rv,q⟩:=p;exact G J rv q
|next =>
  obtain⟨O,H',J,q⟩:=p;exact G (v:=V.non) (u:=xJ) J rfl q
|brk =>
  obtain⟨_,_,_,q⟩:=p;exact False.elim q
|cont =>
  obtain⟨_,_,_,q⟩:=p;exact False.elim q
section
variable {X:Cx}{x:Str}{p pos:Pos}{e:aX}{es:List aX}{t:TA}{id T:String}{r:List V->Hp->VK->Prop}
def tCB(r:List V->Hp->VK->Prop)(t:TA):TE:=λY H Q=>t Y H λvs g=>r vs g Q
theorem zp0(O:CallR X (.builtin id) r)(J:Gl X x)(G:X.mg x=none)(z:a8 x=some (.builtin id))(S:PA X (e :: es) t)(B:x ≠ "__name__":=by decide)(m:(x == ("__debug__":Str))=false:=by decide)
  (L:aS (e :: es) X.env=(false,bA e X.env) :: aS es X.env:=by rfl) (g:(b9 pos (aS es X.env)).any (·.1)=false:=by rfl):PE X (.Call (.Name x p) (e :: es) [] pos) (tCB r t):=by
 walk_at"1";refine dP (zkh I J G z ?_ B m);exact mQ (thn (S pos pins s Y H _ I h) λus s1 ⟨vs,W,U,q,y⟩=>O pins s1 Y W vs us Q U q y) L g
theorem zb3(O:CallR X (.type T) r)(J:Gl X x)(G:X.mg x=none)(z:a8 x=some (.type T))(S:PA X (e :: es) t)(B:x ≠ "__name__":=by decide)(m:(x == ("__debug__":Str))=false:=by decide)
  (L:aS (e :: es) X.env=(false,bA e X.env) :: aS es X.env:=by rfl) (g:(b9 pos (aS es X.env)).any (·.1)=false:=by rfl):PE X (.Call (.Name x p) (e :: es) [] pos) (tCB r t):=by
 walk_at"1";refine dP (zkh I J G z ?_ B m);exact b7 (thn (S pos pins s Y H _ I h) λus s1 ⟨vs,W,U,q,y⟩=>O pins s1 Y W vs us Q U q y) L g
end
end _2
namespace HT
open PySem PyProof.Rows
variable {hi lo:Option Int}{sl:aE}{vl vu:aA}
section
variable {prog:aN}{w:aP}{A:a7}{E:aA->aG->Prop}{s:aG}
theorem cat_tup{t b:aE}{vs ws:List aA}{Q:aA->aG->Prop}(z:nH s.heap t vs.toArray)(B:nH s.heap b ws.toArray)(q:vs≠[])
  (G:ws=[]->Q (.ref t) s) (C:ws≠[]->Q (.ref s.heap.objs.size) { s with heap:=s.heap.push { cls:=.type "tuple",data:=.seq (vs++ws).toArray } })
  (hsz:vs.length+ws.length<=sizeLine):aJ (aM prog w) A (bR .Add (.ref t) (.ref b)) Q E s:=by
 obtain⟨⟨cls,x,data,sl⟩,p,u,n,hd⟩:=id z;obtain⟨⟨y,o,data2,f⟩,a,m,n2,g⟩:=id B;simp only at u hd m g;subst u hd m g;have e:vs.toArray++ws.toArray=(vs++ws).toArray:=by simp
 by_cases hw:ws=[]
 ·exact i6 ⟨_,p,rfl⟩ ⟨_,a,rfl⟩ lW seq_tuple_add ğk ğj (ği _ _)
   (tuple_addW1 t b vs.toArray ws.toArray n n2 x o sl f (by simpa using q) (by simp[hw])) ⟨p,a,G hw⟩
 ·refine i6 ⟨_,p,rfl⟩ ⟨_,a,rfl⟩ lW seq_tuple_add ğk ğj (ği _ _)
   (tuple_addW2 t b vs.toArray ws.toArray n n2 x o sl f (by simpa using q) (by simpa using hw) (by rw[v8,v8];exact hsz)) ⟨p,a,?_⟩
  rw[e];exact C hw
def sIx(n d:Nat):Option Int->Nat
|none=>d
|some v=>if v < 0 then(v+(n:Int)).toNat else min v.toNat n
theorem sIx_none(n d:Nat):sIx n d none=d:=rfl
theorem sIx_nat(n d k:Nat):sIx n d (some (k:Int))=min k n:=by
 show(if(k:Int) < 0 then((k:Int)+(n:Int)).toNat else min (k:Int).toNat n)=min k n;rw[aF (by lia),v6]
theorem zkd1(n d:Nat)(hd:d<=n)(o:Option Int):sIx n d o<=n:=by
 cases o with
|none=>exact hd
|some v =>
  show(if v < 0 then(v+(n:Int)).toNat else min v.toNat n)<=n;by_cases a:v < 0
  ·rw[aH a];lia
  ·rw[aF a];exact Nat.min_le_right _ _
theorem zgy(v:Int)(n d:Nat):(if v < 0 then max (v+(n:Int)) 0 else min v (n:Int))=((sIx n d (some v):Nat):Int):=by
 show(if v < 0 then max (v+(n:Int)) 0 else min v (n:Int))=(((if v < 0 then(v+(n:Int)).toNat else min v.toNat n):Nat):Int)
 by_cases a:v < 0
 ·simp only[aH a];lia
 ·simp only[aF a];lia
theorem zls(lo hi:Option Int)(n:Nat):d5 lo hi 1 (n:Int)=(((sIx n 0 lo:Nat):Int),((sIx n n hi:Nat):Int)):=by
 have a:¬((1:Int) < 0):=by lia
 unfold d5;simp only[a,if_false];refine Prod.ext ?_ ?_
 ·cases lo with
 |none=>rfl
 |some v=>exact zgy v n 0
 ·cases hi with
 |none=>rfl
 |some v=>exact zgy v n n
theorem zlq(i j:Nat):dE (i:Int) (j:Int) 1=j - i:=by
 unfold dE;have a:(1:Int) > 0:=by lia
 simp only[a,if_true,Int.ediv_one];split <;> lia
theorem zrf{v:aA}{o:Option Int}{Q:Option Int->aG->Prop}(p:gK v o)(h:Q o s):aJ (aM prog w) A (m7 v) Q E s:=by
 cases p with
|none=>exact mV h
|int i t=>exact slicePart_int h
theorem zpc{n:Nat}{Q:Int×Int×Nat->aG->Prop}(g:s.heap.IsSliceOf sl vl vu .none)(pl:gK vl lo)(f:gK vu hi)
  (h:Q (((sIx n 0 lo:Nat):Int),1,sIx n n hi - sIx n 0 lo) s):aJ (aM prog w) A (f8 (.ref sl) (pure (n:Int))) Q E s:=by
 obtain⟨os,a,i,b⟩:=id g;unfold f8 nJ;refine aC (aC (bP a b (x:=vl) rfl (aC (bP a b (x:=vu) rfl (aC (bP a b (x:=.none) rfl (aI ?_)))))));refine aC (mV ?_);show aJ _ _ (if((1:Int) == 0)=true then _ else _) _ _ s;rw[aF (by decide)];refine aC (zrf pl (aC (zrf f (aC (aI ?_)))));show aJ _ _ (match d5 lo hi 1 (n:Int)with|(lo,hi)=>pure (lo,(1:Int),dE lo hi 1)) _ _ s;rw[zls lo hi n];show aJ _ _ (pure (((sIx n 0 lo:Nat):Int),(1:Int),dE ((sIx n 0 lo:Nat):Int) ((sIx n n hi:Nat):Int) 1)) _ _ s;rw[zlq];exact aI h
theorem zlz(xs:Array aA)(i k:Nat):((u3 k).filterMap λ(m:Nat)=>xs[((i:Int)+(m:Int) * 1).toNat]?).toArray=((xs.toList.drop i).take k).toArray:=by
 have e:(λ(m:Nat)=>xs[((i:Int)+(m:Int) * 1).toNat]?)=λm=>xs[i+m]?:=by
  funext m;have:((i:Int)+(m:Int) * 1).toNat=i+m:=by lia
  rw[this]
 rw[e];have:=pick_run xs i k;rw[uaV]at this;have a:((λx=>xs[x]?) ∘ λx=>i+x)=λm=>xs[i+m]?:=rfl;rw[a]at this;rw[this]
theorem getItem_tuple_cut{t:aE}{items:Array aA}{Q:aA->aG->Prop}(b:nH s.heap t items)(o:s.heap.IsSliceOf sl vl vu .none)(pl:gK vl lo)(p:gK vu hi)
  (hw:¬(sIx items.size 0 lo=0/\sIx items.size items.size hi=items.size))
  (h:Q (.ref s.heap.objs.size) { s with heap:=s.heap.push { cls:=.type "tuple",data:=.seq ((items.toList.drop (sIx items.size 0 lo)).take (sIx items.size items.size hi - sIx items.size 0 lo)).toArray } })
  (hsz:items.size<=sizeLine):aJ (aM prog w) A (fO (.ref t) (.ref sl)) Q E s:=by
 have a:sizeOk (.seq ((items.toList.drop (sIx items.size 0 lo)).take (sIx items.size items.size hi - sIx items.size 0 lo)).toArray):=by
  show((items.toList.drop (sIx items.size 0 lo)).take (sIx items.size items.size hi - sIx items.size 0 lo)).toArray.size<=sizeLine;rw[v8,wW,yI,wY];lia
 have z:sIx items.size items.size hi<=items.size:=zkd1 _ _ (u7 _) hi;obtain⟨os,f,i,u⟩:=id o;have n:s.TypeIs (.ref sl) "slice":=⟨os,f,i⟩
 unfold fO
 try with_reducible refine bL ?_
 first|refine aC (aI ?_)|skip
 refine aC (wpAny_sequenceKey b.typeIs (by decide) ?_);refine aC (bY (name:=xL "__getitem__") b.typeIs e7
  (bT e7 b.typeIs entry_tuple_getitem ?_ (args_tuple_getitem _ _)))
 show aJ _ _ (nG (.ref t) >>= _) _ _ s;refine aC (tupleItemsOf_ b ?_);refine aC (gM n ?_);rw[aH (by decide)];refine aC (zpc o pl p ?_);have g:¬((((sIx items.size 0 lo:Nat):Int) == 0 && (1:Int) == 1 && (sIx items.size items.size hi - sIx items.size 0 lo) == items.size)=true):=by
  intro q;rw[yA,yA]at q;have y:((sIx items.size 0 lo:Nat):Int)=0:=eq_of_beq q.1.1;have x:sIx items.size items.size hi - sIx items.size 0 lo=items.size:=eq_of_beq q.2;exact hw ⟨by lia,by lia⟩
 show aJ _ _ (if(((sIx items.size 0 lo:Nat):Int) == 0 && (1:Int) == 1 && (sIx items.size items.size hi - sIx items.size 0 lo) == items.size)=true then _ else _) _ _ s;rw[aF g,zlz]
 first
 |exact aC (m:=dI _) (bJ (aI ⟨_,rfl,aI h⟩) a)
 |exact aC (m:=dI _) (bJ (aC (aI (aI ⟨_,rfl,aI h⟩))) a)
 |exact aC (aC (m:=dI _) (bJ (aI (aI ⟨_,rfl,aI h⟩)) a))
 |exact aC (aC (m:=dI _) (bJ (aI ⟨_,rfl,aI h⟩) a))
end
end HT
namespace _2
open PySem PySem.Spec PyProof.Rows
variable {i:Int}{its us:List aA}{n:Nat}{pins:List (aE×Obj)}{s:aG}{u:aA}{x y:V}
abbrev TO:=St->Hp->(Option Int->Hp->Prop)->Prop
def PO(X:Cx)(e:Option aX)(t:TO):Prop :=
 ∀(pins:List (aE×Obj))(s:aG)(Y:St)(H:Hp)(Q:Option Int->Hp->Prop),Inv X pins Y H s->t Y H Q ->
  aJ (aM X.prog X.w) X.A (evalPart e X.env) (λu s'=>∃o H',Inv X pins Y H' s'/\gK u o/\Q o H') X.xe s
def zyw:TO:=λ_ H Q=>Q none H
def zhj1(t:TE):TO:=λY H Q=>t Y H λx a=>∃i,x=.int i/\Q (some i) a
theorem zx6{ns:List Int}:∀{us:List aA},Vals (ns.map V.int) us->dL us ns:=by
 induction ns with
|nil=>intro us r;rw[yS]at r;cases r;exact .nil
|cons n ns f =>
  intro us r;rw[v9]at r;cases r with
 |cons b a =>
   obtain⟨t,e⟩:=b;subst e;exact .cons n t (f a)
section
variable {X:Cx}{e:aX}{te:TE}{lo hi:Option aX}{tl th:TO}{pos p2:Pos}
theorem zcl:PO X none zyw:=by
 walk_at"1";rw[evalPart_none];exact aI ⟨none,H,I,.none,h⟩
theorem zo61(h:PE X e te):PO X (some e) (zhj1 te):=by
 intro pins s Y H Q I hw;rw[evalPart_some];refine thn (h pins s Y H _ I hw) λu s1 hz=>?_;obtain⟨x,g,f,a,b⟩:=hz;obtain⟨i,rfl,q⟩:=b;obtain⟨t,rfl⟩:=a;exact⟨some i,g,f,.int i t,q⟩
def SlR(X:Cx)(r:V->Option Int->Option Int->Hp->VK->Prop):Prop :=
 ∀(pins:List (aE×Obj))(s:aG)(Y:St)(H:Hp)(x:V)(v b a:aA)(lo hi:Option Int)(sl:aE)(Q:VK),Inv X pins Y H s->RelV x v->s.heap.IsSliceOf sl b a .none->gK b lo->gK a hi->r x lo hi H Q ->
  ∃T id,typeLookup (.type T) "__getitem__"=pure (some (.builtin id))/\s.TypeIs v T/\aJ (aM X.prog X.w) X.A (fO v (.ref sl)) (EP X pins Y Q) X.xe s
theorem SlR.or{r g:V->Option Int->Option Int->Hp->VK->Prop}(h:SlR X r)(h':SlR X g):SlR X (λx lo hi H Q=>r x lo hi H Q \/ g x lo hi H Q):=by
 intro pins s Y H x v b a lo hi sl Q I f o pl m q;rcases q with q|q
 ·exact h pins s Y H x v b a lo hi sl Q I f o pl m q
 ·exact h' pins s Y H x v b a lo hi sl Q I f o pl m q
def tSl(r:V->Option Int->Option Int->Hp->VK->Prop)(te:TE)(tl th:TO):TE:=λY H Q=>te Y H λx b=>tl Y b λl H2=>th Y H2 λu a=>r x l u a Q
theorem zpj{r:V->Option Int->Option Int->Hp->VK->Prop}(hr:SlR X r)(J:PE X e te)(hl:PO X lo tl)(C:PO X hi th):PE X (.Subscript e (.Slice lo hi none p2) pos) (tSl r te tl th):=by
 walk_at"1";refine mH (thn (J pins s Y H _ I h) λv s1 hz=>?_);obtain⟨x,S,O,m,z⟩:=hz;refine wpAny_Slice (thn (hl pins s1 Y S _ O z) λf s2 ⟨l,H2,N,pl,p⟩=>thn (C pins s2 Y H2 _ N p) λa s3 hz=>?_);obtain⟨u,g,M,B,o⟩:=hz;rw[evalPart_none];refine aI ?_;have L:Inv X pins Y g { s3 with heap:=s3.heap.push { cls:=.type "slice",data:=.fields #[f,a,.none] } }:=M.kept (t':=s3.toks) λb ob q=>vU _ q;obtain⟨T,id,K,E,G⟩:=hr pins { s3 with heap:=s3.heap.push { cls:=.type "slice",data:=.fields #[f,a,.none] } } Y g x v f a l u s3.heap.objs.size Q L m (Heap.IsSliceOf.new ..) pl B o;show aJ (aM X.prog X.w) X.A (subscriptTail e (.Slice lo hi none p2) v (.ref s3.heap.objs.size)) (EP X pins Y Q) X.xe { s3 with heap:=s3.heap.push { cls:=.type "slice",data:=.fields #[f,a,.none] } };exact iG (ops:=[.ref s3.heap.objs.size,v]) E K G (by with_unfolding_all rfl)
def cutV(xs:List V)(lo hi:Option Int):List V:=(xs.drop (HT.sIx xs.length 0 lo)).take (HT.sIx xs.length xs.length hi - HT.sIx xs.length 0 lo)
theorem zud(xs:List V)(lo hi:Option Int):(cutV xs lo hi).length<=xs.length:=by
 unfold cutV;rw[wW,yI];lia
def rSlT(K:Fg):V->Option Int->Option Int->Hp->VK->Prop:=λx lo hi H Q=>∃a xs,x=.ref a/\SqT K H a xs /\
 ¬(HT.sIx xs.length 0 lo=0/\HT.sIx xs.length xs.length hi=xs.length)/\∀p,H p=none->Q (.ref p) (upd H p (.tup (cutV xs lo hi)))
theorem zjd1:SlR X (rSlT X.K):=by
 walk_at"16";obtain⟨a,xs,rfl,w,hw,q⟩:=h;cases m;obtain⟨its,r,g,hz⟩:=I.tuple w;have f:its.toArray.size=xs.length:=by rw[v8];exact r.length.symm
 refine⟨"tuple",_,PyProof.Rows.slot_tuple_getitem.lookup,g.typeIs,?_⟩;refine HT.getItem_tuple_cut g z pl p (by rw[f];exact hw) ?_ (by rw[f];exact hz);rw[f];refine⟨.ref s.heap.objs.size,_,I.laid (t':=s.toks) (o:=.tup (cutV xs lo hi)) (λb ob q=>vU _ q) (u7 _) ?_,rfl,q _ (I.hok.fresh (u7 _))⟩;exact⟨wX (zud xs lo hi) hz,_,(r.drop (HT.sIx xs.length 0 lo)).take (HT.sIx xs.length xs.length hi - HT.sIx xs.length 0 lo),IsTup.new _ _⟩
def zdh1(K:Fg):R2:=λx y H Q=>∃a b xs ys,x=.ref a/\y=.ref b/\SqT K H a xs/\SqT K H b ys/\xs≠[]/\xs.length+ys.length<=sizeLine /\
 (ys=[]->Q (.ref a) H)/\(ys≠[]->∀p,H p=none->Q (.ref p) (upd H p (.tup (xs++ys))))
theorem Vals.nil_iff{xs:List V}(r:Vals xs us):us=[] ↔ xs=[]:=by
 cases r with
|nil=>simp
|cons _ _=>simp
theorem za71:OpR X (bR .Add) (zdh1 X.K):=by
 intro pins s Y H x y v u Q I A p h;obtain⟨a,b,xs,ys,rfl,rfl,L,J,G,hz,C,B⟩:=h;cases A;cases p;obtain⟨its,g,E,_⟩:=I.tuple L;obtain⟨m,f,p2,_⟩:=I.tuple J;refine HT.cat_tup E p2 (λz=>G (g.nil_iff.mp z)) (λz=>⟨.ref a,H,I,rfl,C (f.nil_iff.mp z)⟩) (λz=>?_) (by rw[<- g.length,<- f.length];exact hz);refine⟨.ref s.heap.objs.size,_,I.laid (t':=s.toks) (o:=.tup (xs++ys)) (λb ob q=>vU _ q) (u7 _) ?_,rfl,B (λw=>z (f.nil_iff.mpr w)) _ (I.hok.fresh (u7 _))⟩;exact⟨by rw[vW];exact hz,_,g.append f,IsTup.new _ _⟩
end
def ixN(n:Nat)(i:Int):Option Nat:=if 0<=i then(if i < n then some i.toNat else none)else if -(n:Int)<=i then some (i+n).toNat else none
def atI{α:Type}(xs:List α)(i:Int):Option α:=(ixN xs.length i).bind λj=>xs[j]?
theorem zwx{j:Nat}(h:ixN n i=some j):seqIndex? i n=some j/\j < n/\-(n:Int)<=i/\i < n:=by
 unfold ixN at h;by_cases b:0<=i
 ·rw[aH b]at h;by_cases a:i < n
  ·rw[aH a]at h;have e:i.toNat=j:=w8.inj h;exact⟨by rw[lM b a,e],by lia,by lia,a⟩
  ·rw[aF a]at h;cases h
 ·rw[aF b]at h;by_cases a:-(n:Int)<=i
  ·rw[aH a]at h;have e:(i+n).toNat=j:=w8.inj h;exact⟨by rw[iZ (by lia) a,e],by lia,a,by lia⟩
  ·rw[aF a]at h;cases h
theorem zat{α:Type}{xs:List α}{v:α}(h:atI xs i=some v):∃j,seqIndex? i xs.length=some j/\xs[j]?=some v/\j < xs.length/\-(xs.length:Int)<=i/\i < xs.length:=by
 unfold atI at h;cases e:ixN xs.length i with
|none=>rw[e]at h;cases h
|some j =>
  rw[e]at h;obtain⟨g,f,b,a⟩:=zwx e;exact⟨j,g,h,f,b,a⟩
theorem zcy{α:Type}{xs:List α}{j:Nat}{v:α}(h:xs[j]?=some v):atI xs (j:Int)=some v:=by
 have a:j < xs.length:=(wI.mp h).1;have e:ixN xs.length (j:Int)=some j:=by
  unfold ixN;rw[aH (by lia),aH (by lia)];simp
 unfold atI;rw[e];exact h
def zgx(b:aX):Prop:=∀o i,subscripted b false o i=operate [o,i] (fO o i)
def IxR(X:Cx)(r:R2):Prop :=
 ∀(value slice:aX)(pins:List (aE×Obj))(s:aG)(Y:St)(H:Hp)(x y:V)(v u:aA)(Q:VK),Inv X pins Y H s->RelV x v->RelV y u->r x y H Q ->
  subscripted slice false v u=operate [v,u] (fO v u)->aJ (aM X.prog X.w) X.A (subscriptTail value slice v u) (EP X pins Y Q) X.xe s
def MtR(X:Cx)(id:String)(r:V->List V->Hp->VK->Prop):Prop :=
 ∀(pins:List (aE×Obj))(s:aG)(Y:St)(H:Hp)(x:V)(xs:List V)(v:aA)(us:List aA)(Q:VK),Inv X pins Y H s->RelV x v->Vals xs us->r x xs H Q ->
  aJ (aM X.prog X.w) X.A (call (.builtin id) (v :: us)) (EP X pins Y Q) X.xe s
section
variable {X:Cx}{a b:aX}{ta tb:TE}{pos:Pos}
theorem IxR.or{r m:R2}(h:IxR X r)(h':IxR X m):IxR X (λx y H Q=>r x y H Q \/ m x y H Q):=by
 intro value slice pins s Y H x y v u Q I g f q o;rcases q with q|q
 ·exact h value slice pins s Y H x y v u Q I g f q o
 ·exact h' value slice pins s Y H x y v u Q I g f q o
theorem zaj1{r:R2}(hr:IxR X r)(p:PE X a ta)(o:PE X b tb)(m:zgx b):PE X (.Subscript a b pos) (tOp r ta tb):=by
 walk_at"1";exact mH (binT p o I h λv u s2 x y H2 w g f q=>hr a b pins s2 Y H2 x y v u Q w g f q (m _ _))
def rIxL(K:Fg):R2:=λx y H Q=>∃p xs i v,x=.ref p/\y=.int i/\SqL K H p xs/\atI xs i=some v/\Q v H
def rIxT(K:Fg):R2:=λx y H Q=>∃p xs i v,x=.ref p/\y=.int i/\SqT K H p xs/\atI xs i=some v/\Q v H
def rIxS:R2:=λx y H Q=>∃z i c,x=.str z/\y=.int i/\z.length<=sizeLine/\atI z.cps.toList i=some c/\Q (.str ⟨#[c]⟩) H
theorem zm91:IxR X (rIxL X.K):=by
 intro value slice pins s Y H x y v u Q I G E h A;obtain⟨p,xs,i,z,rfl,rfl,J,L,q⟩:=h;cases G;obtain⟨t,rfl⟩:=E;obtain⟨its,r,pl,hz⟩:=I.list J;obtain⟨j,g,O,U,N,M⟩:=zat L;obtain⟨w,C,o⟩:=r.get O;have hl:=r.length;have S:=zei;have f:EP X pins Y Q w s:=⟨z,H,I,o,q⟩
 by_cases B:0<=i
 ·have m:i.toNat=j:=by
   rw[lM B M]at g;exact w8.inj g
  exact item_listR pl.isList B (by lia) (by rw[m];simpa using C) f A
 ·have m:(i+(its.toArray.size:Int)).toNat=j:=by
   rw[iZ (by lia) N]at g;rw[v8,<- hl];exact w8.inj g
  exact hV (x:=w) pl.isList.typeIs slot_list_getitem.lookup
   (wpAny_getItem_list_neg (Q:=λr s'=>r=w/\EP X pins Y Q r s') pl.isList (by lia) (by rw[v8] <;> lia) (by lia) (by rw[m];simpa using C) ⟨rfl,f⟩) A
theorem zld1:IxR X (rIxT X.K):=by
 intro value slice pins s Y H x y v u Q I o m h A;obtain⟨p,xs,i,z,rfl,rfl,B,C,q⟩:=h;cases o;obtain⟨t,rfl⟩:=m;obtain⟨its,r,pl,hz⟩:=I.tuple B;obtain⟨j,G,E,O,N,M⟩:=zat C;obtain⟨w,J,f⟩:=r.get E;have hl:=r.length;have L:=zei;have g:EP X pins Y Q w s:=⟨z,H,I,f,q⟩
 exact hV (x:=w) pl.typeIs slot_tuple_getitem.lookup
  (getItem_tuple (j:=j) (Q:=λr s'=>r=w/\EP X pins Y Q r s') pl (by lia) (by lia) (by rw[v8,<- hl];exact G) (by simpa using J) ⟨rfl,g⟩) A
theorem zbc1:IxR X rIxS:=by
 intro value slice pins s Y H x y v u Q I m g h o;obtain⟨z,i,c,rfl,rfl,hz,p,q⟩:=h;obtain⟨t,rfl⟩:=m;obtain⟨t',rfl⟩:=g;obtain⟨j,f,B,J,A,w⟩:=zat p;have hl:z.cps.toList.length=z.length:=by simp[Str.length]
 rw[hl]at f A w;have G:=zei;exact iG (l9 s z t) slot_str_getitem.lookup (getItem_str (c:=c) (by
  have E:decide (i < -(2 ^ 63:Int))=false:=bB (by lia);have C:decide (i ≥ 2 ^ 63)=false:=bB (by lia);rw[E,C,Bool.or_false]) (by rw[f];simpa using B) ⟨.str ⟨#[c]⟩,H,I.tok _,⟨_,rfl⟩,q⟩) o
def rIx(K:Fg):R2:=λx y H Q=>rIxL K x y H Q \/ rIxT K x y H Q \/ rIxS x y H Q
theorem zwf1:IxR X (rIx X.K):=zm91.or (zld1.or zbc1)
theorem zxn(its:List aA)(n j:Nat)(u:aA):fC (·.setIfInBounds j u) { cls:=.type "list",data:=.seq its.toArray n }={ cls:=.type "list",data:=.seq (its.set j u).toArray n }:=by
 simp[fC]
theorem Inv.lst{pins:List (aE×Obj)}{Y:St}{H:Hp}{s:aG}{p:aE}{xs:List V}(I:Inv X pins Y H s)(h:H p=some (.lst xs)) :
  ∃(its:List aA)(n:Nat),Vals xs its/\s.heap.get? p=some { cls:=.type "list",data:=.seq its.toArray n }/\xs.length<=sizeLine:=by
 obtain⟨z,its,n,r,e⟩:=I.hok p _ h;exact⟨its,n,r,e,z⟩
theorem Inv.lstUpd{Y:St}{H:Hp}{p:aE}{xs ys:List V}{its its':List aA}{n g:Nat}{f:Obj->Obj}(I:Inv X pins Y H s)(h:H p=some (.lst xs))
  (m:s.heap.get? p=some { cls:=.type "list",data:=.seq its.toArray n }) (hf:f { cls:=.type "list",data:=.seq its.toArray n }={ cls:=.type "list",data:=.seq its'.toArray g }) (r:Vals ys its') (hz:ys.length<=sizeLine) (t:Nat) :
  Inv X pins Y (upd H p (.lst ys)) { s with heap:=s.heap.update p f,toks:=t }:=by
 have e:(s.heap.update p f).get? p=some { cls:=.type "list",data:=.seq its'.toArray g }:=by
  rw[yT f m (by rw[hf] <;> rfl),hf]
 refine I.write (x:=p) (e:=p) (by rw[h];trivial) (.inl rfl) (λb u o q=>(yU _ _ (Ne.symm o)).trans q) ⟨_,e⟩ ?_;exact⟨hz,its',g,r,e⟩
def zph1:V->V->V->Hp->(Hp->Prop)->Prop:=λo i v H Q=>∃p xs k j,o=.ref p/\i=.int k/\H p=some (.lst xs)/\ixN xs.length k=some j/\Q (upd H p (.lst (xs.set j v)))
theorem zf01:PSet X zph1:=by
 intro pins s Y H o i v K L u Q I E G rv h;obtain⟨p,xs,k,j,rfl,rfl,w,J,q⟩:=h;cases E;obtain⟨t,rfl⟩:=G;obtain⟨its,n,r,g,hz⟩:=I.lst w;obtain⟨f,N,A,z⟩:=zwx J;have hl:=r.length;have M:=zei;have C:Inv X pins Y (upd H p (.lst (xs.set j v))) { s with heap:=s.heap.update p (fC (·.setIfInBounds j u)) } :=
  I.lstUpd w g (zxn its n j u) (r.set rv j) (by rw[wK];exact hz) s.toks
 by_cases B:0<=k
 ·have m:k.toNat=j:=by
   rw[lM B z]at f;exact w8.inj f
  exact PySem.W.ki_setAt g B (by lia) (by rw[v8,<- hl];exact z) (by rw[m];exact⟨_,C,q⟩)
 ·have m:(k+(its.toArray.size:Int)).toNat=j:=by
   rw[iZ (by lia) A]at f;rw[v8,<- hl];exact w8.inj f
  exact PySem.W.ki_setBack g (by lia) (by rw[v8,<- hl];exact A) (by lia) (by rw[m];exact⟨_,C,q⟩)
theorem zsi(lo hi:Option Int)(n:Nat):(bQ lo hi none n).1=((HT.sIx n 0 lo:Nat):Int)/\(bQ lo hi none n).2.1=((HT.sIx n n hi:Nat):Int)/\(bQ lo hi none n).2.2=1:=by
 refine⟨?_,?_,rfl⟩
 ·cases lo with
 |none=>simp[bQ,HT.sIx]
 |some i =>
   simp only[bQ,HT.sIx,Option.getD_none,show(1:Int) > 0 by decide,if_true];by_cases h:i < 0
   ·simp only[h,if_true] <;> lia
   ·simp only[h,if_false] <;> lia
 ·cases hi with
 |none=>simp[bQ,HT.sIx]
 |some i =>
   simp only[bQ,HT.sIx,Option.getD_none,show(1:Int) > 0 by decide,if_true];by_cases h:i < 0
   ·simp only[h,if_true] <;> lia
   ·simp only[h,if_false] <;> lia
theorem zkg(its:List aA)(lo hi:Option Int):gZ its.toArray lo hi none=((its.drop (HT.sIx its.length 0 lo)).take (HT.sIx its.length its.length hi - HT.sIx its.length 0 lo)).toArray:=by
 obtain⟨m,g,f⟩:=zsi lo hi its.toArray.size;unfold gZ;rw[m,g,f];simp only[sliceRange_one,pick_run,v8] <;> rfl
def rSlL(K:Fg):V->Option Int->Option Int->Hp->VK->Prop:=λx lo hi H Q=>∃a xs,x=.ref a/\SqL K H a xs/\∀p,H p=none->Q (.ref p) (upd H p (.lst (cutV xs lo hi)))
theorem zwa1:SlR X (rSlL X.K):=by
 walk_at"16";obtain⟨a,xs,rfl,w,q⟩:=h;cases m;obtain⟨its,r,g,hz⟩:=I.list w;have f:=r.length;refine⟨"list",_,slot_list_getitem.lookup,g.isList.typeIs,?_⟩;refine gR g.isList z pl p .none (by simp) ?_ (by rw[v8] <;> lia);rw[zkg,<- f];refine⟨.ref s.heap.objs.size,_,I.laid (t':=s.toks) (o:=.lst (cutV xs lo hi)) (λb ob q=>vU _ q) (u7 _) ?_,rfl,q _ (I.hok.fresh (u7 _))⟩;exact⟨wX (zud xs lo hi) hz,_,0,(r.drop (HT.sIx xs.length 0 lo)).take (HT.sIx xs.length xs.length hi - HT.sIx xs.length 0 lo),v7 _ rfl⟩
def zvt:V->Bool
|.non=>true
|.bl _=>true
|.int _=>true
|.str _=>true
|_=>false
def eqV:V->V->Bool
|.non,.non=>true
|.bl a,.bl b=>a == b
|.bl a,.int b=>(if a then 1 else 0) == b
|.int a,.bl b=>a == (if b then 1 else 0)
|.int a,.int b=>a == b
|.str a,.str b=>a == b
|_,_=>false
theorem znd1{A:a7}{v:aA}(g:RelV y u)(f:RelV x v)(m:zvt y=true)(fx:zvt x=true):nT A s u v (eqV y x):=by
 cases y with
|non =>
  cases g;cases x with
 |non=>cases f;exact SeqAt.EqAt.same _
 |bl b=>cases f;exact SeqAt.EqAt.none_bool b
 |int b=>obtain⟨t,rfl⟩:=f;exact SeqAt.EqAt.none_int b t
 |str b=>obtain⟨t,rfl⟩:=f;exact SeqAt.EqAt.none_str b t
 |_=>exact aL (show false=true from fx) wA
|bl a =>
  cases g;cases x with
 |non=>cases f;exact SeqAt.EqAt.bool_none a
 |bl b=>cases f;exact SeqAt.EqAt.bool_bool a b
 |int b=>obtain⟨t,rfl⟩:=f;exact SeqAt.EqAt.bool_int a b t
 |str b=>obtain⟨t,rfl⟩:=f;exact SeqAt.EqAt.bool_str a b t
 |_=>exact aL (show false=true from fx) wA
|int a =>
  obtain⟨t',rfl⟩:=g;cases x with
 |non=>cases f;exact SeqAt.EqAt.int_none a t'
 |bl b=>cases f;exact SeqAt.EqAt.int_bool a t' b
 |int b=>obtain⟨t,rfl⟩:=f;exact SeqAt.EqAt.int_int a t' b t
 |str b=>obtain⟨t,rfl⟩:=f;exact SeqAt.EqAt.int_str a t' b t
 |_=>exact aL (show false=true from fx) wA
|str a =>
  obtain⟨t',rfl⟩:=g;cases x with
 |non=>cases f;exact SeqAt.EqAt.str_none a t'
 |bl b=>cases f;exact SeqAt.EqAt.str_bool a t' b
 |int b=>obtain⟨t,rfl⟩:=f;exact SeqAt.EqAt.str_int a t' b t
 |str b=>obtain⟨t,rfl⟩:=f;exact SeqAt.EqAt.str_str a t' b t
 |_=>exact aL (show false=true from fx) wA
|_=>exact aL (show false=true from m) wA
def eqU(x:V)(u:aA):Bool:=match u with
|.none=>eqV .non x
|.bool b=>eqV (.bl b) x
|.int i _=>eqV (.int i) x
|.str z _=>eqV (.str z) x
|_=>false
theorem zm61(r:RelV y u)(f:zvt y=true):eqU x u=eqV y x:=by
 cases y with
|non=>cases r;rfl
|bl b=>cases r;rfl
|int i=>obtain⟨t,rfl⟩:=r;rfl
|str z=>obtain⟨t,rfl⟩:=r;rfl
|_=>exact aL (show false=true from f) wA
theorem zah{x:V}:∀{xs:List V}{us:List aA},Vals xs us->xs.all zvt=true->us.any (eqU x)=xs.any λy=>eqV y x
|_,_,.nil,_=>rfl
|y :: xs,u :: us,.cons r t,f=>by
  rw[zJ,yA]at f;rw[xY,xY,zm61 r f.1,zah t f.2]
theorem zkc{A:a7}{s:aG}{x:V}{v:aA}(m:RelV x v)(fx:zvt x=true):∀{xs:List V}{us:List aA},Vals xs us->xs.all zvt=true->∀u∈us,nT A s u v (eqU x u)
|_,_,.nil,_=>λu g=>by cases g
|y :: xs,u :: us,.cons r t,f=>λo g=>by
  rw[zJ,yA]at f;rcases vT.mp g with rfl|g
  ·rw[zm61 r f.1];exact znd1 r m f.1 fx
  ·exact zkc m fx t f.2 o g
def inV(x:V)(xs:List V):Bool:=xs.any λy=>eqV y x
def rIn(K:Fg)(neg:Bool):R2:=λx y H Q=>∃p xs,y=.ref p/\(SqL K H p xs \/ SqT K H p xs)/\zvt x=true/\xs.all zvt=true/\Q (.bl (if neg then !inV x xs else inV x xs)) H
theorem zmv:OpR X (a9 .In) (rIn X.K false):=by
 walk_at"10";obtain⟨p,xs,rfl,f,fx,fs,q⟩:=h;cases m;rcases f with f|f
 ·obtain⟨its,r,pl,hz⟩:=I.list f;refine SeqAt.in_listAt (eqU x) pl.isList (λw hw=>zkc g fx r fs w (by simpa using hw)) ⟨.bl _,H,I,rfl,?_⟩;rw[show its.toArray.any (eqU x)=its.any (eqU x) by simp,zah r fs];exact q
 ·obtain⟨its,r,pl,hz⟩:=I.tuple f;refine SeqAt.in_tupleAt (eqU x) pl (λw hw=>zkc g fx r fs w (by simpa using hw)) ⟨.bl _,H,I,rfl,?_⟩;rw[show its.toArray.any (eqU x)=its.any (eqU x) by simp,zah r fs];exact q
theorem zbk:OpR X (a9 .NotIn) (rIn X.K true):=by
 walk_at"10";obtain⟨p,xs,rfl,f,fx,fs,q⟩:=h;cases m;rcases f with f|f
 ·obtain⟨its,r,pl,hz⟩:=I.list f;refine SeqAt.notIn_listAt (eqU x) pl.isList (λw hw=>zkc g fx r fs w (by simpa using hw)) ⟨.bl _,H,I,rfl,?_⟩;rw[show its.toArray.any (eqU x)=its.any (eqU x) by simp,zah r fs];exact q
 ·obtain⟨its,r,pl,hz⟩:=I.tuple f;refine SeqAt.notIn_tupleAt (eqU x) pl (λw hw=>zkc g fx r fs w (by simpa using hw)) ⟨.bl _,H,I,rfl,?_⟩;rw[show its.toArray.any (eqU x)=its.any (eqU x) by simp,zah r fs];exact q
theorem zwh:OpR X (a9 .NotIn) (λx y H Q=>∃i j,x=.str i/\y=.str j/\Q (.bl (!(!(Builtin.Str.occurrences j i 0 j.length 1).isEmpty))) H):=by
 walk_at"11";obtain⟨i,j,rfl,rfl,q⟩:=h;obtain⟨t,rfl⟩:=g;obtain⟨t',rfl⟩:=f;exact notIn_str ⟨.bl _,H,I,rfl,q⟩
theorem CallR.or{f:aA}{r g:List V->Hp->VK->Prop}(h:CallR X f r)(h':CallR X f g):CallR X f (λxs H Q=>r xs H Q \/ g xs H Q):=by
 intro pins s Y H xs us Q I rs q;rcases q with q|q
 ·exact h pins s Y H xs us Q I rs q
 ·exact h' pins s Y H xs us Q I rs q
theorem zdk:CallR X (.type "list") (λxs H Q=>∃p ys,xs=[.ref p]/\(SqL X.K H p ys \/ SqT X.K H p ys)/\∀l,H l=none->Q (.ref l) (upd H l (.lst ys))):=by
 walk_at"3";obtain⟨p,ys,rfl,z,q⟩:=h;obtain⟨u,rfl,J⟩:=zwl r;cases J;have A:∀(its:List aA),Vals ys its->ys.length<=sizeLine->∀(h':aT)(g:Nat),(∀b G,s.heap.get? b=some G->h'.get? b=some G) ->
   h'.get? s.heap.objs.size=some { cls:=.type "list",dict:=none,data:=.seq its.toArray g,slots:=#[] }->EP X pins Y Q (.ref s.heap.objs.size) { s with heap:=h' }:=λits f hz h' g m e =>
  ⟨.ref s.heap.objs.size,_,I.laid (t':=s.toks) m (u7 _) (show ObjOk X.prog X.w _ h' _ (.lst ys)from⟨hz,its,g,f,e⟩),rfl,q _ (I.hok.fresh (u7 _))⟩
 rcases z with z|z
 ·obtain⟨its,f,pl,hz⟩:=I.list z;have B:=f.length;obtain⟨o,C,E,n,hd⟩:=pl.isList;exact call_list_seq p (.inl rfl) C E hd (λh' g m e=>A its f hz h' g m e) (by simp only[v8] <;> lia)
 ·obtain⟨its,f,pl,hz⟩:=I.tuple z;have B:=f.length;obtain⟨o,C,E,n,hd⟩:=pl;exact call_list_seq p (.inr rfl) C E hd (λh' g m e=>A its f hz h' g m e) (by simp only[v8] <;> lia)
def tyV(K:Fg)(T:String)(x:V)(H:Hp):Prop:=match x with
|.str _=>T = "str"
|.int _=>T = "int"
|.ref p=>(T = "list"/\∃xs,SqL K H p xs) \/ (T = "tuple"/\∃o,K.lookup p=some o/\o.cls=.type "tuple"/\o.dict=none) \/
   (T = "dict"/\((∃kvs,H p=some (.dK kvs)) \/ ∃kvs,H p=some (.dT kvs))) \/ (T = "set"/\∃S n,H p=some (.set S n))
|_=>False
theorem zd81{Y:St}{H:Hp}{T:String}{v:aA}(I:Inv X pins Y H s)(r:RelV x v)(ty:tyV X.K T x H) :
  s.TypeIs v T/\∀a,v=.ref a->∃ob,s.heap.get? a=some ob/\ob.dict=none:=by
 cases x with
|str z =>
  obtain⟨t,rfl⟩:=r;cases (show T = "str" from ty);exact⟨l9 s z t,λ_ e=>nomatch e⟩
|int i =>
  obtain⟨t,rfl⟩:=r;cases (show T = "int" from ty);exact⟨mB s i t,λ_ e=>nomatch e⟩
|ref p =>
  cases r;rcases ty with⟨rfl,xs,m⟩|⟨rfl,o,f,q,hd⟩|⟨rfl,f⟩|⟨rfl,S,n,f⟩
  ·obtain⟨its,_,pl,_⟩:=I.list m;refine⟨pl.isList.typeIs,λa e=>?_⟩;cases e;obtain⟨o,n,e,c,hd,_⟩:=pl;exact⟨o,e,hd⟩
  ·refine⟨⟨o,I.kIn p o f,q⟩,λa e=>?_⟩;cases e;exact⟨o,I.kIn _ o f,hd⟩
  ·have z:∃o,s.heap.get? p=some o/\o.ExactDict:=by
    rcases f with⟨kvs,f⟩|⟨kvs,f⟩
    ·obtain⟨_,_,_,_,o,_,_,e,ex,_⟩:=I.hok p _ f;exact⟨o,e,ex⟩
    ·obtain⟨_,_,_,_,o,_,_,e,ex,_⟩:=I.hok p _ f;exact⟨o,e,ex⟩
   obtain⟨o,e,ex⟩:=z;refine⟨⟨o,e,ex.1⟩,λa g=>?_⟩;cases g;exact⟨o,e,ex.2.1⟩
  ·obtain⟨o,_,_,_,e,ex,_⟩:=I.hok p _ f;refine⟨⟨o,e,ex.1⟩,λa g=>?_⟩;cases g;exact⟨o,e,ex.2.1⟩
|_=>exact False.elim ty
def tBM0(K:Fg)(T:String)(r:V->List V->Hp->VK->Prop)(g:TE):TE:=λY H Q=>g Y H λx f=>tyV K T x f/\r x [] f Q
def tBM(K:Fg)(T:String)(r:V->List V->Hp->VK->Prop)(g:TE)(t:TA):TE:=λY H Q=>g Y H λx f=>tyV K T x f/\t Y f λxs H2=>r x xs H2 Q
variable {o e:aX}{es:List aX}{to:TE}{t:TA}{name:Str}{apos cpos:Pos}{T id:String}{r:V->List V->Hp->VK->Prop}
theorem zyf1(z:iK T)(slot:Slot T name id)(m:nK (.builtin id)=pure (.type "method_descriptor"))(B:MtR X id r)(A:PE X o to)
  (g:dM o name X.env (bA o X.env)=bA o X.env:=by rfl) (f:(apos.endLine == cpos.line)=true:=by rfl):PE X (.Call (.Attribute o name apos) [] [] cpos) (tBM0 X.K T r to):=by
 walk_at"1";refine wpAny_Call_method0_late g f (thn (A pins s Y H _ I h) λv s1 hz=>?_);obtain⟨x,G,q,p,ty,w⟩:=hz;obtain⟨E,C⟩:=zd81 q p ty;exact⟨T,id,z,slot,m,E,C,Calls.callWith_builtin rfl (PySem.evalArgs_none (B pins s1 Y G x [] v [] Q q p .nil w))⟩
theorem zki1(G:iK T)(slot:Slot T name id)(q:nK (.builtin id)=pure (.type "method_descriptor"))(M:MtR X id r)(L:PE X o to)(N:PA X (e :: es) t)
  (m:dM o name X.env (bA o X.env)=bA o X.env:=by rfl)
  (p:((b9 cpos (aS (e :: es) X.env)).all (λx=>!x.1) && (d6 cpos (dG [] X.env)).all (λx=>x.1.isSome)
   && decide ((e :: es).length+([]:List h7).length+(if([]:List h7).isEmpty then 0 else 1) < 30))=true:=by rfl)
  (g:(apos.endLine == cpos.line)=true:=by rfl) (J:aS (e :: es) X.env=(false,bA e X.env) :: aS es X.env:=by rfl) (f:(b9 cpos (aS es X.env)).any (·.1)=false:=by rfl) :
  PE X (.Call (.Attribute o name apos) (e :: es) [] cpos) (tBM X.K T r to t):=by
 walk_at"1";refine wpAny_Call_method_late m p g rfl (thn (L pins s Y H _ I h) λv s1 hz=>?_);obtain⟨x,W,A,w,ty,E⟩:=hz;obtain⟨S,O⟩:=zd81 A w ty;refine⟨T,id,G,slot,q,S,O,?_⟩;have z:=N cpos pins s1 Y W _ A E;rw[J]at z ⊢;refine Calls.callWith_builtin (by show(false || (b9 cpos (aS es X.env)).any (·.1))=false;rw[f] <;> rfl) (Calls.evalArgs_plain ?_);exact thn z λus s2 ⟨vs,H2,U,B,C⟩=>M pins s2 Y H2 x vs v us Q U w B C
end
def MtM(X:Cx)(id:String)(r:V->List V->Hp->VK->Prop):Prop :=
 ∀(pins:List (aE×Obj))(s:aG)(Y:St)(H:Hp)(x:V)(xs:List V)(v:aA)(us:List aA)(Q:VK),Inv X pins Y H s->RelV x v->Vals xs us->r x xs H Q ->
  aJ (aM X.prog X.w) X.A (call (.builtin id) (v :: us)) (EP X pins Y Q) X.xe s
theorem Vals.one(h:Vals [x] us):∃u,us=[u]/\RelV x u:=by cases h with|cons r t=>cases t;exact⟨_,rfl,r⟩
theorem Vals.two(h:Vals [x,y] us):∃u v,us=[u,v]/\RelV x u/\RelV y v:=by cases h with|cons r t=>cases t with|cons q t=>cases t;exact⟨_,_,rfl,r,q⟩
theorem Vals.zero:∀{us:List aA},Vals [] us->us=[]
|_,.nil=>rfl
theorem Vals.dropLast{xs:List V}{us:List aA}(h:Vals xs us):Vals xs.dropLast us.dropLast:=by
 induction h with
|nil=>exact .nil
|cons r t a =>
  cases t with
 |nil=>exact .nil
 |cons q t'=>exact .cons r a
theorem Vals.rep{xs:List V}{us:List aA}(h:Vals xs us):∀k:Nat,Vals (vY k xs).flatten (vY k us).flatten
|0=>.nil
|k+1=>by
  rw[yV,yV,y4,y4];exact Vals.append h (Vals.rep h k)
theorem zhs{α:Type}(l:List α):l.eraseIdx (l.length - 1)=l.dropLast:=by
 induction l with
|nil=>rfl
|cons a r f =>
  cases r with
 |nil=>rfl
 |cons b r =>
   have e:(a :: b :: r).length - 1=((b :: r).length - 1)+1:=by
    have m:(a :: b :: r).length=r.length+2:=rfl;have g:(b :: r).length=r.length+1:=rfl;lia
   rw[e,uaW,f]
   all_goals rfl
theorem zfk(its:List aA):∀(k:Nat)(acc:List aA),
  List.foldl (λx1 x2=>x1++x2) acc.toArray (vY k its.toArray)=(acc++(vY k its).flatten).toArray
|0,acc=>by simp
|k+1,acc=>by
  have e:acc.toArray++its.toArray=(acc++its).toArray:=by simp
  have a:(acc++its)++(vY k its).flatten=acc++(vY (k+1) its).flatten:=by
   rw[yV,y4,wD]
  rw[<- a,<- zfk its k (acc++its),<- e,yV,zK]
section
variable {X:Cx}{pins:List (aE×Obj)}{Y:St}{H:Hp}{s:aG}{l b:aE}{xs ys zs:List V}
theorem Inv.lset{its its':List aA}{n:Nat}{f:Array aA->Array aA}{t':Nat}(I:Inv X pins Y H s)(o:H l=some (.lst xs))
  (e:s.heap.get? l=some { cls:=.type "list",data:=.seq its.toArray n }) (hf:f its.toArray=its'.toArray) (a:Vals ys its') (hz:ys.length<=sizeLine) :
  Inv X pins Y (upd H l (.lst ys)) { s with heap:=s.heap.update l (fC f),toks:=t' }:=by
 have q:=PySem.IsL.update e f;rw[hf]at q;refine I.write (x:=l) (e:=l) (by rw[o];exact trivial) (.inl rfl) (λp u m g=>(yU s.heap (fC f) (Ne.symm m)).trans g) ⟨_,q⟩ ?_;exact⟨hz,its',_,a,q⟩
theorem Inv.lnew{t':Nat}(I:Inv X pins Y H s)(a:Vals ys its)(hz:ys.length<=sizeLine) :
  Inv X pins Y (upd H s.heap.objs.size (.lst ys)) { s with heap:=s.heap.push { cls:=.type "list",data:=.seq its.toArray },toks:=t' } :=
 I.laid (λ_ _ q=>vU _ q) (u7 _) ⟨hz,its,0,a,v7 _ rfl⟩
theorem Inv.fresh(I:Inv X pins Y H s):H s.heap.objs.size=none:=I.hok.fresh (u7 _)
theorem Inv.lstM(I:Inv X pins Y H s)(a:H l=some (.lst xs)):xs.length<=sizeLine/\∃(its:List aA)(n:Nat),Vals xs its/\xs.length=its.length/\s.heap.get? l=some { cls:=.type "list",data:=.seq its.toArray n }:=by
 obtain⟨z,its,n,r,e⟩:=I.hok l _ a;exact⟨z,its,n,r,r.length,e⟩
theorem zij(h:n<=sizeLine):cG n=false:=by
 unfold cG;exact bB (by lia)
end
section
variable {X:Cx}
def zww:V->List V->Hp->VK->Prop:=λx vs H Q=>∃l xs y,x=.ref l/\vs=[y]/\H l=some (.lst xs)/\xs.length < sizeLine/\Q .non (upd H l (.lst (xs++[y])))
theorem zz2:MtM X "list.append" zww:=by
 intro pins s Y H x vs v us Q I b rv h;obtain⟨l,xs,y,rfl,rfl,a,hz,q⟩:=h;cases b;obtain⟨u,rfl,f⟩:=rv.one;obtain⟨z,its,n,r,hl,e⟩:=I.lstM a;refine e9 F.slot_list_append ⟨_,e,rfl⟩ F.entry_list_append (F.args_list_append_2 _ _) (PySem.list_append l its.toArray n u (by rw[v8];lia)) ⟨e,?_⟩;refine⟨.non,_,I.lset (its':=its++[u]) a e (by simp) (r.append (.cons f .nil)) ?_,rfl,q⟩;rw[vW,zL];lia
def rPop:V->List V->Hp->VK->Prop:=λx vs H Q=>∃l xs y,x=.ref l/\vs=[]/\H l=some (.lst xs)/\xs[xs.length - 1]?=some y/\Q y (upd H l (.lst xs.dropLast))
theorem zl21:MtM X "list.pop" rPop:=by
 intro pins s Y H x vs v us Q I g rv h;obtain⟨l,xs,y,rfl,rfl,f,o,q⟩:=h;cases g;have b:=rv.zero;subst b;obtain⟨z,its,n,r,hl,e⟩:=I.lstM f;obtain⟨u,p,m⟩:=r.get o;have a:its.toArray[its.toArray.size - 1]?=some u:=by
  show its.toArray[its.length - 1]?=some u;rw[<- yJ,<- hl];exact p
 refine e9 F.slot_list_pop ⟨_,e,rfl⟩ F.entry_list_pop (F.args_list_pop_1 _) (MeetsSeq.list_pop_last l its.toArray n u a (by rw[v8];lia)) ⟨e,?_⟩;refine⟨y,_,I.lset (its':=its.dropLast) f e ?_ r.dropLast ?_,m,q⟩
 ·show its.toArray.eraseIdxIfInBounds (its.toArray.size - 1)=its.dropLast.toArray;rw[v8,List.eraseIdxIfInBounds_toArray,zhs]
 ·rw[List.length_dropLast];lia
def rCat:R2:=λx y H Q=>∃l b xs a,x=.ref l/\y=.ref b/\H l=some (.lst xs)/\H b=some (.lst a)/\xs.length+a.length<=sizeLine/\∀p,H p=none->Q (.ref p) (upd H p (.lst (xs++a)))
theorem zcc1:OpR X (bR .Add) rCat:=by
 walk_at"11";obtain⟨l,b,xs,B,rfl,rfl,o,hB,hz,q⟩:=h;cases g;cases f;obtain⟨z,its,n,r,hl,e⟩:=I.lstM o;obtain⟨C,a,n2,m,A,w⟩:=I.lstM hB;refine PySem.P.add_list e w ?_ (by rw[v8,v8];lia);have p:its.toArray++a.toArray=(its++a).toArray:=by simp
 rw[p];exact⟨.ref _,_,I.lnew (t':=s.toks) (r.append m) (by rw[vW];lia),rfl,q _ I.fresh⟩
def rRep:R2:=λx y H Q=>∃l k xs,x=.ref l/\y=.int k/\H l=some (.lst xs)/\-(2 ^ 63)<=k/\k < 2 ^ 63/\xs.length * k.toNat<=sizeLine /\
 ∀p,H p=none->Q (.ref p) (upd H p (.lst (vY k.toNat xs).flatten))
theorem ze71{α:Type}(xs:List α)(k:Nat):(vY k xs).flatten.length=k * xs.length:=by
 induction k with
|zero=>simp
|succ k a=>rw[yV,y4,vW,a,Nat.succ_mul,Nat.add_comm]
theorem zq71:OpR X (bR .Mult) rRep:=by
 intro pins s Y H x y v u Q I A w h;obtain⟨l,k,xs,rfl,rfl,B,E,C,hz,q⟩:=h;cases A;obtain⟨t,rfl⟩:=w;obtain⟨z,its,n,r,hl,e⟩:=I.lstM B;have g:its.toArray.size * k.toNat<=sizeLine:=by rw[v8,<- hl];exact hz
 have p:¬its.toArray.size * k.toNat > (2 ^ 63 - 1) / 8:=by
  have:(sizeLine:Nat)<=(2 ^ 63 - 1) / 8:=by decide
  lia
 have o:¬(!Builtin.List.listFitsIndex k)=true:=by
  rw[fitsIndex_both E C];exact wA
 have b:¬cG (its.toArray.size * k.toNat)=true:=by
  rw[zij g];exact wA
 have f:List.foldl (λx1 x2=>x1++x2) #[] (vY (if its.toArray.isEmpty=true then 0 else k.toNat) its.toArray)=(vY k.toNat its).flatten.toArray:=by
  have G:∀m:Nat,List.foldl (λx1 x2=>x1++x2) #[] (vY m its.toArray)=(vY m its).flatten.toArray:=λm=>by
   have:=zfk its m [];rw[List.nil_append]at this;exact this
  rw[G];cases its with
 |nil=>simp
 |cons a J=>rw[aF (by simp)]
 refine wpAny_binaryOp_repeat_ref (T := "list") (U := "int") (by decide) ⟨_,e,rfl⟩ (λs'=>mB s' k t) noFill_list_mul F.fills_int_mul mO repeat_list F.slot_int_index.lookup
  (e9 mO (mB s k t) F.entry_int_rmul (F.args_int_rmul_2 _ _) (int___rmul___int_list k t l its.toArray n)
   ⟨e,rfl,⟨_,e,rfl⟩,e9 F.slot_list_mul ⟨_,e,rfl⟩ F.entry_list_mul (F.args_list_mul_2 _ _) (AutoListH.list___mul___list_int_3 l its.toArray n k t o p b) ⟨e,?_⟩⟩)
 rw[f];exact⟨.ref _,_,I.lnew (t':=s.toks) (r.rep k.toNat) (by rw[ze71,j7];exact hz),rfl,q _ I.fresh⟩
end
end _2
namespace Att
open PySem PySem.W PySem.Calls PyProof.Rows
variable {n:Nat}
theorem zad{P:nO}{h:aT}:∀(ns:List Int)(vs:List aA),WellAll P h vs (ns.map WData.int)->dL vs ns:=by
 intro ns
 induction ns with
|nil =>
  intro vs w;rw[yS]at w;cases w;exact .nil
|cons n ns f =>
  intro vs w;rw[v9]at w;cases w with
 |cons a b =>
   cases a;exact .cons _ _ (f _ b)
theorem zyv{l:OpenLaw}(z:l.most=some n){P:nO}{h:aT}{args:List WData}{b:List aA}
  (f:l.row.toRowW.claim.pre args=true) (p:WellAll P h b args) :
  ∃a vs ns,b=[v3 a]/\args=[WData.list (ns.map WData.int)]/\h.get? a=some { cls:=.type "list",data:=.seq vs.toArray }/\dL vs ns/\ns.length<=n:=by
 have s:WShape.hasAll [] args [.list .int]=true:=(pre_splitW f).1;have u:l.pre.holds [] { args:=args }=true:=(pre_splitW f).2;obtain⟨d,r,rfl,C,B⟩:=hasAllW_cons s;obtain rfl:=hasAllW_nil B;obtain⟨xs,rfl,A⟩:=hasW_list C;obtain⟨ns,rfl⟩:=items_int A;have g:ns.length<=n:=by
  unfold OpenLaw.pre at u;have o:(WTm.not (.lt (.lit (.int (n:Int))) (.len (.arg 0)))).holds [] { args:=[.list (ns.map .int)] }=true:=by
   have o:=(holds_andW u).1;rw[z]at o;exact o
  have m:=condW_of o (w_not (w_lt w_lit (w_len_list (w_arg rfl))));rw[u5]at m;refine Nat.le_of_not_lt λq=>?_;have x:(n:Int) < ((ns.length:Nat):Int):=by lia
  first
  |(rw[bW x]at m;exact aL m (by decide))
  |(simp at m;lia)
 cases p with
|cons w1 w =>
  cases w;cases w1 with
 |list y i=>exact⟨_,_,ns,rfl,rfl,y,zad ns _ i,g⟩
theorem ztu(l:OpenLaw)(args:List WData):l.row.toRowW.claim.post args (.bool true) args=true :=
 postW_of (r:=l.row.toRowW) (X:=(true == true))
  (show WShape.has [] (.bool true) .bool=true by first|rfl|decide|simp[WShape.has,WShape.arms,WShape.armsAll])
  (show(WTm.eq .res (.lit (.bool true))).value [] { args:=args,res:=some (.bool true),after:=args }=some (.bool (true == true))from w_eq_bool (w_res rfl) w_lit) rfl
theorem attach_call{l:OpenLaw}{q:aN}{b:List Str}{L:(Str->Option aA)->aT->Prop}{K:aP->aT->Prop}{d:DefRec}
  (U:l.most=some n) (E:d.params.defaults=[])
  (call:∀(w:aP)(s₀ s₁:aG)(mg A:Str->Option aA)(m:aE)(o:Obj)(z y g:aA)(a:aE)(vs:List aA)(ns:List Int),
   Ground q b [] L w s₀ mg A s₁.heap->K w s₁.heap ->
   s₁.heap.get? m=some o->o.data=.func (docDef d.name d.params d.body d.scope z y g)->s₁.heap.CodeRec y d.name->mg d.name=some (.ref m) ->
   s₁.heap.get? a=some { cls:=.type "list",data:=.seq vs.toArray }->dL vs ns->ns.length<=n->s₁.gens=#[] ->
   cP (aM l.prog w) fP (.call (.ref m) ⟨[.ref a],[]⟩) (λr s'=>r=.ok (.ret (.bool true))/\OldK s₁.heap s'.heap/\s'.os=s₁.os/\eV s'.gens) s₁) :
  WalkO q b L K l.row.toRowW d [] (λf vs=>mI f vs):=by
 intro w s₀ s₁ mg A G Yv m o z y g dV kV S hd I J C X args M as p N hrd B hlo;obtain rfl:dV=.none:=Dflts.none J E;obtain rfl:kV=.none:=Dflts.noKw J;obtain⟨a,vs,ns,rfl,rfl,u,i,x⟩:=zyv U p B;refine enter_call (d7 (call w s₀ s₁ mg A m o z y g a vs ns G Yv S (fd_plain hd) I C u i x X) λr s' O=>?_);obtain⟨rfl,h2,Z,Y⟩:=O;exact⟨.inl ⟨.bool true,.bool true,[],rfl,λ_=>rfl,.bool true,ztu l _,λ_=>⟨List.Pairwise.nil,λ_ W=>(nomatch W)⟩⟩,h2,Z,Y⟩
end Att
namespace _2
open PySem PySem.Spec PyProof.Rows
variable {K:Fg}{a f:aE}{fd:cS}{ps:List Str}{qual x:Str}{sp:Sp}{st:dR}
theorem zh9:∀{vs:List aA}{ns:List Int},dL vs ns->Vals (ns.map V.int) vs
|_,_,.nil=>.nil
|_,_,.cons n t h=>.cons ⟨t,rfl⟩ (zh9 h)
def Only(H:Hp):Prop:=∀b,H b=none \/ ∃o xs,H b=some (.frz o (.lst xs))
theorem zp21{P:aN}{w:aP}{mg O:Str->Option aA}{CX:CXT}{k:Nat}{U:aE}{fd:cS}{sp:Sp}{s₁:aG}{vs:List aA}{ns:List Int}
  (KX:K.In s₁.heap) (G:s₁.heap.Ns aR mg) (i:s₁.heap.Ns mF O) (Z:∀x:Str,x ≠ "__name__"->O x=a8 x) (M:s₁.heap.NoLimit) (hg:s₁.gens=#[])
  (N:s₁.heap.get? a=some { cls:=.type "list",data:=.seq vs.toArray }) (hi:dL vs ns) (hl:ns.length<=sizeLine) (hr:Room k fP)
  (F:∀base:aT,K.In base->base.Ns aR mg->FnOk P w K mg base CX k U fd [x] sp) (A:∀(s:aG)(u:aA),fR s fd ⟨[u],[]⟩ [(x,u)])
  (Y:∀H:Hp,Only H->SqL K H a (ns.map V.int)->sp [.ref a] H (λv _=>v=.bl true) λ_ _ _=>False)
  (hCX:∀H e s',CX [] H s₁ (λ_ _ _=>False) e s'->False) :
  cP (aM P w) fP (.call (.ref U) ⟨[.ref a],[]⟩) (λr s'=>r=.ok (.ret (.bool true))/\OldK s₁.heap s'.heap/\s'.os=s₁.os/\eV s'.gens) s₁:=by
 have rv:=zh9 hi;have J:=hi.length
 -- from an abstract heap in which nothing but the script may be tracked
 have y:∀H:Hp,Only H->SqL K H a (ns.map V.int)->HOk P w H s₁.heap->(∀b,H b≠none->b=a)->(H a≠none->K.lookup a=none) ->
   cP (aM P w) fP (.call (.ref U) ⟨[.ref a],[]⟩) (λr s'=>r=.ok (.ret (.bool true))/\OldK s₁.heap s'.heap/\s'.os=s₁.os/\eV s'.gens) s₁:=by
  intro H hO hS E hA hK;have g:∀{b:aE}{o:Obj},s₁.heap.get? b=some o->H b=none->(hidT s₁.heap H).get? b=some o:=λe n=>zp31 e n;have X:∀{b:aE}{o:Obj}{C:Array DictEntry}{ep:Nat},s₁.heap.get? b=some o->o.data=.dict C ep->H b=none:=λ{b o C ep} e d=>by
   cases q:H b with
  |none=>rfl
  |some u =>
    have W:b=a:=hA b (by rw[q];simp);subst W;rw[N]at e;cases e;have d':Data.seq vs.toArray _=Data.dict C ep:=d;cases d'
  have p:∀{b:aE}{m:Str->Option aA},s₁.heap.Ns b m->(hidT s₁.heap H).Ns b m:=λ{b m} ⟨o,C,ep,e,d,r⟩=>⟨o,C,ep,g e (X e d),d,r⟩
  have I:K.In (hidT s₁.heap H):=λb o e=>g (KX b o e) (by
   cases q:H b with
  |none=>rfl
  |some u =>
    have W:b=a:=hA b (by rw[q];simp);subst W;rw[hK (by rw[q];simp)]at e;cases e)
  have hM:Mod K mg (hidT s₁.heap H):=⟨I,p G,⟨O,p i,Z⟩,let ⟨mc,h1,h2⟩:=M;⟨mc,p h1,h2⟩⟩
  have e0:Env0 P w K mg (hidT s₁.heap H) fP [] s₁ H:=⟨rfl,hM,λb o e=>zu61 e,Nat.le_of_eq (zuv _ _),trivial,λb i=>aL (show b∈([]:List aE)from i) (by simp),E,.of_eq hg⟩
  refine d7 ((F _ I (p G)).run fP [] s₁ H ⟨[.ref a],[]⟩ [.ref a] [.ref a] _ _ hr e0 (A s₁ (.ref a)) (.cons rfl .nil) (Y H hO hS)) λr s' h=>?_;cases r with
 |error e=>exact(hCX H e s' h).elim
 |ok fl =>
   cases fl with
  |next=>exact False.elim h
  |brk=>exact False.elim h
  |cont=>exact False.elim h
  |ret u =>
    obtain⟨v,H',os,bare,un,L,r',q⟩:=h;have q':v=.bl true:=q;subst q';obtain rfl:u=zS true:=r';refine⟨rfl,OldK.of_keep λb o e=>?_,os,bare⟩;cases q:H b with
   |none=>exact un.keep b o e q (by intro z;exact aL (show b∈([]:List aE)from z) (by simp)) (by simp)
   |some u =>
     rcases hO b with z|⟨ob,xs,z⟩
     ·rw[q]at z;cases z
     ·have z2:=un.frzs b ob _ z;obtain⟨e1,_⟩:=E b _ z;obtain⟨e2,_⟩:=L b _ z2;rw[e]at e1;cases e1;exact e2
 cases S:K.lookup a with
|some o =>
  -- the script is one of the module's own objects
  have e:=KX a o S;rw[N]at e;cases e;refine y (λ_=>none) (λ_=>.inl rfl) (.inr ⟨_,vs.toArray,_,S,rfl,rfl,rfl,by rw[v8,J];exact hl,by simpa using rv⟩) (λb u z=>by have B:(none:Option HO)=some u:=z;cases B) (λb z=>aL rfl z) λz=>aL rfl z
|none =>
  refine y (λb=>if b=a then some (.frz { cls:=.type "list",data:=.seq vs.toArray } (.lst (ns.map V.int)))else none) (λb=>?_) (.inl (.inr ⟨{ cls:=.type "list",data:=.seq vs.toArray },aH rfl⟩)) (λb u z=>?_) (λb z=>?_) λ_=>S
  ·by_cases i:b=a
   ·exact .inr ⟨_,_,aH i⟩
   ·exact .inl (aF i)
  ·by_cases i:b=a
   ·have B:=(aH i).symm.trans z;cases B;subst i;exact⟨N,by rw[u5];exact hl,vs,_,rv,N⟩
   ·have B:=(aF i).symm.trans z;cases B
  ·by_cases i:b=a
   ·exact i
   ·exact aL (aF i) z
theorem walk_of{l:g9}{n k:Nat}{q:aN}{m:List Str}{Z:(Str->Option aA)->aT->Prop}{J:aP->aT->Prop}{d:DefRec}{K:nO->Fg}{CX:aP->CXT}{sp:aP->Sp} 
  (M:l.most=some n) (B:n<=sizeLine) (E:d.params.defaults=[]) (hr:Room k fP)
  (S:∀(w:aP)(h:aT),J w h->(K w.params).In h)
  (F:∀(w:aP)(mg:Str->Option aA)(z:aE)(h:aT),(K w.params).In h->h.Ns aR mg->mg d.name=some (.ref z) ->
   ∃fd:cS,(∀(s:aG)(u:aA),fR s fd ⟨[u],[]⟩ [(x,u)]) /\
    ∀base:aT,(K w.params).In base->base.Ns aR mg->FnOk l.prog w (K w.params) mg base (CX w) k z fd [x] (sp w))
  (A:∀(w:aP)(H:Hp)(a:aE)(ns:List Int),ns.length<=n->Only H->SqL (K w.params) H a (ns.map V.int)->sp w [.ref a] H (λv _=>v=.bl true) λ_ _ _=>False)
  (I:∀(w:aP)(H:Hp)(s:aG)(e:aA)(s':aG),CX w [] H s (λ_ _ _=>False) e s'->False) :
  nD q m Z J l.row.toRowW d [] (λf vs=>mI f vs):=by
 refine Att.attach_call M E λw s₀ s₁ mg mb z o pm cd doc a vs ns G Y ho hd hcd C y p i N=>?_;have L:=S w _ Y;obtain⟨fd,O,X⟩:=F w mg z _ L G.T.g C;exact zp21 L G.T.g G.T.b G.T.builtins G.T.nolimit N y p (wX i B) hr X O (λH W U=>A w H a ns i W U) λH e s'=>I w H s₁ e s'
def zq4(s:dR)(j:Nat):Stmt:=match s with
|.ClassDef _ _ _ body _ _ _ _ _ _ _=>body.getD j (.Pass ⟨0,0,0,0⟩)
|_=>.Pass ⟨0,0,0,0⟩
def zn8(s:dR):Arguments:=match s with
|.FunctionDef _ a _ _ _ _ _ _ _ _=>a
|_=>{ posonlyargs:=[],args:=[],vararg:=none,kwonlyargs:=[],kw_defaults:=[],kwarg:=none,defaults:=[] }
def zm3(s:dR):List Stmt:=match s with
|.FunctionDef _ _ b _ _ _ _ _ _ _=>b
|_=>[]
def zh0(s:dR):Scope:=match s with
|.FunctionDef _ _ _ _ _ _ sc _ _ _=>sc
|_=>{ kind:=.function,names:=[],isGenerator:=false,isCoroutine:=false }
abbrev CX0:CXT:=λ_ _ _ _ _ _=>False
abbrev E0:XK:=λ_ _ _=>False
theorem zm51{X:Cx}:znj CX0 X E0:=λ_ _ _ _ _ _ _ h=>h.elim
structure Fun(K:Fg)(x qual:Str)(st:dR)(f:aE)(fd:cS):Prop where
 ex:∃(oc:aA)(od:Option aE)(kV doc pm:aA)(an:Option aE)(cdv ct:aA)(osl:Array (Option aA)),
  fd=bV x qual (zn8 st) (zm3 st) (zh0 st) .none kV doc pm an cdv ct/\K.lookup f=some ⟨oc,od,.func fd,osl⟩/\dH K cdv qual=true
 kp:bK K (.ref f)=true
section
variable {P:aN}{w:aP}{K:Fg}{mg:Str->Option aA}{base:aT}
theorem Fun.ok{N:List Str}{k:Nat}(F:Fun K x qual st f fd)(S:FnScope N ps (zh0 st))(len:∀vs H Q E,sp vs H Q E->vs.length=ps.length)
  (b:∀(cdv:aA)(A:a7)(outer:List Env)(s:aG)(H:Hp)(vs:List V)(Q:VK)(E:XK),Room k (A.deeper (dW qual (zh0 st) s.heap.objs.size f cdv))->sp vs H Q E ->
   ∃t,PSs (cxOf CX0 P w K mg base N qual (zh0 st) f cdv A outer s H E).nox (zm3 st) t/\t { nx:=λ_ H'=>Q .non H',rt:=Q } (start N vs) H):FnOk P w K mg base CX0 (k+1) f fd ps sp:=by
 obtain⟨y,u,kV,o,p,z,cdv,ct,n,rfl,m,i⟩:=F.ex;refine zvh1 m i S len λA outer s H vs Q E hr g=>?_;obtain⟨t,h,q⟩:=b cdv A outer s H vs Q E hr g;exact⟨t,h.nox,q⟩
theorem Fun.binds(F:Fun K x qual st f fd)
  (h:∀(kV b g:aA)(i:Option aE)(cdv ct:aA)(us:List aA),us.length=ps.length->lQ (bV x qual (zn8 st) (zm3 st) (zh0 st) .none kV b g i cdv ct) ⟨us,[]⟩=pure (ps.zip us)):Binds K fd ps []:=by
 obtain⟨p,o,kV,b,g,i,cdv,ct,m,rfl,q,n⟩:=F.ex;exact .all (h kV b g i cdv ct)
theorem zo91{o:aA}{n m:Option aE}{g:Array (Option aA)}{kV b i cdv ct:aA}(l:K.lookup f=some ⟨o,n,.func (bV x qual (zn8 st) (zm3 st) (zh0 st) .none kV b i m cdv ct),g⟩)
  (c:dH K cdv qual=true) (k:bK K (.ref f)=true):Fun K x qual st f (bV x qual (zn8 st) (zm3 st) (zh0 st) .none kV b i m cdv ct):=⟨⟨o,n,kV,b,i,m,cdv,ct,g,rfl,l,c⟩,k⟩
end
section
variable {X:Cx}
theorem pv(i:Nat){pos:Pos}(m:X.N[i]?=some x:=by rfl)(g:Vis X.env.scope x:=by first|exact Or.inl rfl|exact Or.inr (Or.inl rfl)|exact Or.inr (Or.inr rfl))(hd:(x == ("__debug__":Str))=false:=by decide)
  (b:(x == ("__classdict__":Str))=false:=by decide):PE X (.Name x pos) (tVar i):=zpc1 m g hd b
end
def Same(H H':Hp):Prop:=∀b o,H b=some o->H' b=some o
theorem Same.trans{H g H2:Hp}(a:Same H g)(b:Same g H2):Same H H2:=λc o h=>b c o (a c o h)
theorem Same.seq{H H':Hp}{xs:List V}(e:Same H H')(h:SqL K H a xs):SqL K H' a xs:=by
 rcases h with(h|⟨o,h⟩)|h
 ·exact .inl (.inl (e _ _ h))
 ·exact .inl (.inr ⟨o,e _ _ h⟩)
 ·exact .inr h
end _2
namespace _3
open PySem PySem.Spec PyProof.Rows _2
variable {C f:aE}{K:Fg}{N ps:List Str}{X:Cx}{a:aX}{an od:Option aE}{cdv ct doc oc pm:aA}{env:Env}{es:List aX}{fp:List aE}{m qual x:Str}{mg:Str->Option aA}{osl:Array (Option aA)}{pos:Pos}{scope:eP}{sp:Sp}{st:dR}{ta:TE}
abbrev St:=_2.St
def zj6(env:Env):List (Str×bS)->List (Str×aE)->List (Str×aE)
|[],cs=>cs
|(n,k) :: r,cs=>zj6 env r (if k == .free then(match env.cells.lookup n with|some c=>(n,c) :: cs|none=>cs)else cs)
theorem zdc{env:Env}:∀(names:List (Str×bS))(cs:List (Str×aE)),(∀y∈names,y.2=.free->∃c,env.cells.lookup y.1=some c) ->
  (forIn names cs (λ(x:Str×bS)(r:List (Str×aE))=>(match x with|(name,kind)=>if kind == .free then do let c <- cellOf env name;pure (ForInStep.yield ((name,c) :: r))else pure (ForInStep.yield r):Sem (ForInStep (List (Str×aE))))):Sem (List (Str×aE)))=pure (zj6 env names cs)
|[],cs,_=>rfl
|(n,k) :: r,cs,h=>by
  rw[j8];by_cases i:k=.free
  ·subst i;obtain⟨c,p⟩:=h (n,.free) wR rfl;have b:env.cells.lookup n=some c:=p;have q:cellOf env n=pure c:=by unfold cellOf;rw[b]
   simp only[beq_self_eq_true,if_true,q];have:=zdc r ((n,c) :: cs) λy g=>h y (wC _ g);unfold zj6;simp only[beq_self_eq_true,if_true,b];exact this
  ·have o:(k == bM)=false:=by simpa using i
   simp only[o,yB,if_false];have:=zdc r cs λy g=>h y (wC _ g);unfold zj6;simp only[o,yB,if_false];exact this
theorem zsg(h:∀y∈scope.names,y.2=.free->∃c,env.cells.lookup y.1=some c):closureFor scope env=pure (zj6 env scope.names []):=by
 unfold closureFor;show(forIn scope.names [] _ >>= λcs=>pure cs)=_;rw[zdc scope.names [] h];rfl
theorem zhe{env:Env}{x:Str}{c:aE}:∀(names:List (Str×bS))(cs:List (Str×aE)),(∀x c,cs.lookup x=some c->env.cells.lookup x=some c)->(zj6 env names cs).lookup x=some c->env.cells.lookup x=some c
|[],cs,h,e=>h x c e
|(n,k) :: r,cs,h,e=>by
  unfold zj6 at e;refine zhe r _ (λy d q=>?_) e;split at q
  ·split at q
   ·rename_i i b
    rw[wL]at q;split at q
    ·rename_i g
     cases q;rw[beq_iff_eq.mp g];exact b
    ·exact h y d q
   ·exact h y d q
  ·exact h y d q
theorem zgd{env:Env}{x:Str}:∀(names:List (Str×bS))(cs:List (Str×aE)),(∃c,cs.lookup x=some c)->∃c,(zj6 env names cs).lookup x=some c
|[],cs,h=>h
|(n,k) :: r,cs,⟨c,h⟩=>by
  unfold zj6;refine zgd r _ ?_;split
  ·split
   ·rename_i g b
    rw[wL];split
    ·exact⟨_,rfl⟩
    ·exact⟨c,h⟩
   ·exact⟨c,h⟩
  ·exact⟨c,h⟩
theorem znc{env:Env}{x:Str}:∀(names:List (Str×bS))(cs:List (Str×aE)),(x,bM)∈names->(∃c,env.cells.lookup x=some c)->∃c,(zj6 env names cs).lookup x=some c
|[],cs,h,_=>nomatch h
|(n,k) :: r,cs,h,⟨c,b⟩=>by
  rcases vT.mp h with e|h
  ·cases e;unfold zj6;simp only[beq_self_eq_true,if_true,b];exact zgd r _ ⟨c,by simp[wL]⟩
  ·unfold zj6;exact znc r _ h ⟨c,b⟩
theorem znd{env:Env}{x:Str}{c:aE}:∀(names:List (Str×bS))(cs:List (Str×aE)),(zj6 env names cs).lookup x=some c->(x,bM)∈names \/ cs.lookup x=some c
|[],cs,e=>.inr e
|(n,k) :: r,cs,e=>by
  unfold zj6 at e;rcases znd r _ e with q|q
  ·exact .inl (wC _ q)
  ·split at q
   ·rename_i g
    split at q
    ·rw[wL]at q;split at q
     ·rename_i b
      rw[beq_iff_eq.mp b,<- beq_iff_eq.mp g];exact .inl wR
     ·exact .inr q
    ·exact .inr q
   ·exact .inr q
theorem ze61{x:Str}{c:aE}:∀(names:List (Str×bS))(n:Nat)(acc:List (Str×aE)),(cA n names acc).lookup x=some c->acc.lookup x=some c \/ ((x,cX)∈names/\n<=c)
|[],_,_,e=>.inl e
|(y,k) :: r,n,acc,e=>by
  unfold cA at e;split at e
  ·rename_i g
   rcases ze61 r (n+1) _ e with q|q
   ·rw[wL]at q;split at q
    ·rename_i b
     cases q;rw[beq_iff_eq.mp b,<- beq_iff_eq.mp g];exact .inr ⟨wR,u7 _⟩
    ·exact .inl q
   ·exact .inr ⟨wC _ q.1,zM q.2⟩
  ·rcases ze61 r n _ e with q|q
   ·exact .inl q
   ·exact .inr ⟨wC _ q.1,q.2⟩
theorem zz11{x:Str}:∀(names:List (Str×bS))(n:Nat)(acc:List (Str×aE)),(x,cX) ∉ names->(cA n names acc).lookup x=acc.lookup x
|[],_,_,_=>rfl
|(y,k) :: r,n,acc,h=>by
  unfold cA;split
  ·rename_i b
   rw[zz11 r _ _ λz=>h (wC _ z),wL];have:(x == y)=false:=by
    refine beq_eq_false_iff_ne.mpr λe=>h ?_;rw[e,<- beq_iff_eq.mp b];exact wR
   rw[this]
  ·exact zz11 r _ _ λz=>h (wC _ z)
theorem zq21:∀(names:List (Str×bS))(n:Nat)(acc:List (Str×aE)),(∀x c,acc.lookup x=some c->c < n)->(∀x y c,acc.lookup x=some c->acc.lookup y=some c->x=y) ->
  ∀x y c,(cA n names acc).lookup x=some c->(cA n names acc).lookup y=some c->x=y
|[],_,_,_,h=>h
|(z,k) :: r,n,acc,o,h=>by
  unfold cA;split
  ·refine zq21 r (n+1) _ (λx c e=>?_) λx y c i g=>?_
   ·rw[wL]at e;split at e
    ·cases e;exact zU _
    ·exact yW (o x c e)
   ·rw[wL]at i g;by_cases a:(x == z)=true <;> by_cases b:(y == z)=true
    ·rw[beq_iff_eq.mp a,beq_iff_eq.mp b]
    ·rw[a]at i;rw[zV]at b;rw[b]at g;cases i;exact aL (o _ _ g) (xB _)
    ·rw[b]at g;rw[zV]at a;rw[a]at i;cases g;exact aL (o _ _ i) (xB _)
    ·rw[zV]at a b;rw[a]at i;rw[b]at g;exact h x y c i g
  ·exact zq21 r n acc o h
theorem zys:∀(names:List (Str×bS))(h:aT)(acc:List (Str×aE)),(∀x c,acc.lookup x=some c->∃v,h.IsCell c v) ->
  ∀x c,(cA h.objs.size names acc).lookup x=some c->∃v,(g6 h names).IsCell c v
|[],_,_,p=>p
|(y,k) :: r,h,acc,p=>by
  unfold cA g6;split
  ·have q:=zys r (h.push { cls:=.type "cell",data:=.cell none }) ((y,h.objs.size) :: acc) (by
    intro x c e;rw[wL]at e;split at e
    ·cases e;exact⟨none,_,v7 _ rfl,rfl⟩
    ·obtain⟨v,z⟩:=p x c e;exact⟨v,z.keeps λb o e=>vU _ e⟩)
   rwa [xH]at q
  ·exact zys r h acc p
theorem zti{x:Str}{k g:bS}:∀{names:List (Str×bS)},(names.map (·.1)).Nodup->(x,k)∈names->(x,g)∈names->k=g
|(y,j) :: r,h,a,b=>by
  obtain⟨i,q⟩:=v5.mp h;rcases vT.mp a with e|p <;> rcases vT.mp b with n|o
  ·cases e;cases n;rfl
  ·cases e;exact(i (vV.mpr ⟨_,o,rfl⟩)).elim
  ·cases n;exact(i (vV.mpr ⟨_,p,rfl⟩)).elim
  ·exact zti q p o
theorem zxg{M:Model}{A:a7}{E:aA->aG->Prop}{s:aG}{globals:aE}{cl:List (Str×aE)}{qual:Str}{env:Env}{Q:Env->aG->Prop}
  (h:Q { scope,locals:=s.heap.objs.size,globals,cells:=cA (s.heap.objs.size+1) scope.names cl,qual,func:=none,code:=env.code,frame:=env.frame,builtins:=env.builtins } { s with heap:=g6 (s.heap.push { cls:=.type "dict",data:=.dict #[] }) scope.names }) :
  aJ M A (h8 scope globals cl [] qual none .none (some env)) Q E s:=by
 simp only[h8,uaX,if_true];refine aC (wpAny_alloc ?_);refine aC (wpAny_layCells _ (λname kind cells=>by cases hkc:kind == cX <;> simp[hkc]) _ _ _ _ ?_);rw[show({ s with heap:=s.heap.push { cls:=.type "dict",data:=.dict #[] } }:aG).heap.objs.size=s.heap.objs.size+1 from xH ..];rw[j9];exact aC (aI (aI h))
section
variable {prog:aN}{w:aP}{A:a7}{R:gJ->aG->Prop}{s:aG}
theorem zcj{i b iter:aX}{g:List aX}{it acc:aA}(I:Nat->aG->Prop)
  (o:∀n s,I n s->aJ (aM prog w) A (dU it) (λr s₁=>match r with
  |none=>R (.ok .next) s₁
  |some v=>aJ (aM prog w) A (fH b it v) (λ_ s₁'=>aJ (aM prog w) A (fW b env v) (λ_ s₂ =>
     aJ (aM prog w) A (forIn g true λc r=>if r=true then do let ok <- iX c env (bA c env);pure (ForInStep.yield ok)else pure (ForInStep.yield r)) (λok s₃ =>
      if ok=true then aJ (aM prog w) A (bA i env) (λx s₄ =>
       aJ (aM prog w) A (call (.builtin "list.append") [acc,x]) (λ_ s₅=>∃m,m < n/\I m s₅) (hZ (aM prog w) A env λe s'=>R (.error e) s') s₄) (hZ (aM prog w) A env λe s'=>R (.error e) s') s₃
      else ∃m,m < n/\I m s₃) (hZ (aM prog w) A env λe s'=>R (.error e) s') s₂) (hZ (aM prog w) A env λe s'=>R (.error e) s') s₁') (hZ (aM prog w) A env λe s'=>R (.error e) s') s₁) (hZ (aM prog w) A env λe s'=>R (.error e) s') s)
  (n:Nat) (h:I n s) :
  cP (aM prog w) A (.compLoop (.ListComp i [⟨b,iter,g,0⟩] scope pos) 0 it acc env) R s:=by
 refine codeAny_loop rfl I (λn s p=>?_) n h;show aJ _ A ((compTurn (.ListComp i [⟨b,iter,g,0⟩] scope pos) 0 it acc env).onRaise (λx=>do noteFrame x env;theTreesLotGoes x)) _ _ s;refine wpAny_noted ?_;rw[compTurn_list];refine aC (f6 (aC (dD (o n s p) (λr s₁ h₁=>?_) λ_ _ h'=>h')));cases r with
|none=>exact aI h₁
|some v =>
  refine aC (dD h₁ (λ_ s₁' h₁'=>?_) λ_ _ h'=>h');refine aC (dD h₁' (λ_ s₂ h₂=>aC (dD h₂ (λok s₃ h₃=>?_) λ_ _ h'=>h')) λ_ _ h'=>h');cases ok with
 |false=>exact aI ⟨rfl,h₃⟩
 |true =>
   exact aC (aC (dD h₃ (λx s₄ h₄=>aC (dD h₄ (λ_ s₅ h₅=>aI (aI ⟨rfl,h₅⟩)) λ_ _ h'=>h')) λ_ _ h'=>h'))
end
abbrev zsu(X:Cx)(scope:eP)(C:aE):List (Str×aE):=cA (C+1) scope.names (zj6 X.env scope.names [])
def zt7(X:Cx)(scope:eP)(N:List Str)(s₀:aG)(H₀:Hp)(C:aE)(fp:List aE):Cx where
 prog:=X.prog
 w:=X.w
 K:=X.K
 mg:=X.mg
 base:=X.base
 A:=X.A
 N:=N
 s₀:=s₀
 H₀:=H₀
 env:=compEnvC scope (zsu X scope C) C X.env
 outer:=X.stack
 stack:=X.stack
 ex:=fp
 fn:=λx=>decide (scope.names.lookup x=some .cell)
 calm:=X.calm
 pn:=[]
 xe:=λ_ _=>False
def znf(N:List Str)(own:List Str)(ix:List Nat):List Str:=own++ix.map λi=>N.getD i ""
def compY(n:Nat)(ix:List Nat)(Y:St):St:=vY n none++ix.map λi=>Y.getD i none
structure CompSc(sc:eP)(N own:List Str)(ix:List Nat)(scope:eP):Prop where
 kind:scope.kind=.function
 cell:(scope.names.map (·.1)).Nodup
 names:∀y∈scope.names,y.2=.local->scope.names.lookup y.1=some .local
 free:∀y∈scope.names,y.2=.free->sc.names.lookup y.1=some .cell \/ sc.names.lookup y.1=some .free
 caps:∀i∈ix,i < N.length/\scope.names.lookup (N.getD i "")≠some .local/\scope.names.lookup (N.getD i "")≠some .cell
theorem zlb{env : Env}{x : Str} : ∀(names : List (Str × bS)),
    ((names.map fun (n, k) => if(k == bM && env.scope.kind == .function && env.kindOf n == some .cell)then(n, cX)else(n, k)).lookup x = some .cell ∨
     (names.map fun (n, k) => if(k == bM && env.scope.kind == .function && env.kindOf n == some .cell)then(n, cX)else(n, k)).lookup x = some .free) → names.lookup x = some .free ∨ names.lookup x = some .cell
  | [], h => by rcases h with h | h <;> cases h
  | (n, k) :: r, h => by
    have o := zlb (env := env) (x := x) r;rw[v9]at h;by_cases i : (x == n) = true
    · rw[wL, i];dsimp only at h ⊢;by_cases b : (k == bM && env.scope.kind == .function && env.kindOf n == some .cell) = true
      · have : k = .free := by
          have := (uaY.mp (uaY.mp b).1).1;exact beq_iff_eq.mp this
        rw[this]; exact .inl rfl
      · rw[aF b, wL, i]at h;exact h.symm
    · have g : (x == n) = false := by simpa using i
      rw[wL, g];refine o ?_;by_cases b : (k == bM && env.scope.kind == .function && env.kindOf n == some .cell) = true
      · simp only[b, if_true]at h;rw[wL, g]at h;exact h
      · simp only[b, yB, if_false]at h;rw[wL, g]at h;exact h
section
variable {X:Cx}{pins:List (aE×Obj)}{Y:St}{H H':Hp}{s:aG}
theorem zvz{own:List Str}{ix:List Nat}{h₁:aT}{m:Str->Option aA}{t':Nat}(I:Inv X pins Y H s)(S:CompSc X.env.scope X.N own ix scope)
  (hns:h₁.Ns s.heap.objs.size m) (kc:∀x c,(zsu X scope s.heap.objs.size).lookup x=some c->∃v,h₁.IsCell c v) (k:∀b o,s.heap.get? b=some o->h₁.get? b=some o) (hf:∀b∈fp,FpOk X pins H b) (hfo:∀b∈fp,b < s.heap.objs.size) :
  Inv (zt7 X scope (znf X.N own ix) s H s.heap.objs.size fp) [] (compY own.length ix Y) H { s with heap:=h₁,toks:=t' }:=by
 have J:∀x c,(zj6 X.env scope.names []).lookup x=some c->X.env.cells.lookup x=some c:=λx c e=>zhe scope.names [] (λ_ _ q=>by cases q) e;have W:∀x c,(zsu X scope s.heap.objs.size).lookup x=some c->X.env.cells.lookup x=some c \/ s.heap.objs.size+1<=c:=λx c e=>(ze61 _ _ _ e).imp (J x c) And.right;have L:∀x,((fN scope X.env).names.lookup x=some .cell \/ (fN scope X.env).names.lookup x=some .free)->scope.names.lookup x=some .free \/ scope.names.lookup x=some .cell:=λx hx=>zlb scope.names hx;have hX:∀x,scope.names.lookup x=some .free->X.env.kindOf x=some .cell \/ X.env.kindOf x=some .free:=λx hx=>S.free (x,.free) (bI hx) rfl;refine⟨⟨I.ok.mod,S.kind,I.ok.glob,I.ok.blt,u7 _,zq21 _ _ _ (λx c e=>?_) (λx y c e1 e2=>I.ok.inj x y c (J x c e1) (J y c e2)),λx hx=>?_,λx c z e=>?_,I.ok.hd,I.ok.frames,.inl rfl,λb U=>?_,I.bs,wX I.ok.bsz I.sz,λb o e U=>?_,λb U M=>?_,I.stack,I.stkFree⟩,
  rfl,I.bare,Un.kept k,⟨m,hns,λi x v e1 e2 e3=>?_⟩,kc,I.hok.fresh (u7 _),λx c e=>(W x c e).elim (I.freeC x c) (λz=>I.hok.fresh (zM z)),λp hp=>aL (show p∈([]:List (aE×Obj))from hp) (by simp),I.hok.kept k,?_⟩
 ·obtain⟨v,z⟩:=I.cell x c (J x c e);exact yW z.lt
 ·refine xR.mp (eO _ _ _ ?_);rcases L x hx with O|O
  ·exact .inr (xR.mpr (znc scope.names [] (bI O) (I.ok.has x (hX x O))))
  ·exact .inl O
 ·rcases ze61 _ _ _ e with q|q
  ·rcases znd _ _ q with q|q
   ·have:=zti S.cell (bI (dB z)) q;cases this
   ·cases q
  ·exact zM q.2
 ·exact⟨wF (hfo b U),λx c e=>(W x c e).elim ((hf b U).2.2.2.2.1 x c) λz e2=>aL (w9 (hfo b U) (zM (e2 ▸ z))) (xB _)⟩
 ·rcases(hf b U).2.2.2.1 with z|z
  ·exact I.ok.noex b o e z
  ·exact aL (w9 (vZ e) (wX I.ok.bsz z)) (xB _)
 ·rcases vT.mp (I.stkSub b M)with z|z
  ·exact(hf b U).2.1 z
  ·exact(hf b U).2.2.1 z
 ·-- a captured name
  have w:(vY own.length (none:Option V)++ix.map λi=>Y.getD i none)[i]?=some (some v):=e2;have e1':(own++ix.map λi=>X.N.getD i "")[i]?=some x:=e1;by_cases hi:i < own.length
  ·rw[wP (by simpa using hi),xO]at w;split at w <;> cases w
  ·have hi':own.length<=i:=Nat.le_of_not_lt hi;rw[wO (by simpa using hi'),yR,u8]at w;rw[wO hi',u8]at e1';cases hq:ix[i - own.length]? with
  |none=>rw[hq]at w;cases w
  |some q =>
    rw[hq]at e1' w;have ex:X.N.getD q ""=x:=w8.inj e1';have ev:Y.getD q none=some v:=w8.inj w;obtain⟨hql,G⟩:=S.caps q (wJ hq);rw[ex]at G;have hnc:=G.2
    replace G:=G.1
    have e3':(fN scope X.env).names.lookup x=some .local \/ (fN scope X.env).names.lookup x=some .cell \/ (fN scope X.env).names.lookup x=some .free:=e3;have hcf:(fN scope X.env).names.lookup x=some .cell \/ (fN scope X.env).names.lookup x=some .free:=by
     rcases e3' with z|z
     ·exfalso;cases M:scope.names.lookup x with
     |none =>
       have:∀(names:List (Str×bS)),names.lookup x=none->(names.map λ(n,k)=>if(k == bM && X.env.scope.kind == .function && X.env.kindOf n == some .cell)then(n,cX)else(n,k)).lookup x=none:=by
        intro names
        induction names with
       |nil=>intro _;rfl
       |cons y r ih =>
         obtain⟨n,kk⟩:=y;intro E;rw[wL]at E;by_cases A:(x == n)=true
         ·rw[A]at E;cases E
         ·have B:(x == n)=false:=by simpa using A
          rw[B]at E;rw[v9];by_cases g:(kk == bM && X.env.scope.kind == .function && X.env.kindOf n == some .cell)=true
          ·simp only[g,if_true];rw[wL,B];exact ih E
          ·simp only[g,yB,if_false];rw[wL,B];exact ih E
       have q0:=this scope.names M;have z':(scope.names.map λ(n,k)=>if(k == bM && X.env.scope.kind == .function && X.env.kindOf n == some .cell)then(n,cX)else(n,k)).lookup x=some .local:=z;rw[q0]at z';cases z'
     |some kk =>
       have:∀(names:List (Str×bS)),names.lookup x=some kk->(names.map λ(n,k)=>if(k == bM && X.env.scope.kind == .function && X.env.kindOf n == some .cell)then(n,cX)else(n,k)).lookup x=some .local->kk=.local:=by
        intro names
        induction names with
       |nil=>intro h;cases h
       |cons y r ih =>
         obtain⟨n,k2⟩:=y;intro E hz;rw[wL]at E;rw[v9]at hz;by_cases A:(x == n)=true
         ·rw[A]at E;have hk2:k2=kk:=w8.inj E;by_cases g:(k2 == bM && X.env.scope.kind == .function && X.env.kindOf n == some .cell)=true
          ·simp only[g,if_true]at hz;rw[wL,A]at hz;cases hz
          ·simp only[g,yB,if_false]at hz;rw[wL,A]at hz;rw[<- hk2];exact w8.inj hz
         ·have B:(x == n)=false:=by simpa using A
          rw[B]at E;by_cases g:(k2 == bM && X.env.scope.kind == .function && X.env.kindOf n == some .cell)=true
          ·simp only[g,if_true]at hz;rw[wL,B]at hz;exact ih E hz
          ·simp only[g,yB,if_false]at hz;rw[wL,B]at hz;exact ih E hz
       have:=this scope.names M z;rw[this]at M;exact G M
     ·exact z
    have Z:=(L x hcf).resolve_right hnc;have hkX:=hX x Z;obtain⟨mX,hnX,hlX⟩:=I.loc;have eN:X.N[q]?=some x:=by
     rw[<- ex,v4];rw[u4 hql];rfl
    have eY:Y[q]?=some (some v):=by
     rw[v4]at ev;cases M:Y[q]? with
    |none=>rw[M]at ev;cases ev
    |some o=>rw[M]at ev;exact congrArg some ev
    obtain⟨u,r,l⟩:=hlX q x v eN eY (.inr hkX);refine⟨u,r,.inr ⟨hcf,?_⟩⟩;rcases l with⟨hk,_⟩|⟨_,c,ec,hcell⟩
    ·exfalso;rcases hkX with z|z
     ·rw[hk]at z;cases z
     ·rw[hk]at z;cases z
    ·obtain⟨c',ec'⟩:=znc scope.names [] (bI Z) ⟨c,ec⟩;have:=J x c' ec';rw[ec]at this;cases this;exact⟨c,(zz11 _ _ _ λz=>by cases zti S.cell z (bI Z)).trans ec',hcell.keeps k⟩
 ·show(compY own.length ix Y).length=(znf X.N own ix).length;unfold compY znf;simp
theorem zyp{p:List (aE×Obj)}{L:St}{s':aG}{i:aT}(I:Inv X pins Y H s)(hf:∀b∈fp,FpOk X pins H b)
  (y:Inv (zt7 X scope N s H s.heap.objs.size fp) p L H' s') (E:bF s.heap.objs.size s'.heap i):Inv X pins Y H' { s' with heap:=i }:=by
 have ext:∀b o,b≠s.heap.objs.size->s'.heap.get? b=some o->i.get? b=some o:=λb o nb e=>by rw[E.2 b nb];exact e
 have old:∀b o,s.heap.get? b=some o->b≠s.heap.objs.size:=λb o e=>wF (vZ e);have u:=y.base;refine I.call' (ch:=fp) y.os ⟨λb o e n g w=>ext b o (old b o e) (u.keep b o e n g w),λb o e n g w=>?_,u.free,λb o e w=>?_,u.tups,u.frzs,u.tbls⟩ (λb ob e=>?_) y.bare λb g=>⟨(hf b g).2.2.2.1,(hf b g).2.1,(hf b g).2.2.2.2.1,(hf b g).2.2.2.2.2⟩
 ·obtain⟨sl,q⟩:=u.slot b o e n g w;exact⟨sl,ext b _ (old b o e) q⟩
 ·obtain⟨G,q⟩:=u.there b o e w;exact⟨G,ext b _ (old b o e) q⟩
 ·have A:∀c v,H' c=some v->c≠s.heap.objs.size:=λc v q z=>by
   have:=y.free;rw[z]at q;have B:H' s.heap.objs.size=none:=this;rw[B]at q;cases q
  refine(y.hok b ob e).stay (λc v J q=>ext c v ?_ q) (λ_ q=>q) λ_ _ q=>q;rcases J with z|z
  ·rw[z];exact A b ob e
  ·exact A c _ z
end
def zig1(n:Nat)(ix:List Nat)(g:TG)(A:TT)(B:TE)(Y:St)(J:It)(z:Hp)(Q:VK):Prop:=∀D,z D=none->∃W:Nat->Nat->List V->St->Hp->Prop,(∃m,W 0 m [] (compY n ix Y) (upd z D (.lst []))) /\
 ∀i m acc s H',W i m acc s H'->(J.stop i H'/\Q (.ref D) H') \/ (J.go i H'/\∃N:List V->St->Hp->Prop,(∀o p H2,N o p H2->∃q,q < m/\W (i+1) q o p H2) /\
  ∀x H2,J.yld i H' x H2->g x s H2 λp E=>A p E λb w=>if b=true then B p w λy u=>u D=some (.lst acc)/\acc.length < sizeLine/\N (acc++[y]) p (upd u D (.lst (acc++[y])))else N acc p w)
def zmb1(b:TI)(n:Nat)(ix:List Nat)(g:TG)(i:TT)(o:TE):TE:=λY H Q=>b Y H λJ p=>zig1 n ix g i o Y J p Q
def zbe1:TT:=λ_ H Q=>Q true H
def PIf(X:Cx)(g:List aX)(t:TT):Prop :=
 ∀(b:List (aE×Obj))(s:aG)(Y:St)(H:Hp)(Q:Bool->Hp->Prop),Inv X b Y H s->t Y H Q ->
  aJ (aM X.prog X.w) X.A (forIn g true λc r=>if r=true then do let ok <- iX c X.env (bA c X.env);pure (ForInStep.yield ok)else pure (ForInStep.yield r)) (TP X b Y Q) X.xe s
theorem zx1:PIf X [] zbe1:=λb s Y H Q I h=>wpAny_tests_nil ⟨H,I,h⟩
theorem zid{c:aX}{t:TT}(h:PT X c t):PIf X [c] t:=λb s Y H Q I q=>wpAny_tests_one (h b s Y H Q I q)
section
variable {X:Cx}{tg iter elt:aX}{ifs:List aX}{scope:eP}{pos:Pos}{own:List Str}{ix:List Nat}{wi:TI}{g:TG}{tt:TT}{te:TE}{sc:eP}{N:List Str}
theorem zng{G:List (aE×Obj)}{Y:St}{s2:aG}{itv:aA}{Q:VK}{RR:aA->aE->gJ->aG->Prop}{E:aA->aG->Prop}(hc:X.calm=true)(S:CompSc X.env.scope X.N own ix scope)
  (hb:∀s₀ H₀ C fp,PG (zt7 X scope (znf X.N own ix) s₀ H₀ C fp) tg g/\PIf (zt7 X scope (znf X.N own ix) s₀ H₀ C fp) ifs tt/\PE (zt7 X scope (znf X.N own ix) s₀ H₀ C fp) elt te)
  (h2:PIE X G Y tg (λJ L=>zig1 own.length ix g tt te Y J L Q) itv s2)
  (hR:∀(D C:aE)(m:Str->Option aA)(s':aG)(H':Hp),s'.heap.Ns C m->C≠X.env.locals->(∀x c,X.env.cells.lookup x=some c->c≠C)->H' C=none->(X.s₀.heap.objs.size<=C)->(∀p∈X.pn++G,p.1≠C) ->
   (∀h'',bF C s'.heap h''->Inv X G Y H' { s' with heap:=h'' })->Q (.ref D) H'->RR (.ref D) C (.ok .next) s') :
  aJ (aM X.prog X.w) X.A (newList []) (λacc s₃=>aJ (aM X.prog X.w) X.A (h8 scope X.env.globals (zj6 X.env scope.names []) [] X.env.qual none .none (some X.env)) (λZ s₄ =>
   cP (aM X.prog X.w) X.A (.compStart (.ListComp elt [⟨tg,iter,ifs,0⟩] scope pos) 0 itv acc { Z with scope:=fN scope X.env }) (RR acc Z.locals) s₄) E s₃) E s2:=by
 obtain⟨it,fp,tn,J,L,e,I2,T,st2,f2,h⟩:=h2;subst e;have hD:L s2.heap.objs.size=none:=I2.hok.fresh (u7 _);obtain⟨W,⟨m0,w0⟩,turn⟩:=h _ hD;have hlt:∀b∈fp,b < s2.heap.objs.size:=λb B=>by obtain⟨o,e,_⟩:=T.obj 0 _ st2 b B;exact vZ e
 refine bJ ?_
 -- the new list is tracked
 have O:Inv X G Y (upd L s2.heap.objs.size (.lst [])) { s2 with heap:=s2.heap.push { cls:=.type "list",dict:=none,data:=.seq ([]:List aA).toArray } }:=I2.lnew (ys:=[]) (its:=[]) .nil (wU _);generalize hs3:({ s2 with heap:=s2.heap.push { cls:=.type "list",dict:=none,data:=.seq ([]:List aA).toArray } }:aG)=s3 at O ⊢;have hsz:s3.heap.objs.size=s2.heap.objs.size+1:=by rw[<- hs3];exact xH ..
 have k3:∀b o,s2.heap.get? b=some o->s3.heap.get? b=some o:=λb o e=>by rw[<- hs3];exact vU _ e
 have neD:∀b∈fp,b≠s2.heap.objs.size:=λb B=>wF (hlt b B);have f3:∀b∈fp,FpOk X G (upd L s2.heap.objs.size (.lst [])) b:=λb B=>⟨by rw[zd1 (neD b B)];exact(f2 b B).1,(f2 b B).2⟩
 have M:∀b∈fp,b < s3.heap.objs.size:=λb B=>by rw[hsz];exact yW (hlt b B)
 refine zxg ?_;have hns₁:=(Heap.Ns.new s3.heap (.type "dict")).keeps (mK scope.names _);have k4:∀b o,s3.heap.get? b=some o->(g6 (s3.heap.push { cls:=.type "dict",data:=.dict #[] }) scope.names).get? b=some o:=λb o e=>mK _ _ b o (vU _ e);have hcl:∀x c,(zj6 X.env scope.names []).lookup x=some c->X.env.cells.lookup x=some c:=λx c e=>zhe scope.names [] (λ_ _ q=>by cases q) e;have kc:=zys scope.names (s3.heap.push { cls:=.type "dict",data:=.dict #[] }) (zj6 X.env scope.names []) (λx c e=>by
  obtain⟨v,z⟩:=O.cell x c (hcl x c e);exact⟨v,z.keeps λb o e=>vU _ e⟩)
 rw[xH]at kc;generalize g6 (s3.heap.push { cls:=.type "dict",data:=.dict #[] }) scope.names=h₁ at hns₁ k4 kc ⊢;have I4:=zvz (t':=s3.toks) O S hns₁ kc k4 f3 M;obtain⟨hG,hT,hE⟩:=hb s3 (upd L s2.heap.objs.size (.lst [])) s3.heap.objs.size fp;have fp':∀{H':Hp},(∀b∈fp,H' b=none)->∀b∈fp,FpOk (zt7 X scope (znf X.N own ix) s3 (upd L s2.heap.objs.size (.lst [])) s3.heap.objs.size fp) [] H' b:=λ{H'} hn b B=>by
  refine⟨hn b B,wF (M b B),?_,.inl B,λx c e=>(ze61 _ _ _ e).elim (λq=>(f2 b B).2.2.2.2.1 x c (hcl x c q)) (λq e2=>aL (w9 (M b B) (zM (e2 ▸ q.2))) (xB _)),λp hp=>aL (show p∈([]:List (aE×Obj))from hp) (by simp)⟩;intro z;rcases vT.mp (O.stkSub b z)with z|z
  ·exact(f2 b B).2.1 z
  ·exact(f2 b B).2.2.1 z
 have st4:tn 0 h₁:=T.keep _ _ _ st2 λb _ o e=>k4 b o (k3 b o e);have cne:∀x c,X.env.cells.lookup x=some c->c≠s3.heap.objs.size:=λx c e z=>by
  obtain⟨v,q⟩:=O.cell x c e;exact aL q.lt (by rw[z];exact xB _)
 have loop:cP (aM X.prog X.w) X.A (.compLoop (.ListComp elt [⟨tg,iter,ifs,0⟩] scope pos) 0 (.ref it) (.ref s2.heap.objs.size) (compEnvC scope (zsu X scope s3.heap.objs.size) s3.heap.objs.size X.env)) (RR (.ref s2.heap.objs.size) s3.heap.objs.size) { s3 with heap:=h₁ }:=by
  refine zcj (λn s'=>∃i acc Y' H',Inv (zt7 X scope (znf X.N own ix) s3 (upd L s2.heap.objs.size (.lst [])) s3.heap.objs.size fp) [] Y' H' s'/\tn i s'.heap/\(∀b∈fp,H' b=none)/\W i n acc Y' H') ?_ m0 ⟨0,[],_,_,I4,st4,λb B=>(f3 b B).1,w0⟩;rintro n s5 ⟨i,acc,Y5,H5,I5,st5,fr5,w5⟩;rcases turn i n acc Y5 H5 w5 with⟨stop,qn⟩|⟨go,NN,hN,step⟩
  ·refine thn (T.done (zt7 X scope (znf X.N own ix) s3 (upd L s2.heap.objs.size (.lst [])) s3.heap.objs.size fp) rfl rfl rfl hc i [] s5 Y5 H5 _ I5 (fp' fr5) st5 stop) λr s6 hz=>?_;obtain⟨hr,I6⟩:=hz;subst hr;obtain⟨m6,hn6,_⟩:=I6.loc;exact hR _ _ m6 s6 H5 hn6 (y3 O.lt) cne I6.free (O.sz) (λp hp z=>aL (vZ (O.pin p hp).1) (by rw[z];exact xB _)) (λh'' sb=>zyp O f3 I6 sb) qn
  ·refine thn (T.item (zt7 X scope (znf X.N own ix) s3 (upd L s2.heap.objs.size (.lst [])) s3.heap.objs.size fp) rfl rfl rfl hc i [] s5 Y5 H5 _ I5 (fp' fr5) st5 go) λr s6 hz=>?_;obtain⟨u,hr,h6⟩:=hz;subst hr;refine thn h6 λ_ s7 hz=>?_;obtain⟨x,H7,I7,r7,y7,st7,fr7⟩:=hz;have I7':=I7.pinned (fp' fr7) (T.obj _ _ st7);have U:∀{α:Type}{t:Sem α}{Q1:α->aG->Prop}{E1:aA->aG->Prop}{sx:aG},aJ (aM X.prog X.w) X.A t Q1 (λ_ _=>False) sx->aJ (aM X.prog X.w) X.A t Q1 E1 sx:=λq=>wpAny_noRaise q;refine U (thn (hG _ s7 Y5 H7 x u _ I7' r7 (step x H7 y7)) λ_ s8 hz=>?_);obtain⟨Y8,H8,I8,q8⟩:=hz;refine U (thn (hT _ s8 Y8 H8 _ I8 q8) λb s9 hz=>?_);obtain⟨H9,I9,q9⟩:=hz;have again:∀{Yz:St}{Hz:Hp}{sz:aG}{I:List V},Inv (zt7 X scope (znf X.N own ix) s3 (upd L s2.heap.objs.size (.lst [])) s3.heap.objs.size fp) ([]++ztq fp s7.heap) Yz Hz sz->NN I Yz Hz->∃m,m < n/\∃i acc Y' H',Inv (zt7 X scope (znf X.N own ix) s3 (upd L s2.heap.objs.size (.lst [])) s3.heap.objs.size fp) [] Y' H' sz/\tn i sz.heap/\(∀b∈fp,H' b=none)/\W i m acc Y' H':=λ{Yz Hz sz I} Iz nz=>by
    obtain⟨m',hm,wz⟩:=hN I Yz Hz nz;refine⟨m',hm,i+1,I,Yz,Hz,Iz.unpinned,T.keep _ _ _ st7 λb B o e=>(Iz.pin (b,o) (xC _ (xC _ (zo9 B e)))).1,λb B=>?_,wz⟩;obtain⟨o,e,d⟩:=T.obj _ _ st7 b B;exact(Iz.pin (b,o) (xC _ (xC _ (zo9 B e)))).2.1
   cases b with
  |false =>
    have q9':NN acc Y8 H9:=by simpa using q9
    simp only[yB,if_false];exact again I9 q9'
  |true =>
    have q9':te Y8 H9 λy H5=>H5 s2.heap.objs.size=some (.lst acc)/\acc.length < sizeLine/\NN (acc++[y]) Y8 (upd H5 s2.heap.objs.size (.lst (acc++[y]))):=by simpa using q9
    simp only[if_true];refine U (thn (hE _ s9 Y8 H9 _ I9 q9') λy s10 hz=>?_);obtain⟨yv,H10,I10,r10,hl,hz,q10⟩:=hz;refine U (thn (zz2 _ s10 Y8 H10 (.ref s2.heap.objs.size) [yv] (.ref s2.heap.objs.size) [y] (λ_ H'=>NN (acc++[yv]) Y8 H') I10 rfl (.cons r10 .nil) ⟨_,acc,yv,rfl,rfl,hl,hz,q10⟩) λ_ s11 hz=>?_);obtain⟨_,H11,I11,_,q11⟩:=hz;exact again I11 q11
 exact codeAny_compStart_list loop (T.self X.A 0 _ _ _ st4 loop)
theorem zp2(B:X.calm=true)(i:X.env.scope=sc)(G:X.N=N)(S:CompSc sc N own ix scope)(hi:PI X tg iter wi)
  (E:∀s₀ H₀ C fp,PG (zt7 X scope (znf N own ix) s₀ H₀ C fp) tg g/\PIf (zt7 X scope (znf N own ix) s₀ H₀ C fp) ifs tt/\PE (zt7 X scope (znf N own ix) s₀ H₀ C fp) elt te)
  (z:∀x,f9 iter X.env x=pure x:=by intro _;rfl):PE X (.ListComp elt [⟨tg,iter,ifs,0⟩] scope pos) (zmb1 wi own.length ix g tt te):=by
 subst i G;intro b s Y H Q I h;rw[eval_ListComp];refine gU (use:=none) (g:=⟨tg,iter,ifs,0⟩) (gs:=[]) rfl z (zsg λy u hf=>I.ok.has y.1 (S.free y u hf)) S.kind S.names ?_;show aJ _ _ (bA iter X.env) _ _ _;refine thn (hi b s Y H _ I h) λv s1 M=>thn M λO s2 L=>?_;refine zng (Q:=Q) (RR:=λacc C=>compPost (aM X.prog X.w) X.A X.xe none (EP X b Y Q) acc C) B S E L ?_;intro D C m s' H' n _ _ _ _ _ J q;exact⟨m,n,λo p=>⟨.ref D,H',J o p,rfl,q⟩⟩
theorem zf3{i:Nat}{n u:Pos}(hc:X.calm=true)(M:X.env.scope=sc)(hN:X.N=N)(S:CompSc sc N own ix scope)(U:X.N.Nodup)(G:X.N[i]?=some x)(hx:X.env.scope.names.lookup x=some .local)(hi:PI X tg iter wi)
  (hb:∀s₀ H₀ C fp,PG (zt7 X scope (znf N own ix) s₀ H₀ C fp) tg g/\PIf (zt7 X scope (znf N own ix) s₀ H₀ C fp) ifs tt/\PE (zt7 X scope (znf N own ix) s₀ H₀ C fp) elt te)
  (J:gY (.ListComp elt [⟨tg,iter,ifs,0⟩] scope pos) (some (.Name x n)) u.line X.env=pure true:=by rfl)
  (hs:∀x,f9 iter X.env x=pure x:=by intro _;rfl):PS X (.Assign [.Name x n] (.ListComp elt [⟨tg,iter,ifs,0⟩] scope pos) u) (tAsg (zmb1 wi own.length ix g tt te) (zjw i)):=by
 subst M hN;intro p s Y H D I h;rw[exec_Assign_Name_used _ _ _ _ J];refine aC (f6 (aC ?_));show aJ _ X.A (do let _ <- comprehension (.ListComp elt [⟨tg,iter,ifs,0⟩] scope pos) scope X.env _ (newList []) false (bA iter X.env) (some (fW (.Name x n) X.env))) _ _ s;refine aC (dD (gU (use:=some (fW (.Name x n) X.env)) (g:=⟨tg,iter,ifs,0⟩) (gs:=[]) (Q:=λ_ s'=>SP X p D .next s') rfl hs (zsg λy hy hf=>I.ok.has y.1 (S.free y hy hf)) S.kind S.names
  (thn (hi p s Y H _ I h) λv s1 h1=>thn h1 λitv s2 h2=>?_)) (λ_ s' hq=>aI (aI hq)) λ_ _ e=>e)
 refine zng (Q:=λv H1=>zjw i v Y H1 D.nx) (RR:=λacc C=>compPost (aM X.prog X.w) X.A X.xe (some (fW (.Name x n) X.env)) (λ_ s'=>SP X p D .next s') acc C) hc S hb h2 ?_;intro L C m s' H' O nL nC hC hC0 Z hI q;show aJ _ _ (fW (.Name x n) X.env (.ref L)) _ _ s';have I':Inv X p Y H' s':=hI s'.heap ⟨rfl,λ_ _=>rfl⟩;refine lH (ztk I' U G (.inl hx) (v:=.ref L) rfl (λs2 I2 W=>?_) (.inr hx));obtain⟨a,B,ha⟩:=W;have E:C≠a:=by
  rcases ha with z|z
  ·rw[z];exact nL
  ·exact λe=>nC x a z e.symm
 refine⟨m,O.sameBut B E,λh'' sb=>?_⟩;refine⟨_,H',I2.turned (t':=s2.toks) (it:=C) (λb o nb e=>?_) hC nL (.inr hC0) nC Z,q⟩;rw[sb.2 b nb];exact e
end
def zqh1(K:Fg):R2:=λx y H Q=>rI0 (λi j=>.int (i+j)) x y H Q \/ (∃i j,x=.str i/\y=.str j/\i.length+j.length<=sizeLine/\Q (.str (i++j)) H) \/ rCat x y H Q \/ zdh1 K x y H Q
def zdg1:R2:=λx y H Q=>rI CMul (λi j=>.int (i * j)) x y H Q \/ rRep x y H Q
def rSlU(K:Fg):V->Option Int->Option Int->Hp->VK->Prop:=λx lo hi H Q=>rSlL K x lo hi H Q \/ rSlT K x lo hi H Q
def zyi1(K:Fg)(x:V)(H:Hp)(R:It->Hp->Prop):Prop:=(∃a,x=.ref a/\(∃xs,SqL K H a xs)/\R (Itl K a) H) \/ (∃a,x=.ref a/\(∃xs,SqT K H a xs)/\R (Itt K a) H)
def rLen(K:Fg):List V->Hp->VK->Prop:=λxs H Q=>∃x n,xs=[x]/\LenV K x H n/\Q (.int (n:Nat)) H
def zsh1:List V->Hp->VK->Prop:=λxs H Q=>∃i j,xs=[.int i,.int j]/\Q (.int (if j > i then j else i)) H
def zmj1(xs:List V)(H:Hp)(Q:VK):Prop:=xs.length<=sizeLine/\∀p,H p=none->Q (.ref p) (upd H p (.tup xs))
def zli1(xs:List V)(H:Hp)(Q:VK):Prop:=xs.length<=sizeLine/\∀p,H p=none->Q (.ref p) (upd H p (.lst xs))
def zeh1(t:TA):TE:=λY H Q=>t Y H λxs b=>zmj1 xs b Q
def zjg1(t:TA):TE:=λY H Q=>t Y H λxs b=>zli1 xs b Q
def zfj1(x:V)(H:Hp)(Q:Option Int->Hp->Prop):Prop:=∃i,x=.int i/\Q (some i) H
def zya1(t:TE):TO:=λY H Q=>t Y H λx b=>zfj1 x b Q
def kFld(K:Fg)(f:Str)(x:V)(H:Hp)(Q:VK):Prop:=∃a C b fs v,x=.ref a/\H a=some (.ins C b fs)/\Cls K C/\NoAttr K C f/\fs.lookup f=some v/\Q v H
def zgh1(K:Fg)(ta:TE)(f:Str):TE:=λY H Q=>ta Y H λx b=>kFld K f x b Q
def kBl(x:V)(H:Hp)(Q:Bool->Hp->Prop):Prop:=∃k,x=.bl k/\Q k H
def zx61(t:TE):TT:=λY H Q=>t Y H λx H'=>kBl x H' Q
def kTru(K:Fg)(x:V)(H:Hp)(Q:Bool->Hp->Prop):Prop:=∃k,TruV K x H k/\Q k H
def zxg1(K:Fg)(t:TE):TT:=λY H Q=>t Y H λx H'=>kTru K x H' Q
section
variable {X:Cx}{tg:aX}
theorem zk91(h:X.K=K):OpR X (bR .Add) (zqh1 K):=h ▸ zce1.or (zum.or (zcc1.or za71))
theorem ze91:OpR X (bR .Mult) zdg1:=zed1.or zq71
theorem ix_U(h:X.K=K):IxR X (rIx K):=h ▸ zwf1
theorem sl_U(h:X.K=K):SlR X (rSlU K):=h ▸ zwa1.or zjd1
theorem zg1(h:X.K=K):CallR X (.builtin "len") (rLen K):=h ▸ za31
theorem zib(b:X.calm=true):CallR X (.builtin "max") zsh1:=zrw b
theorem zq1{t:TA}{x1}(h:PA X es t):PE X (.Tuple es x1 pos) (zeh1 t):=zwe1 h
theorem zc3{t:TA}(h:PA X es t):PE X (.List es pos) (zjg1 t):=zrf1 h
theorem zac{e:aX}{b:TE}(h:PE X e b):PO X (some e) (zya1 b):=zo61 h
theorem zu1(h:X.K=K){e:aX}{f:Str}(b:PE X e ta)(g:dM e f X.env (bA e X.env)=bA e X.env):PE X (.Attribute e f pos) (zgh1 K ta f):=h ▸ zye1 b g
theorem zs0{b:aX}{i:TE}{g:CmpOp}{r:R2}(n:OpR X (a9 g) r)(q:PE X a ta)(p:PE X b i)(o:eQ g b=false):PT X (.Compare a [g] [b] pos) (zx61 (tOp r ta i)):=zoa1 n q p o
theorem zl3(h:X.K=K)(i:PE X a ta)(g:∀b,iX a X.env b=(do let v <- b;eS a.pos;dJ [v] (truthy v))):PT X a (zxg1 K ta):=h ▸ zp01 i g
def clsV:V->Option aA
|.ty n=>some (.type n)
|.ref a=>some (.ref a)
|_=>none
theorem zcr{b:V}{c v:aA}(h:clsV b=some c)(r:RelV b v):v=c:=by
 cases b with
|ty n=>cases h;exact r
|ref a=>cases h;exact r
|_=>cases h
def rIsI(K:Fg):List V->Hp->VK->Prop:=λxs H Q=>∃x g c t b,xs=[x,g]/\clsV g=some c/\TyOf K H x t/\eD K t c=some b/\Q (.bl b) H
theorem zfm(h:X.K=K):CallR X (.builtin "isinstance") (rIsI K):=by
 subst h;intro g s Y H xs us Q I r h;obtain⟨x,o,c,t,b,rfl,n,ty,e,q⟩:=h;obtain⟨u,v,rfl,i,rv⟩:=r.two;obtain rfl:=zcr n rv;exact zmw I i ty e λtk=>⟨.bl b,H,I.tok tk,rfl,q⟩
end
def Def(P:aN)(w:aP)(K:Fg)(mg:Str->Option aA)(base:aT)(x:Str)(k:Nat)(ps:List Str)(sp:Sp):Prop :=
 ∃f b,FnOk P w K mg base CX0 k f b ps sp/\Binds K b ps []/\bK K (.ref f)=true/\mg x=some (.ref f)
def ztt(P:aN)(w:aP)(K:Fg)(mg:Str->Option aA)(base:aT)(x:Str)(C:aE)(k:Nat)(ps:List Str)(sp:Sp):Prop :=
 ∃f b,Mk K C f/\FnOk P w K mg base CX0 k f b ps sp/\Binds K b ps []/\mg x=some (.ref C)
def MethD(P:aN)(w:aP)(K:Fg)(mg:Str->Option aA)(base:aT)(C:aE)(m:Str)(k:Nat)(ps:List Str)(sp:Sp):Prop :=
 ∃f b,Cls K C/\Meth K C m f/\FnOk P w K mg base CX0 k f b ps sp/\Binds K b ps []
section
variable {X:Cx}{k:Nat}{C:aE}{ps:List Str}{sp:Sp}{x m:Str}{p pos apos:Pos}{e o:aX}{es:List aX}{ta:TE}{t:TA}
theorem zn0(d:Def X.prog X.w X.K X.mg X.base x k ps sp)(hr:Room k X.A)(q:Gl X x)(u:PA X (e :: es) t)(i:(x == ("__debug__":Str))=false:=by decide)
  (s:aS (e :: es) X.env=(false,bA e X.env) :: aS es X.env:=by rfl) (g:(b9 pos (aS es X.env)).any (·.1)=false:=by rfl):PE X (.Call (.Name x p) (e :: es) [] pos) (zq51 sp [] E0 t):=by
 obtain⟨f,y,F,b,n,m⟩:=d;exact zay F hr q m n b .nil zm51 u i s g
theorem zlf(d:ztt X.prog X.w X.K X.mg X.base x C k ps sp)(hr:Room (k+1) X.A)(n:Gl X x)(s:PA X (e :: es) t)(i:(x == ("__debug__":Str))=false:=by decide)
  (q:aS (e :: es) X.env=(false,bA e X.env) :: aS es X.env:=by rfl) (g:(b9 pos (aS es X.env)).any (·.1)=false:=by rfl):PE X (.Call (.Name x p) (e :: es) [] pos) (zid1 C sp [] E0 t):=by
 obtain⟨f,u,M,F,b,m⟩:=d;exact zx91 M F hr n m b .nil zm51 s i q g
theorem zd7{pl:Sem Bool}(d:MethD X.prog X.w X.K X.mg X.base C m k ps sp)(hr:Room k X.A)(s:PE X o ta)(u:PA X (e :: es) t)
  (g:aS (e :: es) X.env=(false,bA e X.env) :: aS es X.env:=by rfl) (i:(b9 pos (aS es X.env)).any (·.1)=false:=by rfl)
  (q:bA (.Call (.Attribute o m apos) (e :: es) [] pos) X.env=(do
   let n <- bA o X.env
   eS apos.atName
   let (f,first) <- dJ [n] (eW n m pl)
   iI pos f first (b9 pos (aS (e :: es) X.env)) (d6 pos (dG [] X.env))):=by rfl) :
  PE X (.Call (.Attribute o m apos) (e :: es) [] pos) (zn51 C m sp [] E0 ta t):=by
 obtain⟨f,y,c,M,F,b⟩:=d;exact zb91 s c M F hr b .nil zm51 u g i q
end
theorem zw2{H:Hp}{p:aE}(h:H p=none)(o:HO):Same H (upd H p o):=λb u q=>by rw[zd1 (zn5 q h)];exact q
theorem zrm{H H':Hp}{a:aE}{xs:List V}(e:Same H H')(h:SqT K H a xs):SqT K H' a xs:=by
 rcases h with(h|⟨o,h⟩)|h
 ·exact .inl (.inl (e _ _ h))
 ·exact .inl (.inr ⟨o,e _ _ h⟩)
 ·exact .inr h
section
variable {K:Fg}{Y:St}{H:Hp}{Q:VK}{D:Ends}{a b p:aE}{i j k:Int}{x y v:V}{xs ys:List V}{ta tb te:TE}{t u:TS}{tA:TA}{tt tt':TT}{A B:Prop}
theorem zhi1(h:SqT K H a xs)(e:atI xs i=some v)(q:Q v H):rIx K (.ref a) (.int i) H Q:=.inr (.inl ⟨a,xs,i,v,rfl,rfl,h,e,q⟩)
end
theorem zg4:a8 "len"=some (.builtin "len"):=by decide +kernel
theorem zsr:a8 "max"=some (.builtin "max"):=by decide +kernel
theorem zzd1:a8 "min"=some (.builtin "min"):=by decide +kernel
theorem zc2:a8 "isinstance"=some (.builtin "isinstance"):=by decide +kernel
theorem zud1:a8 "all"=some (.builtin "all"):=by decide +kernel
theorem zsa1:a8 "int"=some (.type "int"):=by decide +kernel
theorem zg71:a8 "bool"=some (.type "bool"):=by decide +kernel
theorem ze9:a8 "list"=some (.type "list"):=by decide +kernel
theorem zbs:a8 "tuple"=some (.type "tuple"):=by decide +kernel
structure Md(K:Fg)(mg:Str->Option aA):Prop where
 ex:∃h:aT,K.In h/\h.Ns aR mg
theorem Md.got(M:Md K mg){v:aA}(e:aZ K aR x=some (some v)):mg x=some v:=let ⟨_,X,G⟩:=M.ex;PySem.W.mg_of X G e
theorem Md.not(M:Md K mg)(e:aZ K aR x=some none):mg x=none:=let ⟨_,X,G⟩:=M.ex;PySem.W.mg_none_of X G e
structure TopDef(K:Fg)(x:Str)(st:dR):Prop where
 ex:∃f fd,aZ K aR x=some (some (.ref f))/\Fun K x x st f fd
theorem zmu{kV:aA}(a:aZ K aR x=some (some (.ref f)))
  (l:K.lookup f=some ⟨oc,od,.func (bV x x (zn8 st) (zm3 st) (zh0 st) .none kV doc pm an cdv ct),osl⟩) (c:dH K cdv x=true) (k:bK K (.ref f)=true):TopDef K x st:=⟨⟨_,_,a,zo91 l c k⟩⟩
structure TopMeth(K:Fg)(C:aE)(m qual:Str)(st:dR):Prop where
 ex:∃f fd,a6 K (.ref C) m=some (some (.ref f))/\fE K (.ref f)=true/\Fun K m qual st f fd
theorem zko{kV:aA}(a:a6 K (.ref C) x=some (some (.ref f)))(i:fE K (.ref f)=true)
  (l:K.lookup f=some ⟨oc,od,.func (bV x qual (zn8 st) (zm3 st) (zh0 st) .none kV doc pm an cdv ct),osl⟩) (c:dH K cdv qual=true) (k:bK K (.ref f)=true):TopMeth K C x qual st:=⟨⟨_,_,a,i,zo91 l c k⟩⟩
structure TopCls(K:Fg)(x:Str)(C:aE):Prop where
 at_:aZ K aR x=some (some (.ref C))
 cls:Cls K C
 mkk:fJ K C=true
 kp:bK K (.ref C)=true
theorem zcu(a:aZ K aR x=some (some (.ref C)))(pg:d3 K C Str.empty=true)(hd:eJ K C=true)(po:gA K C=true)
  (sa:a6 K (.ref C) "__setattr__"=some (some (.builtin "object.__setattr__"))) (mk:fJ K C=true) (kc:bK K (.ref C)=true):TopCls K x C:=⟨a,⟨pg,hd,po,sa⟩,mk,kc⟩
section
variable {P:aN}{w:aP}{K:Fg}{mg:Str->Option aA}{base:aT}
abbrev zrc(x qual:Str)(st:dR)(ps:List Str):Prop :=
 ∀(kV doc pm:aA)(an:Option aE)(cdv ct:aA)(us:List aA),us.length=ps.length->lQ (bV x qual (zn8 st) (zm3 st) (zh0 st) .none kV doc pm an cdv ct) ⟨us,[]⟩=pure (ps.zip us)
abbrev zt8(P:aN)(w:aP)(K:Fg)(mg:Str->Option aA)(base:aT)(qual:Str)(st:dR)(N:List Str)(k:Nat)(sp:Sp):Prop :=
 ∀(f:aE)(cdv:aA)(A:a7)(outer:List Env)(s:aG)(H:Hp)(vs:List V)(Q:VK)(E:XK),Room k (A.deeper (dW qual (zh0 st) s.heap.objs.size f cdv))->sp vs H Q E ->
   ∃t,PSs (cxOf CX0 P w K mg base N qual (zh0 st) f cdv A outer s H E).nox (zm3 st) t/\t { nx:=λ_ H'=>Q .non H',rt:=Q } (start N vs) H
theorem zx2{k:Nat}(M:Md K mg)(T:TopDef K x st)(S:FnScope N ps (zh0 st))(b:zrc x x st ps)(len:∀vs H Q E,sp vs H Q E->vs.length=ps.length)
  (body:zt8 P w K mg base x st N k sp):Def P w K mg base x (k+1) ps sp:=by
 obtain⟨f,g,a,F⟩:=T.ex;exact⟨f,g,F.ok S len (λcdv A outer s H vs Q E hr h=>body f cdv A outer s H vs Q E hr h),F.binds b,F.kp,M.got a⟩
theorem zo8{k:Nat}(c:Cls K C)(T:TopMeth K C m qual st)(S:FnScope N ps (zh0 st))(b:zrc m qual st ps)(len:∀vs H Q E,sp vs H Q E->vs.length=ps.length)
  (body:zt8 P w K mg base qual st N k sp):MethD P w K mg base C m (k+1) ps sp:=by
 obtain⟨f,g,a,i,F⟩:=T.ex;exact⟨f,g,c,⟨a,i,F.kp⟩,F.ok S len (λcdv A outer s H vs Q E hr h=>body f cdv A outer s H vs Q E hr h),F.binds b⟩
theorem zpk{k:Nat}(M:Md K mg)(c:TopCls K x C)(T:TopMeth K C "__init__" qual st)(S:FnScope N ps (zh0 st))(b:zrc "__init__" qual st ps)
  (len:∀vs H Q E,sp vs H Q E->vs.length=ps.length) (body:zt8 P w K mg base qual st N k sp):ztt P w K mg base x C (k+1) ps sp:=by
 obtain⟨f,g,a,i,F⟩:=T.ex;exact⟨f,g,⟨c.mkk,a,i,c.kp⟩,F.ok S len (λcdv A outer s H vs Q E hr h=>body f cdv A outer s H vs Q E hr h),F.binds b,M.got c.at_⟩
theorem zpf1{k:Nat}{g:aE}(M:Md K mg)(T:TopDef K "law" st)(i:mg "law"=some (.ref g))(S:FnScope N ["script"] (zh0 st))(o:zrc "law" "law" st ["script"])(len:∀vs H Q E,sp vs H Q E->vs.length=1)
  (body:∀base:aT,K.In base->base.Ns aR mg->zt8 P w K mg base "law" st N k sp) :
  ∃b:cS,(∀(s:aG)(v:aA),fR s b ⟨[v],[]⟩ [("script",v)])/\∀base:aT,K.In base->base.Ns aR mg->FnOk P w K mg base CX0 (k+1) g b ["script"] sp:=by
 obtain⟨f,b,a,F⟩:=T.ex;have e:=i.symm.trans (M.got a);cases e;obtain⟨oc,od,kV,doc,pm,an,cdv,ct,osl,p,u,q⟩:=id F.ex;refine⟨b,λs v=>.of_eq ?_,λbase n nb=>F.ok S len λcdv A outer s H vs Q E hr h=>body base n nb g cdv A outer s H vs Q E hr h⟩;rw[p];exact o kV doc pm an cdv ct [v] rfl
end
def zz91:aY->Bool
|.int _=>true
|.str _=>true
|_=>false
mutual
inductive Is(K:Fg)(H:Hp):V->aY->Prop
|non:Is K H .non .none
|bl (b:Bool):Is K H (.bl b) (.bool b)
|int (i:Int):Is K H (.int i) (.int i)
|str (x:Str):Is K H (.str x) (.str x)
|lst {a:aE} {xs:List V} {ds:List aY}:SqL K H a xs->IsAll K H xs ds->Is K H (.ref a) (.list ds)
|tup {a:aE} {xs:List V} {ds:List aY}:H a=some (.tup xs)->IsAll K H xs ds->Is K H (.ref a) (.tuple ds)
|tuc {a:aE} {xs:List V} {ds:List aY}:SqT K H a xs->IsAll K H xs ds->ds.all zz91=false->Is K H (.ref a) (.tuple ds)
inductive IsAll(K:Fg)(H:Hp):List V->List aY->Prop
|nil:IsAll K H [] []
|cons {x:V} {d:aY} {xs:List V} {ds:List aY}:Is K H x d->IsAll K H xs ds->IsAll K H (x :: xs) (d :: ds)
end
mutual
theorem Is.mono{K:Fg}{H H':Hp}(s:Same H H'):∀{v:V}{d:aY},Is K H v d->Is K H' v d
|_,_,.non=>.non
|_,_,.bl b=>.bl b
|_,_,.int i=>.int i
|_,_,.str x=>.str x
|_,_,.lst h r=>.lst (s.seq h) (IsAll.mono s r)
|_,_,.tup h r=>.tup (s _ _ h) (IsAll.mono s r)
|_,_,.tuc h r n=>.tuc (zrm s h) (IsAll.mono s r) n
theorem IsAll.mono{K:Fg}{H H':Hp}(s:Same H H'):∀{v:List V}{d:List aY},IsAll K H v d->IsAll K H' v d
|_,_,.nil=>.nil
|_,_,.cons h r=>.cons (Is.mono s h) (IsAll.mono s r)
end
section
variable {X:Cx}{pins:List (aE×Obj)}{Y:St}{H:Hp}{s:aG}
mutual
theorem zec(I:Inv X pins Y H s):∀{v:V}{d:aY}{u:aA},Is X.K H v d->RelV v u->∃as,Reads s.heap u d as
|_,_,_,.non,r=>by cases r;exact⟨_,.none⟩
|_,_,_,.bl b,r=>by cases r;exact⟨_,.bool b⟩
|_,_,_,.int i,r=>by obtain⟨t,rfl⟩:=r;exact⟨_,.int i t⟩
|_,_,_,.str x,r=>by obtain⟨t,rfl⟩:=r;exact⟨_,.str x t⟩
|_,_,_,.lst h q,r=>by
  cases r;obtain⟨its,rv,p,_⟩:=I.list h;obtain⟨as,z⟩:=zd8 I q rv;obtain⟨o,a,f,n,hd⟩:=p.isList;exact⟨_,.list a f hd (by simpa using z)⟩
|_,_,_,.tup h q,r=>by
  cases r;obtain⟨its,rv,p,_⟩:=I.tuple (SqT.of h);obtain⟨as,z⟩:=zd8 I q rv;obtain⟨o,a,f,n,hd⟩:=(show s.heap.IsTuple _ its.toArray from p)
  exact⟨_,.tuple a f hd (by simpa using z)⟩
|_,_,_,.tuc h q _,r=>by
  cases r;obtain⟨its,rv,p,_⟩:=I.tuple h;obtain⟨as,z⟩:=zd8 I q rv;obtain⟨o,a,f,n,hd⟩:=(show s.heap.IsTuple _ its.toArray from p)
  exact⟨_,.tuple a f hd (by simpa using z)⟩
theorem zd8(I:Inv X pins Y H s):∀{v:List V}{d:List aY}{u:List aA},IsAll X.K H v d->Vals v u->∃as,ReadsAll s.heap u d as
|_,_,_,.nil,r=>by cases r;exact⟨_,.nil⟩
|_,_,_,.cons h q,r=>by
  cases r with
 |cons b a =>
   obtain⟨as,z⟩:=zec I h b;obtain⟨bs,y⟩:=zd8 I q a;exact⟨_,.cons z y⟩
end
end
def rEqU(K:Fg):R2:=λx y H Q=>rEq x y H Q \/ (∃d e,Is K H x d/\Is K H y e/\bD d=true/\bD e=true/\Q (.bl (y6 d e)) H)
def rNeU(K:Fg):R2:=λx y H Q=>rNe x y H Q \/ (∃d e,Is K H x d/\Is K H y e/\bD d=true/\bD e=true/\Q (.bl (!PyData.eqv d e)) H)
section
variable {X:Cx}
theorem zf4(h:X.K=K)(o:X.A.units+64 < cM):OpR X (a9 .Eq) (rEqU K):=by
 subst h;refine zkj1.or ?_;walk_at"32";obtain⟨d,e,hd,p,f,b,q⟩:=q;obtain⟨as,n⟩:=zec I hd i;obtain⟨bs,m⟩:=zec I p g;exact eq_dataH n m f b o ⟨.bl _,H,I,rfl,q⟩
theorem zam(h:X.K=K)(o:X.A.units+64 < cM):OpR X (a9 .NotEq) (rNeU K):=by
 subst h;refine zgi1.or ?_;walk_at"32";obtain⟨d,e,hd,p,f,b,q⟩:=q;obtain⟨as,n⟩:=zec I hd i;obtain⟨bs,m⟩:=zec I p g;exact ne_dataH n m f b o ⟨.bl _,H,I,rfl,q⟩
def zj61(P:aN)(w:aP)(K:Fg)(mg:Str->Option aA)(base:aT)(m:Str)(k:Nat)(f:TE)(t:TA):TE:=λY H Q=>f Y H λx b=>∃a C g fs ps sp,x=.ref a/\b a=some (.ins C g fs)/\fs.lookup m=none /\
 MethD P w K mg base C m k ps sp/\t Y b λvs H2=>sp (x :: vs) H2 Q E0
theorem zs41{P:aN}{w:aP}{base:aT}{k:Nat}{m:Str}{pos g:Pos}{e o:aX}{t:TA}{pl:Sem Bool}(U:X.prog=P)(hw:X.w=w)(W:X.K=K)(y:X.mg=mg)(z:X.base=base)(hr:Room k X.A)(O:PE X o ta)(S:PA X (e :: es) t)
  (n:aS (e :: es) X.env=(false,bA e X.env) :: aS es X.env:=by rfl) (p:(b9 pos (aS es X.env)).any (·.1)=false:=by rfl)
  (N:bA (.Call (.Attribute o m g) (e :: es) [] pos) X.env=(do
   let B <- bA o X.env
   eS g.atName
   let (f,first) <- dJ [B] (eW B m pl)
   iI pos f first (b9 pos (aS (e :: es) X.env)) (d6 pos (dG [] X.env))):=by rfl) :
  PE X (.Call (.Attribute o m g) (e :: es) [] pos) (zj61 P w K mg base m k ta t):=by
 subst U hw W y z;intro i s Y H Q I h;refine eZ (pl:=pl) (thn (O i s Y H _ I h) λu s1 hz=>?_) N;obtain⟨x,H1,J,L,a,C,dx,fs,ps,sp,ex,Z,l,d,q⟩:=hz;subst ex;obtain rfl:u=v3 a:=L;obtain⟨f,fd,c,E,F,b⟩:=d;refine zj9 J Z c E l ?_;refine d8 (first:=[.ref a]) (h₀:=X.base) I.ok.mod.kin E.kp (thn (S pos i s1 Y H1 _ J q) λus s2 ⟨vs,H2,G,r,M⟩=>⟨G.kIn,?_⟩) n p;exact zju (us:=.ref a :: us) (vs:=.ref a :: vs) (dvs:=[]) (ds:=[]) F hr b .nil zm51 G (.cons rfl r) (by rw[wS];exact M)
end
variable {A:a7}{E:aA->aG->Prop}{K:Fg}{X:Cx}{a i n:Nat}{b it:aE}{es:List aX}{h':aT}{pins:List (aE×Obj)}{pos:Pos}{s:aG}{w:aP}{xs:List V}
section
variable {X:Cx}
def rInt:List V->Hp->VK->Prop:=λxs H Q=>((∃i,xs=[.int i]/\Q (.int i) H) \/ ∃k,xs=[.bl k]/\Q (.int (if k then 1 else 0)) H) \/ ∃z n,xs=[.str z]/\m5 z=some n/\z.length<=640/\Q (.int n) H
theorem zfw:CallR X (.type "int") rInt:=by
 walk_at"3";rcases h with h|⟨z,n,rfl,f,hl,q⟩
 ·exact zew pins s Y H xs us Q I r h
 ·obtain⟨u,rfl,t,rfl⟩:=r.one;exact PySem.W.KIN.call_text f hl ⟨.int n,H,I.tok _,⟨_,rfl⟩,q⟩
def rAll(K:Fg):List V->Hp->VK->Prop:=λxs H Q=>∃(a:aE)(bs:List Bool),xs=[.ref a]/\SqL K H a (bs.map V.bl)/\Q (.bl (bs.all id)) H
def Its(z:Str):It:=⟨λi _=>i < z.cps.size,λi H x H'=>H'=H/\∃c,z.cps[i]?=some c/\x=.str ⟨#[c]⟩,λi _=>z.cps.size<=i⟩
theorem zo41{P:aN}{M:aX}(z:Str)(t:Tok)(it:aE):Turn P w K M (Its z) [it] it (λi h=>h.IsStrIter it "str_ascii_iterator" z t i) where
 mem:=by simp
 obj:=λi h st b f=>by
  have e:b=it:=by simpa using f
  subst e;obtain⟨o,e,c,d⟩:=st;exact⟨o,e,λv z=>by rw[d]at z;cases z⟩
 keep:=λi h h' st k=>by
  obtain⟨o,e,c,d⟩:=st;exact⟨o,k it (by simp) o e,c,d⟩
 item:=by
  walk_at"23";subst u hw x;have g:i < z.cps.size:=q;obtain⟨J,G,O,C,B,y⟩:=hf it (by simp);have p:z.cps[i]?=some z.cps[i]:=by simp[g]
  refine wpAny_pyNext_ascii_item st p λh' m N=>?_;have U:Inv X pins Y H { s with heap:=h',toks:=s.toks+1 }:=I.turned (t':=s.toks+1) (λb o f e=>(N.2 b f).trans e) J G C B y;obtain⟨o,e,c,d⟩:=id m;exact⟨_,rfl,zwb1 (s:={ s with heap:=h',toks:=s.toks+1 }) e c d (by decide) ⟨.str ⟨#[z.cps[i]]⟩,H,U,⟨_,rfl⟩,⟨rfl,_,p,rfl⟩,m,λb f=>(hf b f).1⟩⟩
 done:=by
  walk_at"23";subst u hw x;have g:z.cps.size<=i:=q;obtain⟨J,G,O,C,B,y⟩:=hf it (by simp);have p:z.cps[i]?=none:=by simp[g]
  exact wpAny_pyNext_ascii_end (I.ok.hd L) st p λh' S=>⟨rfl,I.turned (t':=s.toks) (λb o f e=>S b o f e) J G C B y⟩
 self:=λA i s Q E st h=>wpAny_pyIter_striter_ascii st h
theorem zhu(bs:List Bool):((u3 bs.length).all λi=>bs[i]?.getD true)=bs.all id:=by
 rw[zH,uaA,uaA];constructor
 ·intro h b g;obtain⟨i,hi,rfl⟩:=uaB.mp g;have:=h i (u9.mpr hi);rw[u4 hi]at this;exact this
 ·intro h i hi;have f:=u9.mp hi;rw[u4 f];exact h _ (xE f)
theorem zi41(N:X.K=K)(J:X.calm=true):CallR X (.builtin "all") (rAll K):=by
 subst N;walk_at"3";obtain⟨a,bs,rfl,M,q⟩:=h;obtain⟨u,rfl,p⟩:=r.one;cases p;obtain⟨its,rv,pl,hz⟩:=I.list M;have m:=rv.length;rw[u5]at m;have x:a < s.heap.objs.size:=by obtain⟨o,e,_⟩:=pl.isList;exact vZ e
 refine call_all_walk (dS pl.isList ?_);have G:X.A.in1.handled=none:=I.ok.hd J;have I1:Inv X pins Y H { s with heap:=s.heap.push { cls:=.type "list_iterator",data:=.fields #[.ref a,.int 0 0] } }:=I.kept (t':=s.toks) λb o e=>vU _ e;refine⟨s.heap.objs.size,[s.heap.objs.size,a],[s.heap.objs.size],its.toArray.size,_,_,λi=>bs[i]?.getD true,rfl,Walks.list G s.heap.objs.size a (wF x) its.toArray,⟨⟨_,v7 _ rfl,rfl,rfl⟩,pl.isList.push _⟩,?_,λh' tk C=>?_⟩
 ·intro i v s2 Q2 E2 z B;have f:its[i]?=some v:=by simpa using z
  have hi:i < its.length:=(wI.mp f).1;have L:(bs.map V.bl)[i]?=some (V.bl bs[i]):=by rw[u8,u4 (by lia)];rfl
  obtain⟨u,y,p⟩:=rv.get L;rw[f]at y;cases y;cases p;have e:bs[i]?.getD true=bs[i]:=by rw[u4 (by lia)];rfl
  have g:Q2 (bs[i]?.getD true) s2:=B;rw[e]at g;exact cZ g
 ·obtain⟨Z,W,f2,U,S,O⟩:=I.fpOk (H':=H) (u7 _) (I.hok.fresh (u7 _));refine⟨.bl _,H,I1.turned (t':=tk) (it:=s.heap.objs.size) (λb o nb e=>C b o (by simpa using nb) e) Z W U S O,rfl,?_⟩;have e:its.toArray.size=bs.length:=by rw[v8];lia
  rw[e,zhu];exact q
def rInU(K:Fg):R2:=λx y H Q=>rIn K false x y H Q \/ ∃c z,x=.str ⟨#[c]⟩/\y=.str z/\Q (.bl (decide (c∈z.cps.toList))) H
def zky(K:Fg):R2:=λx y H Q=>rIn K true x y H Q \/ ∃c z,x=.str ⟨#[c]⟩/\y=.str z/\Q (.bl (!decide (c∈z.cps.toList))) H
theorem zfd1(m:X.K=K):OpR X (a9 .In) (rInU K):=by
 subst m;refine zmv.or ?_;walk_at"11";obtain⟨c,z,rfl,rfl,q⟩:=h;exact zbw pins s Y H _ _ v u Q I g f ⟨_,_,rfl,rfl,by rw[StrLaws.found_one];exact q⟩
theorem zqv(m:X.K=K):OpR X (a9 .NotIn) (zky K):=by
 subst m;refine zbk.or ?_;walk_at"11";obtain⟨c,z,rfl,rfl,q⟩:=h;exact zwh pins s Y H _ _ v u Q I g f ⟨_,_,rfl,rfl,by rw[StrLaws.found_one];exact q⟩
def repS(x:Str)(n:Nat):Str:=⟨(vY n x.cps).foldl (·++·) #[]⟩
theorem zg11(c:List (Array Nat)):∀a:Array Nat,c.foldl (·++·) a=a++(c.map j5).flatten.toArray:=by
 induction c with
|nil=>intro a;simp
|cons y r f=>intro a;rw[zK,f,uaR];congr 1;apply uaC.mp;simp
theorem zw31(x:Str)(n:Nat):(repS x n).cps.toList=(vY n x.cps.toList).flatten:=by
 unfold repS;rw[zg11];simp
def zih1:R2:=λx y H Q=>∃z n,x=.str z/\y=.int n/\0<=n/\z.length * n.toNat<=sizeLine/\n<=sizeLine/\Q (.str (repS z n.toNat)) H
theorem zva1:OpR X (bR .Mult) zih1:=by
 intro pins s Y H x y v u Q I p o h;obtain⟨z,n,rfl,rfl,g,C,M,q⟩:=h;obtain⟨t,rfl⟩:=p;obtain⟨t',rfl⟩:=o;have hl:sizeLine=16777216:=aQ;have hz:z.length=z.cps.size:=rfl;by_cases B:n=0
 ·subst B;refine P.mul_str (by rw[bB (by lia),bB (by lia)];rfl) (λa b f=>?_) (λa b=>?_) ?_
  ·exact aL a (by decide)
  ·exact bB (by simp)
  ·rw[aH (by decide)];exact⟨by decide,.str (repS z 0),H,I.tok _,⟨_,rfl⟩,q⟩
 have g:0 < n:=by lia
 refine P.mul_str (by rw[bB (by lia),bB (by lia)];rfl) (λ_ _ f=>?_) (λ_ _=>?_) ?_
 ·have L:(2 ^ 63 - 1:Int) / n ≥ z.length:=by
   refine(Int.le_ediv_iff_mul_le g).mpr ?_;have J:((z.length * n.toNat:Nat):Int)=(z.length:Int) * n:=by rw[Int.natCast_mul,zN (by lia)]
   have G:((z.length * n.toNat:Nat):Int)<=(sizeLine:Nat):=by exact_mod_cast C
   lia
  lia
 ·exact bB (by lia)
 ·rw[aF (by lia)];by_cases f:(n == 1 || z.length == 0)=true
  ·rw[aH f];refine⟨.str (repS z n.toNat),H,I,⟨t,?_⟩,q⟩;have:repS z n.toNat=z:=by
    have e:(repS z n.toNat).cps.toList=z.cps.toList:=by
     rw[zw31];rcases(Bool.or_eq_true _ _).mp f with f|f
     ·have:n=1:=by simpa using f
      subst this;simp
     ·have:z.cps.toList=[]:=by
       have:z.cps.size=0:=by simpa[hz]using f
       simpa using this
      rw[this];simp
    cases z with|mk c =>
     show repS ⟨c⟩ n.toNat=⟨c⟩
     have m:(repS ⟨c⟩ n.toNat).cps=c:=uaC.mp e;cases hq:repS ⟨c⟩ n.toNat with|mk d=>rw[hq]at m;cases m;rfl
   rw[this]
  ·rw[aF f];exact⟨fits_reps (bB (by lia)),.str (repS z n.toNat),H,I.tok _,⟨_,rfl⟩,q⟩
def rSlS:V->Option Int->Option Int->Hp->VK->Prop:=λx lo hi H Q=>∃z,x=.str z/\z.length<=sizeLine/\Q (.str (Txt.slice z lo hi)) H
theorem zf81:SlR X rSlS:=by
 intro pins s Y H x v m g lo hi sl Q I p y pl f h;obtain⟨z,rfl,hz,q⟩:=h;obtain⟨t,rfl⟩:=p;obtain⟨o,B,C,hd⟩:=y;have go:∀(l u:Option (Int×Tok)),partValue l=m->partValue u=g->l.map (·.1)=lo->u.map (·.1)=hi->aJ (aM X.prog X.w) X.A (fO (.str z t) (.ref sl)) (EP X pins Y Q) X.xe s:=λl u M L J G=>by
  subst J G;refine wpAny_getItem_str_slice (l:=l) (u:=u) (st:=none) ⟨o,B,C,by rw[M,L];exact hd⟩ rfl (post_val_or_str ⟨wX (Txt.slice_le z _ _) hz,λt' k=>?_⟩);exact⟨.str (Txt.slice z (l.map (·.1)) (u.map (·.1))),H,I.tok _,⟨_,rfl⟩,q⟩
 refine⟨"str",_,F.slot_str_getitem.lookup,l9 _ _ _,?_⟩;cases pl with
|none=>cases f with
 |none=>exact go none none rfl rfl rfl rfl
 |int j u=>exact go none (some (j,u)) rfl rfl rfl rfl
|int i t=>cases f with
 |none=>exact go (some (i,t)) none rfl rfl rfl rfl
 |int j u=>exact go (some (i,t)) (some (j,u)) rfl rfl rfl rfl
end
section
variable {prog:aN}{w:aP}{A:a7}{E:aA->aG->Prop}{s:aG}
theorem zeb{t:aE}{items}{x:aA}{Q:aA->aG->Prop}(f:s.heap.IsTupleIter it t i)
  (u:s.heap.IsTuple t items) (q:items[i]?=some x) (z:∀h',h'.IsTupleIter it t (i+1)->bF it s.heap h'->Q x { s with heap:=h' }) :
  aJ (aM prog w) A (bC (.ref it)) Q E s:=by
 obtain⟨o,g,y,hd⟩:=id f;obtain⟨B,m,_,nl,p⟩:=u;unfold bC;refine aC (bY (name:=xL "__next__") f.typeIs cY
  (bT cY f.typeIs fY ?_ (fV _)))
 show aJ _ _ (iD (.ref it) 0 >>= _) _ _ s;refine aC (bP g hd (x:=.ref t) rfl ?_);show aJ _ _ (if(v3 t == xJ)=true then _ else _) _ _ s;rw[aF (show ¬((v3 t == xJ)=true)from wA)];show aJ _ _ (iD (.ref it) 1 >>= _) _ _ s;refine aC (bP g hd (x:=.int i 0) rfl ?_);show aJ _ _ (fX (.ref t) >>= _) _ _ s;refine aC (bN m p ?_);simp only[v6,q];refine aC (eC g hd (by simp) (aI ⟨x,rfl,aI (z _ ?_ (b8 ..))⟩));exact⟨_,yT _ g (e6 (cK hd _)),(gD ..).trans y,by
  rw[cK hd];simp[eK]⟩
theorem zqc{t:aE}{items}{Q:aA->aG->Prop}(u:A.handled=none)
  (f:s.heap.IsTupleIter it t i) (z:s.heap.IsTuple t items) (y:items[i]?=none)
  (B:∀h' e,eM it s.heap h'->(∃o,h'.get? e=some o/\o.cls=.type "StopIteration")->E (.ref e) { s with heap:=h' }) :
  aJ (aM prog w) A (bC (.ref it)) Q E s:=by
 obtain⟨o,g,G,hd⟩:=id f;obtain⟨C,p,_,nl,q⟩:=z;unfold bC;refine aC (bY (name:=xL "__next__") f.typeIs cY
  (bT cY f.typeIs fY ?_ (fV _)))
 show aJ _ _ (iD (.ref it) 0 >>= _) _ _ s;refine aC (bP g hd (x:=.ref t) rfl ?_);show aJ _ _ (if(v3 t == xJ)=true then _ else _) _ _ s;rw[aF (show ¬((v3 t == xJ)=true)from wA)];show aJ _ _ (iD (.ref it) 1 >>= _) _ _ s;refine aC (bP g hd (x:=.int i 0) rfl ?_);show aJ _ _ (fX (.ref t) >>= _) _ _ s;refine aC (bN p q ?_);simp only[v6,y];refine aC (eB (aC (eC g hd (by simp) ?_)));show aJ _ _ (nM (.type "StopIteration") [] >>= _) _ _ _;refine aC ?_;simp only[nM,newTuple];refine aC (bJ ?_ (by size_fits));refine aC (m:=iA _ _) (lK (a:=xJ) (by first|rfl|(simp only[iA];rfl)) ?_);refine bJ ?_ (by size_fits);simp only[raiseNew];refine aC (wpAny_handled ?_)
 first|rw[show A.in1.handled=none from u]|rw[u]
 refine aC (aI (wpAny_throw ?_));exact B _ _ (((b8 ..).extBut.push _).push _) ⟨_,v7 _ rfl,rfl⟩
end
structure Nx(P:aN)(w:aP)(K:Fg)(J:It)(it:aE)(st:Nat->aT->Prop):Prop where
 obj:∀i h,st i h->∃o,h.get? it=some o/\∀v,o.data≠.cell v
 keep:∀i h h',st i h->(∀o,h.get? it=some o->h'.get? it=some o)->st i h'
 item:∀(X:Cx),X.prog=P->X.w=w->X.K=K->∀(A:a7)(i:Nat)(pins:List (aE×Obj))(s:aG)(Y:St)(H:Hp)(Q:aA->aG->Prop)(E:aA->aG->Prop),Inv X pins Y H s->st i s.heap->J.go i H ->
  (∀u x h' tk,RelV x u->J.yld i H x H->st (i+1) h'->bF it s.heap h'->Q u { s with heap:=h',toks:=tk })->aJ (aM P w) A (bC (.ref it)) Q E s
 done:∀(X:Cx),X.prog=P->X.w=w->X.K=K->∀(A:a7)(i:Nat)(pins:List (aE×Obj))(s:aG)(Y:St)(H:Hp)(Q:aA->aG->Prop)(E:aA->aG->Prop),A.handled=none->Inv X pins Y H s->st i s.heap->J.stop i H ->
  (∀h' e,eM it s.heap h'->(∃o,h'.get? e=some o/\o.cls=.type "StopIteration")->E (.ref e) { s with heap:=h' })->aJ (aM P w) A (bC (.ref it)) Q E s
theorem zp91{P:aN}(a it:aE):Nx P w K (Itl K a) it (λi h=>h.IsListIter it a i) where
 obj:=λi h st=>by
  obtain⟨o,e,c,d⟩:=st;exact⟨o,e,λv z=>by rw[d]at z;cases z⟩
 keep:=λi h h' st k=>st.at k
 item:=by
  walk_at"19";subst q hw y;obtain⟨xs,x,f,g⟩:=m;obtain⟨its,rv,p,hz⟩:=I.list f;obtain⟨u,L,G⟩:=rv.get g;exact wpAny_nextOf_list_item st p.isList (x:=u) (by simpa using L) λh' B C=>N u x h' s.toks G ⟨rfl,λys J=>by rw[I.list_inj J f];exact g⟩ B C
 done:=by
  walk_at"18";subst q hw y;obtain⟨xs,f,g⟩:=m;obtain⟨its,rv,p,hz⟩:=I.list f;have hl:=rv.length;exact wpAny_nextOf_list_end M st p.isList (by simp;lia) O
theorem zcd1{P:aN}(a it:aE):Nx P w K (Itt K a) it (λi h=>h.IsTupleIter it a i) where
 obj:=λi h st=>by
  obtain⟨o,e,c,d⟩:=st;exact⟨o,e,λv z=>by rw[d]at z;cases z⟩
 keep:=λi h h' st k=>st.at k
 item:=by
  walk_at"19";subst q hw y;obtain⟨xs,x,f,g⟩:=m;obtain⟨its,rv,p,hz⟩:=I.tuple f;obtain⟨u,L,G⟩:=rv.get g;exact zeb st (show s.heap.IsTuple a its.toArray from p) (x:=u) (by simpa using L) λh' B C=>N u x h' s.toks G ⟨rfl,λys J=>by rw[I.tuple_inj J f];exact g⟩ B C
 done:=by
  walk_at"18";subst q hw y;obtain⟨xs,f,g⟩:=m;obtain⟨its,rv,p,hz⟩:=I.tuple f;have hl:=rv.length;exact zqc M st (show s.heap.IsTuple a its.toArray from p) (by simp;lia) O
theorem zt4{Y:St}{H:Hp}{tk:Nat}(I:Inv X pins Y H s)(f:FpOk X pins H b)(k:bF b s.heap h'):Inv X pins Y H { s with heap:=h',toks:=tk } :=
 let ⟨x,u,_,q,p,m⟩:=f
 I.turned (λc o g e=>(k.2 c g).trans e) x u q p m
theorem zqz{Y:St}{H:Hp}{tk:Nat}(I:Inv X pins Y H s)(f:FpOk X pins H b)(k:eM b s.heap h'):Inv X pins Y H { s with heap:=h',toks:=tk } :=
 let ⟨x,u,_,q,p,m⟩:=f
 I.turned (λc o g e=>k c o g e) x u q p m
structure ZAp(z TI TO i1 i2:aE):Prop where
 TIz:TI≠z
 TOz:TO≠z
 i1z:i1≠z
 i2z:i2≠z
 TITO:TI≠TO
 TIi1:TI≠i1
 TIi2:TI≠i2
 TOi1:TO≠i1
 TOi2:TO≠i2
 i12:i1≠i2
structure ZSt(z TI TO i1 i2:aE)(f0:aA)(st1 st2:Nat->aT->Prop)(i:Nat)(h:aT):Prop where
 z:gE h z TI TO f0
 TI:e8 h TI (.ref i1) (.ref i2)
 TO:∃a b,e8 h TO a b
 s1:st1 i h
 s2:st2 i h
section
variable {X:Cx}{pins:List (aE×Obj)}{Y:St}{H:Hp}{s:aG}{J1 J2:It}{z TI TO i1 i2:aE}{st1 st2:Nat->aT->Prop}{i:Nat}
theorem zfz{Q:aA->aG->Prop}(m:Nx X.prog X.w X.K J1 i1 st1)(g:Nx X.prog X.w X.K J2 i2 st2)(D:ZAp z TI TO i1 i2)(I:Inv X pins Y H s)
  (fz:FpOk X pins H z) (B:FpOk X pins H TO) (f1:FpOk X pins H i1) (f2:FpOk X pins H i2) (S:ZSt z TI TO i1 i2 .none st1 st2 i s.heap) (g1:J1.go i H) (g2:J2.go i H)
  (hQ:∀p x1 x2 s',H p=none->p≠z->p≠TI->p≠TO->p≠i1->p≠i2->J1.yld i H x1 H->J2.yld i H x2 H->Inv X pins Y (upd H p (.tup [x1,x2])) s'->ZSt z TI TO i1 i2 (eK p) st1 st2 (i+1) s'.heap->Q (.ref p) s') :
  aJ (aM X.prog X.w) A (Builtin.«zip.__next__» ⟨[.ref z],[]⟩) (λC s'=>∃v,C=.done (.ret v)/\Q v s') E s:=by
 obtain⟨hz,hTI,⟨a,b,hTO⟩,h1,h2⟩:=S;show aJ _ _ (iD (.ref z) 2 >>= _) _ _ _;refine aC (bP hz rfl (x:=.bool false) rfl ?_);show aJ _ _ (iD (.ref z) 3 >>= _) _ _ _;refine aC (bP hz rfl (x:=.ref TI) rfl ?_);refine aC (bN hTI rfl ?_);show aJ _ _ (bX (.ref z) >>= _) _ _ _;refine aC ?_;unfold bX;refine aC (bP hz rfl (x:=.none) rfl (aI ?_));simp only[if_true];refine aC (eB ?_);refine aC (bP hz rfl (x:=.ref TO) rfl ?_);refine aC (cJ hz (by simp) λh₁ hz₁ hs₁=>?_)
 replace hz₁:gE h₁ z TI TO .ellipsis:=hz₁
 have M:Inv X pins Y H { s with heap:=h₁ }:=zt4 (tk:=s.toks) I fz hs₁;refine aC ?_;simp only[List.zipIdx_cons,List.zipIdx_nil,j8,j9];refine aC (aC (f7 ?_));show aJ _ _ (bC (.ref i1) >>= _) _ _ _;have a1:st1 i h₁:=m.keep _ _ _ h1 λo e=>hs₁.extBut _ _ D.i1z e;refine aC (m.item X rfl rfl rfl _ i pins _ Y H _ _ M a1 g1 λx x1 h₂ tk₂ W O b1 hs₂=>aI ?_)
 replace hs₂:bF i1 h₁ h₂:=hs₂
 have I2:Inv X pins Y H { s with heap:=h₂,toks:=tk₂ }:=zt4 (s:={ s with heap:=h₁ }) (tk:=tk₂) M f1 hs₂;have hTO₂:e8 h₂ TO a b:=hs₂.extBut _ _ D.TOi1 (hs₁.extBut _ _ D.TOz hTO);refine aC (bN hTO₂ rfl ?_);refine aC (fL (s:={ s with heap:=h₂,toks:=tk₂ }) hTO₂ λh₃ hTO₃ hs₃=>?_)
 replace hTO₃:e8 h₃ TO x b:=hTO₃
 replace hs₃:bF TO h₂ h₃:=hs₃
 have L:Inv X pins Y H { s with heap:=h₃,toks:=tk₂ }:=zt4 (s:={ s with heap:=h₂,toks:=tk₂ }) (tk:=tk₂) I2 B hs₃;refine aC (d4 (aI ?_));refine aC (aC (f7 ?_));show aJ _ _ (bC (.ref i2) >>= _) _ _ _;have a2:st2 i h₃:=g.keep _ _ _ h2 λo e=>hs₃.extBut _ _ D.TOi2.symm (hs₂.extBut _ _ D.i12.symm (hs₁.extBut _ _ D.i2z e));refine aC (g.item X rfl rfl rfl _ i pins _ Y H _ _ L a2 g2 λy x2 h₄ tk₄ U N b2 hs₄=>aI ?_)
 replace hs₄:bF i2 h₃ h₄:=hs₄
 have I4:Inv X pins Y H { s with heap:=h₄,toks:=tk₄ }:=zt4 (s:={ s with heap:=h₃,toks:=tk₂ }) (tk:=tk₄) L f2 hs₄;have hTO₄:e8 h₄ TO x b:=hs₄.extBut _ _ D.TOi2 hTO₃;refine aC (bN hTO₄ rfl ?_);refine aC (fL (s:={ s with heap:=h₄,toks:=tk₄ }) hTO₄ λh₅ hTO₅ hs₅=>?_)
 replace hTO₅:e8 h₅ TO x y:=hTO₅
 replace hs₅:bF TO h₄ h₅:=hs₅
 have J:Inv X pins Y H { s with heap:=h₅,toks:=tk₄ }:=zt4 (s:={ s with heap:=h₄,toks:=tk₄ }) (tk:=tk₄) I4 B hs₅;refine aC (d4 (aI (aI ?_)));refine aC (bN hTO₅ rfl ?_);refine aC (wpAny_newTuple ?_);have hz₅:gE h₅ z TI TO .ellipsis:=hs₅.extBut _ _ D.TOz.symm (hs₄.extBut _ _ D.i2z.symm (hs₃.extBut _ _ D.TOz.symm (hs₂.extBut _ _ D.i1z.symm hz₁)));have hTI₅:e8 h₅ TI (.ref i1) (.ref i2):=hs₅.extBut _ _ D.TITO (hs₄.extBut _ _ D.TIi2 (hs₃.extBut _ _ D.TITO (hs₂.extBut _ _ D.TIi1 (hs₁.extBut _ _ D.TIz hTI))));have f:st1 (i+1) h₅:=m.keep _ _ _ b1 λo e=>hs₅.extBut _ _ D.TOi1.symm (hs₄.extBut _ _ D.i12 (hs₃.extBut _ _ D.TOi1.symm e));have G:st2 (i+1) h₅:=g.keep _ _ _ b2 λo e=>hs₅.extBut _ _ D.TOi2.symm e;have Z:H h₅.objs.size=none:=J.hok.fresh (u7 _);have I6:Inv X pins Y (upd H h₅.objs.size (.tup [x1,x2])) { s with heap:=h₅.push { cls:=.type "tuple",data:=.seq #[x,y] },toks:=tk₄ }:=by
  refine J.laid (t':=tk₄) (o:=.tup [x1,x2]) (λb ob q=>vU _ q) (u7 _) ?_;exact⟨by show 2<=sizeLine;rw[aQ];decide,[x,y],.cons W (.cons U .nil),_,v7 _ rfl,rfl,0,rfl⟩
 have lt:∀{c:aE}{o:Obj},h₅.get? c=some o->h₅.objs.size≠c:=λe=>y3 (vZ e);obtain⟨o1,e1,_⟩:=m.obj _ _ f;obtain⟨o2,e2,_⟩:=g.obj _ _ G;have u:FpOk X pins (upd H h₅.objs.size (.tup [x1,x2])) z:=⟨by rw[zd1 (lt hz₅).symm];exact fz.1,fz.2⟩
 show aJ _ _ (eA (.ref z) (.ref h₅.objs.size) >>= _) _ _ _;refine aC ?_;unfold eA;have hz₆:gE (h₅.push { cls:=.type "tuple",data:=.seq #[x,y] }) z TI TO .ellipsis:=vU _ hz₅;refine aC (cJ hz₆ (by simp) λh₇ hz₇ hs₇=>?_)
 replace hz₇:gE h₇ z TI TO (eK h₅.objs.size):=hz₇
 have I7:Inv X pins Y (upd H h₅.objs.size (.tup [x1,x2])) { s with heap:=h₇,toks:=tk₄ }:=zt4 (s:={ s with heap:=h₅.push { cls:=.type "tuple",data:=.seq #[x,y] },toks:=tk₄ }) (tk:=tk₄) I6 u hs₇;refine cJ hz₇ (by simp) λh₈ hz₈ hs₈=>?_
 replace hz₈:gE h₈ z TI TO (eK h₅.objs.size):=hz₈
 have I8:Inv X pins Y (upd H h₅.objs.size (.tup [x1,x2])) { s with heap:=h₈,toks:=tk₄ }:=zt4 (s:={ s with heap:=h₇,toks:=tk₄ }) (tk:=tk₄) I7 u hs₈;have up:∀c o,c≠z->h₅.get? c=some o->h₈.get? c=some o:=λc o f e=>hs₈.extBut _ _ f (hs₇.extBut _ _ f (vU _ e));refine aI ⟨_,rfl,?_⟩;exact hQ h₅.objs.size x1 x2 _ Z (lt hz₅) (lt hTI₅) (lt hTO₅) (lt e1) (lt e2) O N I8 ⟨hz₈,up _ _ D.TIz hTI₅,⟨_,_,up _ _ D.TOz hTO₅⟩,m.keep _ _ _ f λo e=>up _ o D.i1z e,g.keep _ _ _ G λo e=>up _ o D.i2z e⟩
theorem zq61{E:aA->aG->Prop}{Q:Fin->aG->Prop}(L:A.handled=none)(B:Nx X.prog X.w X.K J1 i1 st1)(U:Nx X.prog X.w X.K J2 i2 st2)(D:ZAp z TI TO i1 i2)(I:Inv X pins Y H s)
  (fz:FpOk X pins H z) (J:FpOk X pins H TO) (N:FpOk X pins H i1) (f2:FpOk X pins H i2) (S:ZSt z TI TO i1 i2 .none st1 st2 i s.heap) (g:J1.stop i H \/ (J1.go i H/\J2.stop i H))
  (M:∀h' e tk,Inv X pins Y H { s with heap:=h',toks:=tk }->(∃o,h'.get? e=some o/\o.cls=.type "StopIteration")->E (.ref e) { s with heap:=h',toks:=tk }) :
  aJ (aM X.prog X.w) A (Builtin.«zip.__next__» ⟨[.ref z],[]⟩) Q E s:=by
 obtain⟨hz,G,⟨a,b,hTO⟩,h1,Z⟩:=S;show aJ _ _ (iD (.ref z) 2 >>= _) _ _ _;refine aC (bP hz rfl (x:=.bool false) rfl ?_);show aJ _ _ (iD (.ref z) 3 >>= _) _ _ _;refine aC (bP hz rfl (x:=.ref TI) rfl ?_);refine aC (bN G rfl ?_);show aJ _ _ (bX (.ref z) >>= _) _ _ _;refine aC ?_;unfold bX;refine aC (bP hz rfl (x:=.none) rfl (aI ?_));simp only[if_true];refine aC (eB ?_);refine aC (bP hz rfl (x:=.ref TO) rfl ?_);refine aC (cJ hz (by simp) λh₁ hz₁ hs₁=>?_)
 replace hz₁:gE h₁ z TI TO .ellipsis:=hz₁
 have q:Inv X pins Y H { s with heap:=h₁ }:=zt4 (tk:=s.toks) I fz hs₁;refine aC ?_;simp only[List.zipIdx_cons,List.zipIdx_nil,j8,j9];refine aC (aC (f7 ?_));show aJ _ _ (bC (.ref i1) >>= _) _ _ _;have O:st1 i h₁:=B.keep _ _ _ h1 λo e=>hs₁.extBut _ _ D.i1z e;rcases g with g|⟨g1,g2⟩
 ·refine aC (B.done X rfl rfl rfl _ i pins _ Y H _ _ L q O g λh₂ e hs₂ y=>?_)
  replace hs₂:eM i1 h₁ h₂:=hs₂
  have C:Inv X pins Y H { s with heap:=h₂ }:=zqz (s:={ s with heap:=h₁ }) (tk:=s.toks) q N hs₂;obtain⟨u,f,m⟩:=y;have hz₂:gE h₂ z TI TO .ellipsis:=hs₂ _ _ D.i1z.symm hz₁;have p:e≠z:=λx=>by subst x;rw[hz₂]at f;cases f;simp at m
  exact cJ hz₂ (by simp) λh₃ _ hs₃=>M h₃ e s.toks (zt4 (s:={ s with heap:=h₂ }) (tk:=s.toks) C fz hs₃) ⟨u,hs₃.extBut _ _ p f,m⟩
 ·refine aC (B.item X rfl rfl rfl _ i pins _ Y H _ _ q O g1 λx x1 h₂ tk₂ r1 y1 b1 hs₂=>aI ?_)
  replace hs₂:bF i1 h₁ h₂:=hs₂
  have C:Inv X pins Y H { s with heap:=h₂,toks:=tk₂ }:=zt4 (s:={ s with heap:=h₁ }) (tk:=tk₂) q N hs₂;have hTO₂:e8 h₂ TO a b:=hs₂.extBut _ _ D.TOi1 (hs₁.extBut _ _ D.TOz hTO);refine aC (bN hTO₂ rfl ?_);refine aC (fL (s:={ s with heap:=h₂,toks:=tk₂ }) hTO₂ λh₃ hTO₃ hs₃=>?_)
  replace hs₃:bF TO h₂ h₃:=hs₃
  have W:Inv X pins Y H { s with heap:=h₃,toks:=tk₂ }:=zt4 (s:={ s with heap:=h₂,toks:=tk₂ }) (tk:=tk₂) C J hs₃;refine aC (d4 (aI ?_));refine aC (aC (f7 ?_));show aJ _ _ (bC (.ref i2) >>= _) _ _ _;have a2:st2 i h₃:=U.keep _ _ _ Z λo e=>hs₃.extBut _ _ D.TOi2.symm (hs₂.extBut _ _ D.i12.symm (hs₁.extBut _ _ D.i2z e));refine aC (U.done X rfl rfl rfl _ i pins _ Y H _ _ L W a2 g2 λh₄ e hs₄ y=>?_)
  replace hs₄:eM i2 h₃ h₄:=hs₄
  have I4:Inv X pins Y H { s with heap:=h₄,toks:=tk₂ }:=zqz (s:={ s with heap:=h₃,toks:=tk₂ }) (tk:=tk₂) W f2 hs₄;obtain⟨u,f,m⟩:=y;have hz₄:gE h₄ z TI TO .ellipsis:=hs₄ _ _ D.i2z.symm (hs₃.extBut _ _ D.TOz.symm (hs₂.extBut _ _ D.i1z.symm hz₁));have p:e≠z:=λx=>by subst x;rw[hz₄]at f;cases f;simp at m
  exact cJ hz₄ (by simp) λh₅ _ hs₅=>M h₅ e tk₂ (zt4 (s:={ s with heap:=h₄,toks:=tk₂ }) (tk:=tk₂) I4 fz hs₅) ⟨u,hs₅.extBut _ _ p f,m⟩
end
def Itz(f g:It):It:=⟨λi H=>f.go i H/\g.go i H,λi H x H'=>∃x1 x2 p,f.yld i H x1 H/\g.yld i H x2 H/\H p=none/\x=.ref p/\H'=upd H p (.tup [x1,x2]),λi H=>f.stop i H \/ (f.go i H/\g.stop i H)⟩
theorem zc01{P:aN}{O:List aX}{c:_}{J1 J2:It}{z TI TO y x:aE}{N M:Nat->aT->Prop}(L:Nx P w K J1 y N)(J:Nx P w K J2 x M)(D:ZAp z TI TO y x) :
  Turn P w K (.Tuple O c pos) (Itz J1 J2) [z,TI,TO,y,x] z (ZSt z TI TO y x .none N M) where
 mem:=by simp
 obj:=λi h S b u=>by
  obtain⟨hz,m,⟨a,Z,g⟩,G,C⟩:=S;simp at u;rcases u with rfl|rfl|rfl|rfl|rfl
  ·exact⟨_,hz,λv q=>by cases q⟩
  ·exact⟨_,m,λv q=>by cases q⟩
  ·exact⟨_,g,λv q=>by cases q⟩
  ·exact L.obj _ _ G
  ·exact J.obj _ _ C
 keep:=λi h h' S k=>by
  obtain⟨hz,m,⟨a,Z,g⟩,G,C⟩:=S;exact⟨k _ (by simp) _ hz,k _ (by simp) _ m,⟨a,Z,k _ (by simp) _ g⟩,L.keep _ _ _ G λo e=>k _ (by simp) _ e,J.keep _ _ _ C λo e=>k _ (by simp) _ e⟩
 item:=by
  walk_at"20";subst hP hw hK;have B:s.TypeIs (.ref z) "zip":=⟨_,S.z,rfl⟩
  unfold dU;refine aC (iP (bY (name:=xL "__next__") B fK
   (bT fK B lZ
    (zfz L J D I (hf _ (by simp)) (hf _ (by simp)) (hf _ (by simp)) (hf _ (by simp)) S U.1 U.2 λp x1 x2 s' hp n1 n2 n3 n4 n5 y1 y2 I' S'=>aI ?_) (lJ _))))
  refine⟨.ref p,rfl,wpAny_letOwnedTupleGo_zip S'.z λh' hz' f=>?_⟩;have nn:∀b∈[z,TI,TO,y,x],b≠p:=λb u=>by
   simp at u;rcases u with rfl|rfl|rfl|rfl|rfl
   ·exact n1.symm
   ·exact n2.symm
   ·exact n3.symm
   ·exact n4.symm
   ·exact n5.symm
  have fz:FpOk X pins (upd H p (.tup [x1,x2])) z:=⟨by rw[zd1 n1.symm];exact(hf z (by simp)).1,(hf z (by simp)).2⟩
  obtain⟨_,m,⟨a,Z,g⟩,G,C⟩:=S';refine⟨.ref p,_,zt4 (tk:=s'.toks) I' fz f,rfl,⟨x1,x2,p,y1,y2,hp,rfl,rfl⟩,⟨hz',f.extBut _ _ D.TIz m,⟨a,Z,f.extBut _ _ D.TOz g⟩,L.keep _ _ _ G λo e=>f.extBut _ _ D.i1z e,J.keep _ _ _ C λo e=>f.extBut _ _ D.i2z e⟩,λb u=>?_⟩;rw[zd1 (nn b u)];exact(hf b u).1
 done:=by
  walk_at"20";subst hP hw hK;have B:s.TypeIs (.ref z) "zip":=⟨_,S.z,rfl⟩
  unfold dU;refine aC (iP (bY (name:=xL "__next__") B fK
   (bT fK B lZ (zq61 (I.ok.hd W) L J D I (hf _ (by simp)) (hf _ (by simp)) (hf _ (by simp)) (hf _ (by simp)) S U λh' e tk I' he=>?_) (lJ _))))
  obtain⟨o,ho,W⟩:=he;refine aC (gO (T := "StopIteration") (b:=true) ⟨o,ho,W⟩ mY ?_);exact aI ⟨rfl,I'⟩
 self:=λ_ _ _ _ _ S h=>lT S.z h
def zf71(h:aT)(v:aA)(ob:Obj):Prop:=∀(prog:aN)(w:aP)(A:a7)(s:aG)(Q E:aA->aG->Prop),(∀c o,h.get? c=some o->s.heap.get? c=some o)->Q (.ref s.heap.objs.size) { s with heap:=s.heap.push ob }->aJ (aM prog w) A (gH v) Q E s
def zipO(h:aT)(f o2:Obj):Heap:=((((h.push f).push o2).push { cls:=.type "tuple",data:=.seq #[.ref h.objs.size,.ref (h.push f).objs.size] }).push { cls:=.type "tuple",data:=.seq #[.none,.none] }).push
 { cls:=.type "zip",data:=.fields #[.none,.bool false,.bool false,.ref ((h.push f).push o2).objs.size,.ref (((h.push f).push o2).push { cls:=.type "tuple",data:=.seq #[.ref h.objs.size,.ref (h.push f).objs.size] }).objs.size] }
theorem zpu(p o:aA)(f o2:Obj) :
  Meets (Builtin.«zip.__new__» ⟨[.type "zip",p,o],[]⟩) (λ_ R s=>zf71 s.heap p f/\zf71 s.heap o o2 /\
   R (.ok (.ret (.ref ((((s.heap.push f).push o2).push { cls:=.type "tuple",data:=.seq #[.ref s.heap.objs.size,.ref (s.heap.push f).objs.size] }).push { cls:=.type "tuple",data:=.seq #[.none,.none] }).objs.size))) { s with heap:=zipO s.heap f o2 }) :=
 .of_wp λprog w A R s h=>by
  obtain⟨m,g,d,tk,os⟩:=s;obtain⟨x,u,h⟩:=h;have q:=sub_zip;have B:∀{A:a7}{Q E:aA->aG->Prop},Q (.ref m.objs.size) ⟨m.push f,g,d,tk,os⟩->aJ (aM prog w) A (gH p) Q E ⟨m,g,d,tk,os⟩:=λ{A Q E} z=>x prog w A ⟨m,g,d,tk,os⟩ Q E (λ_ _ e=>e) z;have y:∀{A:a7}{Q E:aA->aG->Prop},Q (.ref (m.push f).objs.size) ⟨(m.push f).push o2,g,d,tk,os⟩->aJ (aM prog w) A (gH o) Q E ⟨m.push f,g,d,tk,os⟩:=λ{A Q E} z=>u prog w A ⟨m.push f,g,d,tk,os⟩ Q E (λ_ _ e=>vU _ e) z
  wp_walk using B,y
  exact⟨_,rfl,h⟩
theorem zz01{prog:aN}{w:aP}{A:a7}{E:aA->aG->Prop}{u q:aA}{f o2:Obj}{Q:aA->aG->Prop}(J:zf71 s.heap u f)(I:zf71 s.heap q o2)
  (h:∀h',gE h' (s.heap.objs.size+4) (s.heap.objs.size+2) (s.heap.objs.size+3) .none->e8 h' (s.heap.objs.size+2) (.ref s.heap.objs.size) (.ref (s.heap.objs.size+1)) ->
   e8 h' (s.heap.objs.size+3) .none .none->h'.get? s.heap.objs.size=some f->h'.get? (s.heap.objs.size+1)=some o2->(∀c o,s.heap.get? c=some o->h'.get? c=some o)->Q (.ref (s.heap.objs.size+4)) { s with heap:=h' })
  (N:f.isFreed=false) (M:o2.isFreed=false):aJ (aM prog w) A (call (.type "zip") [u,q]) Q E s:=by
 refine callType_new F.called_zip (by decide) (F.typeCall_zip_2 _ _) (F.newCall_zip_2 _ _) (λobj=>F.args_object_init_3 obj _ _) F.entry_zip_new (zpu u q f o2) ⟨J,I,?_⟩;have p:(s.heap.push f).objs.size=s.heap.objs.size+1:=xH ..;have m:((s.heap.push f).push o2).objs.size=s.heap.objs.size+2:=by rw[xH,p]
 have g:(((s.heap.push f).push o2).push { cls:=.type "tuple",data:=.seq #[.ref s.heap.objs.size,.ref (s.heap.push f).objs.size] }).objs.size=s.heap.objs.size+3:=by rw[xH,m]
 have z:((((s.heap.push f).push o2).push { cls:=.type "tuple",data:=.seq #[.ref s.heap.objs.size,.ref (s.heap.push f).objs.size] }).push { cls:=.type "tuple",data:=.seq #[.none,.none] }).objs.size=s.heap.objs.size+4:=by rw[xH,g]
 have y:(zipO s.heap f o2).get? ((((s.heap.push f).push o2).push { cls:=.type "tuple",data:=.seq #[.ref s.heap.objs.size,.ref (s.heap.push f).objs.size] }).push { cls:=.type "tuple",data:=.seq #[.none,.none] }).objs.size=some _:=v7 _ rfl;have B:(zipO s.heap f o2).get? (((s.heap.push f).push o2).push { cls:=.type "tuple",data:=.seq #[.ref s.heap.objs.size,.ref (s.heap.push f).objs.size] }).objs.size=some _:=vU _ (v7 _ rfl);have C:(zipO s.heap f o2).get? ((s.heap.push f).push o2).objs.size=some _:=vU _ (vU _ (v7 _ rfl));have G:(zipO s.heap f o2).get? (s.heap.push f).objs.size=some o2:=vU _ (vU _ (vU _ (v7 _ M)));have L:(zipO s.heap f o2).get? s.heap.objs.size=some f:=vU _ (vU _ (vU _ (vU _ (v7 _ N))));show _/\_;rw[m,g,z]at y;rw[p,m]at C;rw[g]at B;rw[p]at G;rw[z];exact⟨⟨_,y,rfl⟩,h _ y C B L G λc o x=>vU _ (vU _ (vU _ (vU _ (vU _ x))))⟩
def kSrc(K:Fg)(x:V)(H:Hp)(R:It->Prop):Prop:=(∃a,x=.ref a/\(∃xs,SqL K H a xs)/\R (Itl K a)) \/ (∃a,x=.ref a/\(∃xs,SqT K H a xs)/\R (Itt K a))
theorem zep{Y:St}{H:Hp}{x:V}{v:aA}{R:It->Prop}(I:Inv X pins Y H s)(r:RelV x v)(h:kSrc X.K x H R) :
  ∃(J:It)(ob:Obj)(st:aE->Nat->aT->Prop),R J/\zf71 s.heap v ob/\ob.isFreed=false/\(∀it,Nx X.prog X.w X.K J it (st it))/\∀it h,h.get? it=some ob->st it 0 h:=by
 rcases h with⟨a,rfl,⟨xs,f⟩,g⟩|⟨a,rfl,⟨xs,f⟩,g⟩
 ·cases r;obtain⟨its,rv,p,hz⟩:=I.list f;refine⟨_,{ cls:=.type "list_iterator",data:=.fields #[.ref a,.int 0 0] },λit i h=>h.IsListIter it a i,g,λprog w A s1 Q E k q=>?_,rfl,λit=>zp91 a it,λit h e=>⟨_,e,rfl,rfl⟩⟩;exact dS (p.isList.at λo e=>k a o e) q
 ·cases r;obtain⟨its,rv,p,hz⟩:=I.tuple f;refine⟨_,{ cls:=.type "tuple_iterator",data:=.fields #[.ref a,.int 0 0] },λit i h=>h.IsTupleIter it a i,g,λprog w A s1 Q E k q=>?_,rfl,λit=>zcd1 a it,λit h e=>⟨_,e,rfl,rfl⟩⟩;obtain⟨o,e,t⟩:=p;exact i9 (show s1.heap.IsTuple a its.toArray from⟨o,k a o e,t⟩) q
theorem zap(n:Nat):ZAp (n+4) (n+2) (n+3) n (n+1):=by
 constructor <;> (refine λ(h:(_:Nat)=_)=>?_;lia)
theorem five(n:Nat)(b:Nat)(h:b=n+4 \/ b=n+2 \/ b=n+3 \/ b=n \/ b=n+1):n<=b:=by lia
theorem zyc1:a8 "zip"=some (.type "zip"):=by decide +kernel
section
variable {X:Cx}{elts:List aX}
def zdj1(K:Fg)(vs:List V)(H:Hp)(R:It->Hp->Prop):Prop:=∃x1 x2,vs=[x1,x2]/\kSrc K x1 H λg=>kSrc K x2 H λf=>R (Itz g f) H
def iZip(K:Fg)(f:TA):TI:=λY H R=>f Y H λvs g=>zdj1 K vs g R
theorem zv31(hK:X.K=K){c:_}{o:Pos}{a b:aX}{L:TA}{p pos:Pos}(hg:Gl X "zip")(hm:X.mg "zip"=none)(ha:PA X [a,b] L)(hs:aS [a,b] X.env=[(false,bA a X.env),(false,bA b X.env)]:=by rfl)(g:aS [b] X.env=[(false,bA b X.env)]:=by rfl) :
  PI X (.Tuple elts c o) (.Call (.Name "zip" p) [a,b] [] pos) (iZip K L):=by
 subst hK;walk_at"13";refine Call_ (zkh I hg hm zyc1 (b7 (thn (ha pos pins s Y H _ I h) λus s1 hz=>?_) (by rw[hs,g]) (by rw[g];rfl)));obtain⟨vs,N,f,u,x⟩:=hz;obtain⟨x1,x2,e,x⟩:=x;subst e;obtain⟨u1,u2,rfl,u,U⟩:=zhb1 u;obtain⟨J1,o1,st1,W,z,J,Z,S⟩:=zep f u x;obtain⟨J2,o2,st2,q,y,G,n2,O⟩:=zep f U W;refine zz01 z y (λh' hz C B g1 g2 kk=>lT hz ?_) J G;have I2:Inv X pins Y N { s1 with heap:=h' }:=f.kept (t':=s1.toks) kk;refine⟨s1.heap.objs.size+4,[s1.heap.objs.size+4,s1.heap.objs.size+2,s1.heap.objs.size+3,s1.heap.objs.size,s1.heap.objs.size+1],_,_,N,rfl,I2,
  zc01 (Z s1.heap.objs.size) (n2 (s1.heap.objs.size+1)) (zap _),⟨hz,C,⟨_,_,B⟩,S _ _ g1,O _ _ g2⟩,λb M=>?_,q⟩
 have m:s1.heap.objs.size<=b:=by
  simp at M;exact five _ _ M
 exact f.fpOk m (f.hok.fresh m)
end
def entM(w:aP)(e:Str×Tok×aA):DictEntry:=⟨PyData.keyHash w.params e.1,.str e.1 e.2.1,e.2.2⟩
structure KD(w:aP)(K:Fg)(d:aE)(kvs:List (Str×V)):Prop where
 ne:(d == cC)=false
 ex:∃(l:List (Str×Tok×aA))(n:Nat),K.lookup d=some { cls:=.type "dict",data:=.dict (l.map (entM w)).toArray n }/\Paired (λ(p:Str×V)(q:Str×Tok×aA)=>p.1=q.1/\RelV p.2 q.2.2) kvs l
theorem zi61{w:aP}{k:Str}:∀{kvs:List (Str×V)}{l:List (Str×Tok×aA)},Paired (λ(p:Str×V)(q:Str×Tok×aA)=>p.1=q.1/\RelV p.2 q.2.2) kvs l ->
  RelO (kvs.lookup k) (((l.map (entM w)).find? λe=>x9 k e.key).map (·.val))
|_,_,.nil=>trivial
|_,_,.cons (a:=p) (b:=q) h r=>by
  obtain⟨x,v⟩:=p;obtain⟨y,t,u⟩:=q;obtain⟨e,rv⟩:=h;cases e;have o:=zi61 (w:=w) (k:=k) r;show RelO (xD k ((x,v) :: _)) (((entM w (x,t,u) :: _).find? λe=>x9 k e.key).map (·.val));rw[wL,yC];by_cases f:k=x
  ·subst f;have m:(k == k)=true:=beq_self_eq_true k;have g:x9 k (entM w (k,t,u)).key=true:=by simp[entM,x9]
   rw[m,g];exact rv
  ·have m:(k == x)=false:=beq_eq_false_iff_ne.mpr f;have g:x9 k (entM w (x,t,u)).key=false:=by
    show(x == k)=false;exact beq_eq_false_iff_ne.mpr λe=>f e.symm
   rw[m,g];exact o
section
variable {X:Cx}{pins:List (aE×Obj)}{Y:St}{H:Hp}{s:aG}{d:aE}{kvs:List (Str×V)}
theorem KD.map(D:KD X.w X.K d kvs)(I:Inv X pins Y H s):∃f:Str->Option aA,s.heap.MapOf (iR X.prog X.w) d f/\∀k,RelO (kvs.lookup k) (f k):=by
 obtain⟨l,n,e,r⟩:=D.ex;refine⟨λk=>((l.map (entM X.w)).find? λe=>x9 k e.key).map (·.val),⟨_,(l.map (entM X.w)).toArray,n,I.kIn d _ e,⟨rfl,rfl,rfl⟩,rfl,λe g=>?_,λk=>?_⟩,λk=>zi61 r⟩
 ·obtain⟨q,_,rfl⟩:=vV.mp (by simpa using g:e∈l.map (entM X.w));exact⟨q.1,by simp[entM,iR,x9],rfl⟩
 ·show findBy (iR X.prog X.w).is _ k=_;unfold findBy;rw[List.find?_toArray];rfl
def rInM(w:aP)(K:Fg):R2:=λx y H Q=>∃d kvs z,x=.str z/\y=.ref d/\KD w K d kvs/\Q (.bl (kvs.lookup z).isSome) H
def zrx(w:aP)(K:Fg):R2:=λx y H Q=>∃d kvs z,x=.str z/\y=.ref d/\KD w K d kvs/\Q (.bl (!(kvs.lookup z).isSome)) H
def rIxM(w:aP)(K:Fg):R2:=λx y H Q=>∃d kvs z v,x=.ref d/\y=.str z/\KD w K d kvs/\kvs.lookup z=some v/\Q v H
theorem zwd{a:Option V}{b:Option aA}(r:RelO a b):b.isSome=a.isSome:=by
 cases a <;> cases b <;> first|rfl|exact False.elim r
theorem zee1(hw:X.w=w)(p:X.K=K):OpR X (a9 .In) (rInM w K):=by
 subst hw p;walk_at"28";obtain⟨d,kvs,z,rfl,rfl,D,q⟩:=h;obtain⟨t,rfl⟩:=o;cases g;obtain⟨f,m,r⟩:=D.map I;refine wpAny_in_of (k:=z) (gP X.prog X.w z t) D.ne m ?_;rw[zwd (r z)];exact⟨.bl _,H,I.tok _,rfl,q⟩
theorem zxu(hw:X.w=w)(p:X.K=K):OpR X (a9 .NotIn) (zrx w K):=by
 subst hw p;walk_at"28";obtain⟨d,kvs,z,rfl,rfl,D,q⟩:=h;obtain⟨t,rfl⟩:=o;cases g;obtain⟨f,m,r⟩:=D.map I;refine mS (k:=z) (gP X.prog X.w z t) D.ne m ?_;rw[zwd (r z)];exact⟨.bl _,H,I.tok _,rfl,q⟩
theorem ix_M(hw:X.w=w)(J:X.K=K):IxR X (rIxM w K):=by
 subst hw J;intro value slice pins s Y H x y v u Q I p o h G;obtain⟨d,kvs,z,C,rfl,rfl,D,e,q⟩:=h;cases p;obtain⟨t,rfl⟩:=o;obtain⟨f,m,r⟩:=D.map I;have g:=r z;rw[e]at g;obtain⟨u,L,B⟩:=g.some_of;exact iG m.typeIs ğh.lookup (lU (k:=z) (gP X.prog X.w z t) m L ⟨C,H,I.tok _,B,q⟩) G
end
def Walks(J:It)(H:Hp)(n:Nat)(f:Nat->V->Hp->Prop):Prop:=∀H',Same H H'->(∀i,i < n->J.go i H')/\J.stop n H'/\∀i x H2,i < n->J.yld i H' x H2->Same H' H2/\f i x H2
def zxh1:R2:=λx y H Q=>zdg1 x y H Q \/ zih1 x y H Q
def rInW(w:aP)(K:Fg):R2:=λx y H Q=>rInU K x y H Q \/ rInM w K x y H Q
def zfx(w:aP)(K:Fg):R2:=λx y H Q=>zky K x y H Q \/ zrx w K x y H Q
def rIxW(w:aP)(K:Fg):R2:=λx y H Q=>rIx K x y H Q \/ rIxM w K x y H Q
def rSlW(K:Fg):V->Option Int->Option Int->Hp->VK->Prop:=λx lo hi H Q=>rSlU K x lo hi H Q \/ rSlS x lo hi H Q
def zwd1(K:Fg)(x:V)(H:Hp)(R:It->Hp->Prop):Prop:=zyi1 K x H R \/ ∃z:Str,x=.str z/\z.cps.all (· < 128)=true/\R (Its z) H
def iW(K:Fg)(tl:TE):TI:=λY H R=>tl Y H λx f=>zwd1 K x f R
section
variable {X:Cx}{w:aP}{K:Fg}{tg:aX}
theorem zv61:OpR X (bR .Mult) zxh1:=ze91.or zva1
theorem zrc1(hw:X.w=w)(f:X.K=K):OpR X (a9 .In) (rInW w K):=(zfd1 f).or (zee1 hw f)
theorem zgw(hw:X.w=w)(f:X.K=K):OpR X (a9 .NotIn) (zfx w K):=(zqv f).or (zxu hw f)
theorem ix_W(hw:X.w=w)(f:X.K=K):IxR X (rIxW w K):=(ix_U f).or (ix_M hw f)
theorem sl_W(f:X.K=K):SlR X (rSlW K):=(sl_U f).or zf81
theorem pi_W(h:X.K=K){l:aX}{tl:TE}(hl:PE X l tl):PI X tg l (iW K tl):=by
 subst h;walk_at"13";refine thn (hl pins s Y H _ I h) λv s1 hz=>?_;obtain⟨x,y,f,m,B⟩:=hz;rcases B with(⟨a,e,⟨xs,u⟩,q⟩|⟨a,e,⟨xs,u⟩,q⟩)|⟨z,rfl,C,q⟩
 ·subst e;cases m;obtain⟨its,rv,p,hz⟩:=f.list u;refine dS p.isList ?_;refine⟨s1.heap.objs.size,[s1.heap.objs.size],_,_,y,rfl,f.kept (t':=s1.toks) λb o e=>vU _ e,zsw a _,⟨_,v7 _ rfl,rfl,rfl⟩,λb g=>?_,q⟩;have e:b=s1.heap.objs.size:=by simpa using g
  subst e;exact f.fpOk (u7 _) (f.hok.fresh (u7 _))
 ·subst e;cases m;obtain⟨its,rv,p,hz⟩:=f.tuple u;refine i9 (show s1.heap.IsTuple a its.toArray from p) ?_;refine⟨s1.heap.objs.size,[s1.heap.objs.size],_,_,y,rfl,f.kept (t':=s1.toks) λb o e=>vU _ e,zyr a _,⟨_,v7 _ rfl,rfl,rfl⟩,λb g=>?_,q⟩;have e:b=s1.heap.objs.size:=by simpa using g
  subst e;exact f.fpOk (u7 _) (f.hok.fresh (u7 _))
 ·obtain⟨t,rfl⟩:=m;refine wpAny_pyIter_ascii C ?_;refine⟨s1.heap.objs.size,[s1.heap.objs.size],_,_,y,rfl,f.kept (t':=s1.toks) λb o e=>vU _ e,zo41 z t _,⟨_,v7 _ rfl,rfl,rfl⟩,λb g=>?_,q⟩;have e:b=s1.heap.objs.size:=by simpa using g
  subst e;exact f.fpOk (u7 _) (f.hok.fresh (u7 _))
def ztg1(K:Fg):List V->Hp->VK->Prop:=λxs H Q=>∃p ys,xs=[.ref p]/\(SqL K H p ys \/ SqT K H p ys)/\∀l,H l=none->Q (.ref l) (upd H l (.lst ys))
theorem zy3(h:X.K=K):CallR X (.type "list") (ztg1 K):=h ▸ zdk
end
section
variable {K:Fg}{w:aP}{H:Hp}{Q:VK}{a b:aE}{xs ys:List V}{i:Int}{v:V}{z:Str}{kvs:List (Str×V)}{d:aE}
theorem zii1(h:SqT K H a xs)(e:atI xs i=some v)(q:Q v H):rIxW w K (.ref a) (.int i) H Q:=.inl (zhi1 h e q)
end
theorem sIx_nat{d:Nat}(h:a<=n):HT.sIx n d (some (a:Int))=a:=by
 unfold HT.sIx;simp;rw[aF (by lia)];lia
theorem sIx_none{d:Nat}:HT.sIx n d none=d:=rfl
theorem zan(h:a<=xs.length):cutV xs (some (a:Int)) none=xs.drop a:=by
 unfold cutV;rw[sIx_nat h,sIx_none];exact yD (by simp)
theorem zt11{b:Nat}(f:b<=xs.length):cutV xs none (some (b:Int))=xs.take b:=by
 unfold cutV;rw[sIx_none,sIx_nat f];simp
theorem zb7{pos:Pos}(o:X.K=K){k:Nat}{t:TGs}(m:X.calm=true)(h:PGs X es t)
  (g:(dZ es X.env).length=n:=by rfl) (f:(dZ es X.env).findIdx? (·.1)=none:=by rfl):PG X (.Tuple es k pos) (gTup K n t):=by
 subst o;exact ztc1 m h g f
def kBM(K:Fg)(T:String)(r:V->List V->Hp->VK->Prop)(t:TA)(Y:St)(x:V)(H:Hp)(Q:VK):Prop:=tyV K T x H/\t Y H λxs H2=>r x xs H2 Q
def tBMU(K:Fg)(T:String)(r:V->List V->Hp->VK->Prop)(f:TE)(t:TA):TE:=λY H Q=>f Y H λx g=>kBM K T r t Y x g Q
theorem zy8(L:X.K=K){o e:aX}{z:TE}{t:TA}{name:Str}{m f:Pos}{T id:String}{r:V->List V->Hp->VK->Prop}(B:iK T)(slot:Slot T name id)(y:nK (.builtin id)=pure (.type "method_descriptor"))(I:MtR X id r)(G:PE X o z)(J:PA X (e :: es) t)
  (q:dM o name X.env (bA o X.env)=bA o X.env:=by rfl)
  (u:((b9 f (aS (e :: es) X.env)).all (λx=>!x.1) && (d6 f (dG [] X.env)).all (λx=>x.1.isSome)
   && decide ((e :: es).length+([]:List h7).length+(if([]:List h7).isEmpty then 0 else 1) < 30))=true:=by rfl)
  (p:(m.endLine == f.line)=true:=by rfl) (C:aS (e :: es) X.env=(false,bA e X.env) :: aS es X.env:=by rfl) (g:(b9 f (aS es X.env)).any (·.1)=false:=by rfl) :
  PE X (.Call (.Attribute o name m) (e :: es) [] f) (tBMU K T r z t):=by
 subst L;exact zki1 B slot y I G J q u p C g
def zr51(_ j:Int):Prop:=0 < j/\j < 2 ^ 200
theorem zho{j:Int}(g:0 < j)(f:j < 2 ^ 200):j.natAbs.log2 < 9000:=by
 have h:j.natAbs.log2 < 200:=(Nat.log2_lt (by lia)).mpr (by lia);lia
theorem zv1:OpR X (bR .FloorDiv) (rI zr51 λi j=>.int (i / j)):=opI λi j _ _ _ _ _ f q=>by
 have g:(0:Int) < j:=f.1;exact floordiv_int (by lia) (by rw[uaZ i (by lia)];exact q) (.inl (PyProof.noPylong_of_log2 (zho f.1 f.2)))
def zwp{α:Type}(xs:List α)(lo hi st:Option Int):List α:=(gF (bQ lo hi st xs.length).1 (bQ lo hi st xs.length).2.1 (bQ lo hi st xs.length).2.2).filterMap (xs[·]?)
theorem zrd{xs:List V}{vs:List aA}(h:Vals xs vs):∀f:List Nat,Vals (f.filterMap (xs[·]?)) (f.filterMap (vs[·]?))
|[]=>.nil
|j :: f=>by
  have m:=zrd h f;cases g:xs[j]? with
 |some n =>
   obtain⟨u,p,r⟩:=h.get g;simp only[xK,g,p];exact .cons r m
 |none =>
   have o:=h.none_of g;simp only[xK,g,o];exact m
theorem zzv{vs:List aA}(h:Vals xs vs)(lo hi st:Option Int):Vals (zwp xs lo hi st) (gZ vs.toArray lo hi st).toList:=by
 have e:(gZ vs.toArray lo hi st).toList=(gF (bQ lo hi st xs.length).1 (bQ lo hi st xs.length).2.1 (bQ lo hi st xs.length).2.2).filterMap (vs[·]?):=by
  simp[gZ,h.length]
 rw[e];exact zrd h _
def rSl3(K:Fg):V->Option Int->Option Int->Option Int->Hp->VK->Prop:=λx lo hi st H Q=>∃a xs,x=.ref a/\SqL K H a xs/\st≠some 0/\∀p,H p=none->Q (.ref p) (upd H p (.lst (zwp xs lo hi st)))
def tSl3(K:Fg)(g:TE)(tl f tk:TO):TE:=λY H Q=>g Y H λx p=>tl Y p λl H2=>f Y H2 λu o=>tk Y o λst m=>rSl3 K x l u st m Q
theorem zgu(hK:X.K=K){e:aX}{p:TE}{lo hi:Option aX}{st:aX}{tl m tk:TO}{W:Pos}(he:PE X e p)(hl:PO X lo tl)(hu:PO X hi m)(hs:PO X (some st) tk):PE X (.Subscript e (.Slice lo hi (some st) W) pos) (tSl3 K p tl m tk):=by
 subst hK;walk_at"1";refine mH (thn (he pins s Y H _ I h) λv s1 hz=>?_);obtain⟨x,H1,I1,J,O⟩:=hz;refine wpAny_Slice (thn (hl pins s1 Y H1 _ I1 O) λC s2 ⟨l,H2,I2,pl,N⟩=>thn (hu pins s2 Y H2 _ I2 N) λB s3 ⟨u,H3,I3,S,M⟩=>thn (hs pins s3 Y H3 _ I3 M) λG f hz=>?_);obtain⟨k,H4,I4,U,L⟩:=hz;obtain⟨a,xs,rfl,Z,h0,q⟩:=L;cases J;have g:Inv X pins Y H4 { f with heap:=f.heap.push { cls:=.type "slice",data:=.fields #[C,B,G] } }:=I4.kept (t':=f.toks) λb ob q=>vU _ q;obtain⟨its,r,y,hz⟩:=g.list Z;have z:=r.length;refine iG (T := "list") (ops:=[.ref a,.ref f.heap.objs.size]) y.isList.typeIs slot_list_getitem.lookup (gR y.isList (Heap.IsSliceOf.new ..) pl S U h0 ?_ (by rw[v8] <;> lia)) (by with_unfolding_all rfl);have rv:=zzv r l u k;refine⟨.ref _,_,g.laid (t':=f.toks) (o:=.lst (zwp xs l u k)) (λb ob q=>vU _ q) (u7 _) ?_,rfl,q _ (g.hok.fresh (u7 _))⟩;refine⟨?_,_,0,rv,?_⟩
 ·have:=slicePick_size_le its.toArray l u k;have e:=rv.length;simp only[wY,v8]at this e;lia
 ·rw[Array.toArray_toList];exact v7 _ rfl
def rSum(K:Fg):List V->Hp->VK->Prop:=λvs H Q=>∃(a:aE)(ns:List Int),vs=[.ref a]/\SqL K H a (ns.map V.int)/\Q (.int ns.sum) H
theorem zd2(h:X.K=K)(x:X.calm=true):CallR X (.builtin "sum") (rSum K):=by
 subst h;walk_at"3";obtain⟨a,ns,rfl,m,q⟩:=h;obtain⟨u,rfl,g⟩:=zwl r;cases g;obtain⟨its,rv,p,hz⟩:=I.list m;have hi:dL its ns:=zx6 rv;obtain⟨ys,f⟩:=hi.allInts.items;have hl:s.heap.IsList a (fS ys):=f ▸ p.isList;refine sum_intListG (I.ok.hd x) hl λh' tk t' o=>?_;have z:ns=ys.toList.map (·.1):=by
  rw[<- iQ,<- f];exact(show numsOf its.toArray.toList=ns from hi.numsOf).symm
 have y:preSum (l4 ys) ys.size=ns.sum:=by
  rw[preSum_eq,yD (by simp),z]
 rw[y];exact⟨.int ns.sum,H,I.kept o,⟨_,rfl⟩,q⟩
def zmx:List V->Hp->VK->Prop:=λvs H Q=>∃i j,vs=[.int i,.int j]/\0 < j/\j < 2 ^ 200/\∀p,H p=none->Q (.ref p) (upd H p (.tup [.int (i / j),.int (i % j)]))
theorem zri:CallR X (.builtin "divmod") zmx:=by
 walk_at"3";obtain⟨i,j,rfl,g,f,q⟩:=h;obtain⟨u,m,rfl,⟨t,rfl⟩,⟨t',rfl⟩⟩:=zhb1 r;refine divmod_int (by lia) ?_ (.inl (PyProof.noPylong_of_log2 (zho g f)));rw[uaZ i (by lia),uaS i (by lia)];refine⟨.ref s.heap.objs.size,_,I.laid (t':=s.toks+1+1) (o:=.tup [.int (i / j),.int (i % j)]) (λb ob q=>vU _ q) (u7 _) ?_,rfl,q _ (I.hok.fresh (u7 _))⟩;exact⟨by show 2<=sizeLine;rw[aQ];decide,[.int (i / j) s.toks,.int (i % j) (s.toks+1)],.cons ⟨_,rfl⟩ (.cons ⟨_,rfl⟩ .nil),IsTup.new _ _⟩
theorem zrb:a8 "sum"=some (.builtin "sum"):=by decide +kernel
theorem zav:a8 "divmod"=some (.builtin "divmod"):=by decide +kernel
theorem zrk:a8 "sorted"=some (.builtin "sorted"):=by decide +kernel
def Fit(n:Nat)(d:aY):Prop:=d.canLay0=true/\d.depth<=n
theorem zw8:∀{ds:List aY},(∀d∈ds,d.canLay0=true)->uaD ds=true
|[],_=>rfl
|d :: ds,h=>by
  show(d.canLay0 && uaD ds)=true;rw[h d (by simp),zw8 λe f=>h e (wC _ f)];rfl
theorem zx9{n:Nat}:∀{ds:List aY},(∀d∈ds,d.depth<=n)->uaE ds<=n
|[],_=>wU _
|d :: ds,h=>by
  show max d.depth (uaE ds)<=n;have:=h d (by simp);have:=zx9 λe f=>h e (wC d f);lia
theorem Fit.lst{n:Nat}{ds:List aY}(h:∀d∈ds,Fit n d):Fit (n+1) (.list ds):=⟨by show uaD ds=true;exact zw8 λd hd=>(h d hd).1,by show uaE ds+1<=n+1;have:=zx9 λd hd=>(h d hd).2;lia⟩
theorem Fit.int{n:Nat}(i:Int):Fit n (.int i):=⟨rfl,wU _⟩
theorem Fit.shaped{n:Nat}{d:aY}(h:Fit n d)(f:n<=64):bD d=true:=by
 unfold bD;rw[h.1,bW (wX h.2 f)];rfl
theorem Fit.eqv{d:aY}(h:Fit n d):y6 d d=true:=SeqAt.eqv_refl d h.1
def zdb1(K:Fg):Sp:=λvs H Q _=>∃(a:aE)(ns:List Int),vs=[.ref a]/\SqL K H a (ns.map V.int)/\ns.length<=63/\∀H',Q (.bl true) H'
theorem law_walk{k:Nat}{l:g9}{q:aN}{g:List Str}{J:(Str->Option aA)->aT->Prop}{y:aP->aT->Prop}{d:DefRec}{K:nO->Fg}(C:Room k fP)(B:l.most=some 63)(m:d.params.defaults=[])
  (G:∀(w:aP)(h:aT),y w h->(K w.params).In h)
  (F:∀(w:aP)(mg:Str->Option aA)(p:aE)(h:aT),(K w.params).In h->h.Ns aR mg->mg d.name=some (.ref p) ->
   ∃o:cS,(∀(s:aG)(u:aA),fR s o ⟨[u],[]⟩ [("script",u)])/\∀base:aT,(K w.params).In base->base.Ns aR mg->FnOk l.prog w (K w.params) mg base CX0 k p o ["script"] (zdb1 (K w.params))) :
  nD q g J y l.row.toRowW d [] (λf vs=>mI f vs) :=
 _2.walk_of (n:=63) (k:=k) (x := "script") (CX:=λ_=>CX0) (sp:=λw=>zdb1 (K w.params)) B (by decide) m C G F (λ_ _ a ns hl _ I=>⟨a,ns,rfl,I,hl,λ_=>rfl⟩) λ_ _ _ _ _ z=>z
end _3
namespace _2
open PySem PySem.Spec PyProof.Rows
variable {H':Hp}{X:Cx}{a b:aE}{h':aT}{kvs:List (List Key×V)}{o:Option V}{pos:Pos}{trs:List (TE×TE)}{u:aA}{w:aP}{xs:List (List Key×aE×aA)}{y:V}
section
variable {κ:Type}[DecidableEq κ]
def valV(kvs:List (κ×V))(k:κ):Option V:=(kvs.find? λf=>decide (f.1=k)).map (·.2)
def putK(kvs:List (κ×V))(k:κ)(v:V):List (κ×V) :=
 if(kvs.any λf=>decide (f.1=k))=true then kvs.map (λf=>if f.1=k then(f.1,v)else f)else kvs++[(k,v)]
theorem zhi{p:κ×V}{r:List (κ×V)}{k:κ}(e:p.1=k):valV (p :: r) k=some p.2:=by simp[valV,yC,e]
theorem zmj{p:κ×V}{r:List (κ×V)}{k:κ}(e:¬p.1=k):valV (p :: r) k=valV r k:=by simp[valV,yC,e]
theorem zhr(k:κ):∀kvs:List (κ×V),(kvs.any λf=>decide (f.1=k))=(valV kvs k).isSome
|[]=>rfl
|p :: r=>by
  rw[xY];by_cases e:p.1=k
  ·simp only[zhi e,bW e,Bool.true_or,uaX]
  ·rw[zmj e,bB e,Bool.false_or];exact zhr k r
theorem zo3(kvs:List (κ×V))(k:κ)(v:V):(putK kvs k v).length<=kvs.length+1:=by
 unfold putK;split
 ·rw[u5];lia
 ·rw[vW,xG,List.length_nil];lia
theorem RelO.isSome_eq{u:Option aA}(r:RelO o u):o.isSome=u.isSome:=by
 cases o with
|none=>cases u with
 |none=>rfl
 |some _=>exact(show False from r).elim
|some _=>cases u with
 |none=>exact(show False from r).elim
 |some _=>rfl
theorem KV.val{kvs:List (κ×V)}{vs:List (κ×aA)}(r:KV kvs vs)(k:κ):RelO (valV kvs k) (gG vs k):=by
 unfold KV at r
 induction r with
|nil=>exact True.intro
|@cons p q ps qs h t m =>
  obtain⟨g,x⟩:=h;by_cases e:p.1=k
  ·have f:q.1=k:=g.symm.trans e;have b:gG (q :: qs) k=some q.2:=by simp[gG,yC,f]
   rw[zhi e,b];exact x
  ·have f:¬q.1=k:=λz=>e (g.trans z);have b:gG (q :: qs) k=gG qs k:=by simp[gG,yC,f]
   rw[zmj e,b];exact m
theorem KV.any{kvs:List (κ×V)}{vs:List (κ×aA)}(r:KV kvs vs)(k:κ):(kvs.any λf=>decide (f.1=k))=vs.any λf=>decide (f.1=k):=by
 unfold KV at r
 induction r with
|nil=>rfl
|cons h t g=>rw[xY,xY,g,h.1]
theorem KV.repl{kvs:List (κ×V)}{vs:List (κ×aA)}(r:KV kvs vs)(k:κ)(m:RelV y u) :
  KV (kvs.map λf=>if f.1=k then(f.1,y)else f) (vs.map λf=>if f.1=k then(f.1,u)else f):=by
 unfold KV at r ⊢
 induction r with
|nil=>exact .nil
|@cons p q ps qs h t x =>
  rw[v9,v9];refine .cons ?_ x;obtain⟨g,B⟩:=h;by_cases e:p.1=k
  ·rw[aH e,aH (g.symm.trans e)];exact⟨g,m⟩
  ·rw[aF e,aF (λz=>e (g.trans z))];exact⟨g,B⟩
theorem KV.put{kvs:List (κ×V)}{vs:List (κ×aA)}(r:KV kvs vs)(k:κ)(f:RelV y u):KV (putK kvs k y) (stored vs k u):=by
 unfold putK stored;rw[r.any k];by_cases e:(vs.any λg=>decide (g.1=k))=true
 ·rw[aH e,aH e];exact r.repl k f
 ·rw[aF e,aF e];exact nR r ⟨rfl,f⟩
theorem KV.length{kvs:List (κ×V)}{vs:List (κ×aA)}(r:KV kvs vs):kvs.length=vs.length:=eR r
end
theorem ztz{P:aN}{k:Key}(r:RelV (kV k) u):(zr2 P w).is k u=true:=by
 cases k with
|inl i=>obtain⟨t,e⟩:=(show ∃t,u=yF i t from r);subst e;exact zbm P w i t
|inr x=>obtain⟨t,e⟩:=(show ∃t,u=zG x t from r);subst e;exact zul P w x t
theorem zfl{P:aN}{w:aP}:∀{f:List Key}{us:List aA},Vals (f.map kV) us->ItemsAre (zr2 P w) f us
|[],_,r=>by rw[yS]at r;cases r;exact .nil
|k :: f,_,r=>by
  rw[v9]at r;cases r with
 |cons h t=>exact .cons (ztz h) (zfl t)
abbrev KT(H:Hp):List (List Key×V)->List (List Key×aE×aA)->Prop:=Paired λp q=>p.1=q.1/\H q.2.1=some (.tup (p.1.map kV))/\RelV p.2 q.2.2
theorem KT.val{H:Hp}(r:KT H kvs xs)(k:List Key):RelO (valV kvs k) ((gW xs k).map (·.2)):=by
 induction r with
|nil=>exact True.intro
|@cons p q ps qs h t m =>
  obtain⟨g,_,x⟩:=h;by_cases e:p.1=k
  ·have f:q.1=k:=g.symm.trans e;have b:gW (q :: qs) k=some q.2:=by simp[gW,yC,f]
   rw[zhi e,b];exact x
  ·have f:¬q.1=k:=λz=>e (g.trans z);have b:gW (q :: qs) k=gW qs k:=by simp[gW,yC,f]
   rw[zmj e,b];exact m
theorem KT.repl{H:Hp}(r:KT H kvs xs)(k:List Key)(x:RelV y u) :
  KT H (kvs.map λg=>if g.1=k then(g.1,y)else g) (xs.map (putAt k u)):=by
 induction r with
|nil=>exact .nil
|@cons p q ps qs h t B =>
  rw[v9,v9];refine .cons ?_ B;obtain⟨f,m,C⟩:=h;unfold putAt;by_cases e:p.1=k
  ·rw[aH e,aH (f.symm.trans e)];exact⟨f,m,x⟩
  ·rw[aF e,aF (λz=>e (f.trans z))];exact⟨f,m,C⟩
theorem KT.put{H:Hp}(r:KT H kvs xs)(k:List Key)(m:H b=some (.tup (k.map kV)))(f:RelV y u) :
  KT H (putK kvs k y) (storedH xs k b u):=by
 have e:(kvs.any λg=>decide (g.1=k))=(gW xs k).isSome:=by
  rw[zhr,(r.val k).isSome_eq,zO]
 unfold putK storedH;rw[e];by_cases q:(gW xs k).isSome=true
 ·rw[aH q,aH q];exact r.repl k f
 ·rw[aF q,aF q];exact nR r ⟨rfl,m,f⟩
theorem KT.keeps{H:Hp}(r:KT H kvs xs)(f:∀b ys,H b=some (.tup ys)->H' b=some (.tup ys)):KT H' kvs xs :=
 Paired.mapP r λ_ _ z=>⟨z.1,f _ _ z.2.1,z.2.2⟩
section
variable {P:aN}{w:aP}{H:Hp}{h:aT}{a:aE}
theorem zwg1{u:HO}(ok:HOk P w H h)(e:Rd H a u):ObjOk P w H h a u:=e.ok ok
theorem zl91{kvs:List (Key×V)}(ok:HOk P w H h)(e:Rd H a (.dK kvs)):kvs.length<=sizeLine/\(a == cC)=false/\∃vs,KV kvs vs/\h.DictOf (zr2 P w) a vs :=
 show ObjOk P w H h a (.dK kvs)from zwg1 ok e
theorem zcb1{kvs:List (Key×V)}(ok:HOk P w H h)(e:H a=some (.dK kvs)):kvs.length<=sizeLine/\(a == cC)=false/\∃vs,KV kvs vs/\h.DictOf (zr2 P w) a vs:=zl91 ok (.inl e)
theorem ztl{f:List Key}(ok:HOk P w H h)(e:H a=some (.tup (f.map kV))):(gX (zr2 P w)).is h f a:=by
 obtain⟨_,its,r,o,p,m,n,g⟩:=(show ObjOk P w H h a (.tup (f.map kV))from ok a _ e)
 exact⟨o,its.toArray,n,p,m,g,by simpa using zfl r⟩
theorem zj81(ok:HOk P w H h)(e:Rd H a (.dT kvs)):kvs.length<=sizeLine/\(a == cC)=false /\
  ∃xs,KT H kvs xs/\h.DictOfH (gX (zr2 P w)) a xs:=by
 obtain⟨z,y,xs,r,o,es,ep,L,J,I,G,C⟩:=(show ObjOk P w H h a (.dT kvs)from zwg1 ok e)
 refine⟨z,y,xs,r,o,es,ep,L,J,I,G,λx f=>?_,C⟩;have all:∀{l:List (List Key×V)}{m:List (List Key×aE×aA)},KT H l m->∀x∈m,(gX (zr2 P w)).is h x.1 x.2.1:=by
  intro l m q
  induction q with
 |nil=>intro x f;exact nomatch f
 |@cons p q ps qs g t B =>
   intro x f;rcases vT.mp f with e|f
   ·subst e;exact ztl ok (by rw[<- g.1];exact g.2.1)
   ·exact B x f
 exact all r x f
theorem zyh1(ok:HOk P w H h)(e:H a=some (.dT kvs)):kvs.length<=sizeLine/\(a == cC)=false /\
  ∃xs,KT H kvs xs/\h.DictOfH (gX (zr2 P w)) a xs:=zj81 ok (.inl e)
end
def DGet(H:Hp)(a:aE)(y:V)(r:Option V):Prop :=
 (∃kvs k,Rd H a (.dK kvs)/\y=kV k/\r=valV kvs k) \/ ∃kvs k b,Rd H a (.dT kvs)/\y=.ref b/\H b=some (.tup (k.map kV))/\r=valV kvs k
def DPut(H:Hp)(a:aE)(y v:V)(H':Hp):Prop :=
 (∃kvs k,H a=some (.dK kvs)/\y=kV k/\kvs.length < sizeLine/\H'=upd H a (.dK (putK kvs k v))) \/
 ∃kvs k b,H a=some (.dT kvs)/\y=.ref b/\H b=some (.tup (k.map kV))/\kvs.length < sizeLine/\H'=upd H a (.dT (putK kvs k v))
theorem DGet.k{H:Hp}{a:aE}{kvs:List (Key×V)}{k:Key}(e:H a=some (.dK kvs)):DGet H a (kV k) (valV kvs k):=.inl ⟨kvs,k,.inl e,rfl,rfl⟩
theorem DGet.t{H:Hp}{k:List Key}(e:H a=some (.dT kvs))(f:H b=some (.tup (k.map kV))):DGet H a (.ref b) (valV kvs k):=.inr ⟨kvs,k,b,.inl e,rfl,f,rfl⟩
theorem DPut.k{H:Hp}{a:aE}{kvs:List (Key×V)}{k:Key}{v:V}(e:H a=some (.dK kvs))(hl:kvs.length < sizeLine):DPut H a (kV k) v (upd H a (.dK (putK kvs k v))):=.inl ⟨kvs,k,e,rfl,hl,rfl⟩
theorem DPut.t{H:Hp}{k:List Key}{v:V}(e:H a=some (.dT kvs))(f:H b=some (.tup (k.map kV)))(hl:kvs.length < sizeLine) :
  DPut H a (.ref b) v (upd H a (.dT (putK kvs k v))):=.inr ⟨kvs,k,b,e,rfl,f,hl,rfl⟩
section
variable {X:Cx}{pins:List (aE×Obj)}{Y:St}{H:Hp}{s:aG}{a:aE}{y v:V}{u r:aA}{o:Option V}{A:a7}{E:aA->aG->Prop}
theorem Inv.big(I:Inv X pins Y H s):cC < s.heap.objs.size:=by
 have h:aR < s.heap.objs.size:=(I.mod.glob.keeps I.bk).lt;exact Nat.lt_trans (by decide) h
theorem zbl{Q:aA->aG->Prop}(J:A.units+1 < cM)(I:Inv X pins Y H s)(g:DGet H a y (some v))(G:RelV y u)(h:∀q s',Inv X pins Y H s'->RelV v q->Q q s') :
  aJ (aM X.prog X.w) A (fO (.ref a) u) Q E s:=by
 rcases g with⟨kvs,k,e,x,l⟩|⟨kvs,k,b,e,x,M,l⟩
 ·subst x;obtain⟨z,hd,vs,m,B⟩:=zl91 I.hok e;obtain⟨q,hw,f⟩:=RelO.some_of (v:=v) (o:=gG vs k) (by rw[l];exact m.val k);exact lU (ztz G) B.mapOf hw (h q _ (I.tok _) f)
 ·subst x;cases (show u=v3 b from G);obtain⟨z,hd,xs,m,B⟩:=zj81 I.hok e;obtain⟨q,hw,f⟩:=RelO.some_of (v:=v) (o:=(gW xs k).map (·.2)) (by rw[l];exact m.val k);obtain⟨p,L,C⟩:=xA.mp hw;refine wpAny_getItem_heap (dQ J) (ztl I.hok M) B L ?_;rw[C];exact h q _ (I.tok _) f
theorem d_in{Q:aA->aG->Prop}(B:A.units+1 < cM)(I:Inv X pins Y H s)(g:DGet H a y o)(x:RelV y u)(h:∀s',Inv X pins Y H s'->Q (.bool o.isSome) s') :
  aJ (aM X.prog X.w) A (a9 .In u (.ref a)) Q E s:=by
 rcases g with⟨kvs,k,e,m,l⟩|⟨kvs,k,b,e,m,C,l⟩
 ·subst m;obtain⟨z,hd,vs,f,p⟩:=zl91 I.hok e;refine wpAny_in_of (ztz x) hd p.mapOf ?_;rw[<- (f.val k).isSome_eq,<- l];exact h _ (I.tok _)
 ·subst m;cases (show u=v3 b from x);obtain⟨z,hd,xs,f,p⟩:=zj81 I.hok e;refine wpAny_in_heap (dQ B) (ztl I.hok C) hd p ?_;have q:=(f.val k).isSome_eq;rw[zO]at q;rw[<- q,<- l];exact h _ (I.tok _)
theorem zv51{Q:aA->aG->Prop}(B:A.units+1 < cM)(I:Inv X pins Y H s)(g:DGet H a y o)(x:RelV y u)(h:∀s',Inv X pins Y H s'->Q (.bool (!o.isSome)) s') :
  aJ (aM X.prog X.w) A (a9 .NotIn u (.ref a)) Q E s:=by
 rcases g with⟨kvs,k,e,m,l⟩|⟨kvs,k,b,e,m,C,l⟩
 ·subst m;obtain⟨z,hd,vs,f,p⟩:=zl91 I.hok e;refine mS (ztz x) hd p.mapOf ?_;rw[<- (f.val k).isSome_eq,<- l];exact h _ (I.tok _)
 ·subst m;cases (show u=v3 b from x);obtain⟨z,hd,xs,f,p⟩:=zj81 I.hok e;refine wpAny_notIn_heap (dQ B) (ztl I.hok C) hd p ?_;have q:=(f.val k).isSome_eq;rw[zO]at q;rw[<- q,<- l];exact h _ (I.tok _)
theorem zuf{t':Nat}{ob:HO}(I:Inv X pins Y H s)(f:Mut (H a))(g:bF a s.heap h')(m:∃q,h'.get? a=some q)(new:ObjOk X.prog X.w (upd H a ob) h' a ob) :
  Inv X pins Y (upd H a ob) { s with heap:=h',toks:=t' } :=
 I.write (x:=a) (e:=a) f (.inl rfl) (λb q p z=>(g.2 b p).trans z) m new
theorem zj21{P:aN}{kvs:List (Key×V)}{vs:List (Key×aA)}(z:kvs.length<=sizeLine)(hd:(a == cC)=false)(f:KV kvs vs)(g:h'.DictOf (zr2 P w) a vs) :
  ObjOk P w H' h' a (.dK kvs):=⟨z,hd,vs,f,g⟩
theorem zlu{Q:Unit->aG->Prop}(N:A.units+1 < cM)(I:Inv X pins Y H s)(g:DPut H a y v H')(J:RelV y u)(rv:RelV v r)(h:∀s',Inv X pins Y H' s'->Q () s') :
  aJ (aM X.prog X.w) A (mR (.ref a) u r) Q E s:=by
 rcases g with⟨kvs,k,e,B,l,C⟩|⟨kvs,k,b,e,B,M,l,C⟩
 ·subst B C;obtain⟨z,hd,vs,f,G⟩:=zcb1 I.hok e;have hz:vs.length<=sizeLine:=by rw[<- f.length];exact z
  have hl:(putK kvs k v).length<=sizeLine:=by have:=zo3 kvs k v;lia
  refine wpAny_setItem_pairs (hsz:=hz) (ztz J) G λh' m x=>h _ ?_;have O:∃q,h'.get? a=some q:=let ⟨q,_,_,p,_⟩:=m;⟨q,p⟩;exact zuf I (by rw[e];exact True.intro) x O (zj21 hl hd (f.put k rv) m)
 ·subst B C;cases (show u=v3 b from J);obtain⟨z,hd,xs,f,G⟩:=zyh1 I.hok e;have hz:xs.length<=sizeLine:=by rw[<- eR f];exact z
  have hl:(putK kvs k v).length<=sizeLine:=by have:=zo3 kvs k v;lia
  refine wpAny_setItem_heap (hsz:=hz) (dQ N) (ztl I.hok M) G λh' m x=>h _ ?_;obtain⟨q,es,ep,p,Z,W,U,_,S⟩:=m;refine zuf I (by rw[e];exact True.intro) x ⟨q,p⟩ ⟨hl,hd,_,(f.put k M rv).keeps λc ys L=>?_,q,es,ep,p,Z,W,U,S⟩;rw[zd1 (zci1 L e (λz=>nomatch z))];exact L
end
theorem znm{pins:List (aE×Obj)}{Y:St}{H:Hp}{s:aG}(I:Inv X pins Y H s)(g:DGet H a y o):s.TypeIs (.ref a) "dict":=by
 rcases g with⟨kvs,k,e,_,_⟩|⟨kvs,k,b,e,_,_,_⟩
 ·obtain⟨_,_,vs,_,f⟩:=zl91 I.hok e;exact f.typeIs
 ·obtain⟨_,_,xs,_,f⟩:=zj81 I.hok e;exact f.typeIs
theorem zrq{P:aN}{H:Hp}(h:aT)(f:cC < h.objs.size):ObjOk P w H (h.push { cls:=.type "dict",data:=.dict #[] }) h.objs.size (.dK []) :=
 ⟨wU _,beq_eq_false_iff_ne.mpr (Ne.symm (wF f)),[],.nil,Heap.DictOf.new h⟩
theorem zd51{P:aN}{H:Hp}(h:aT)(f:cC < h.objs.size):ObjOk P w H (h.push { cls:=.type "dict",data:=.dict #[] }) h.objs.size (.dT []) :=
 ⟨wU _,beq_eq_false_iff_ne.mpr (Ne.symm (wF f)),[],.nil,_,#[],0,v7 _ rfl,⟨rfl,rfl,rfl⟩,rfl,rfl,List.nodup_nil⟩
def zuz:List (TE×TE)->St->Hp->(List (V×V)->Hp->Prop)->Prop
|[],_,H,Q=>Q [] H
|(tk,tv) :: r,Y,H,Q=>tk Y H λx g=>tv Y g λy H2=>zuz r Y H2 λps f=>Q ((x,y) :: ps) f
abbrev VV:List (V×V)->List (aA×aA)->Prop:=Paired λp q=>RelV p.1 q.1/\RelV p.2 q.2
def PPs(X:Cx)(pos:Pos)(keys:List (Option aX))(f:List aX)(trs:List (TE×TE)):Prop :=
 ∀(pins:List (aE×Obj))(s:aG)(Y:St)(H:Hp)(Q:List (V×V)->Hp->Prop),Inv X pins Y H s->zuz trs Y H Q ->
  aJ (aM X.prog X.w) X.A (evalPairs (pairTrees keys f X.env pos)) (λvs s'=>∃ps H',Inv X pins Y H' s'/\VV ps vs/\Q ps H') X.xe s
theorem zma1:PPs X pos [] [] []:=λpins s Y H Q I h=>pairTrees_nil_walk ⟨[],H,I,.nil,h⟩
theorem zk01{k v:aX}{m:List (Option aX)}{vs:List aX}{tk g:TE}(J:PE X k tk)(G:PE X v g)(hr:PPs X pos m vs trs) :
  PPs X pos (some k :: m) (v :: vs) ((tk,g) :: trs):=λpins s Y H Q I h =>
 pairTrees_cons_walk (thn (J pins s Y H _ I h) λu s1 ⟨x,S,N,q,C⟩=>thn (G pins s1 Y S _ N C) λU s2 ⟨y,H2,M,p,B⟩ =>
  thn (hr pins s2 Y H2 _ M B) λws s3 ⟨ps,O,L,f,z⟩=>⟨(x,y) :: ps,O,L,.cons ⟨q,p⟩ f,z⟩)
def zvj(kvs f:List (Key×V)):List (Key×V):=f.foldl (λacc g=>putK acc g.1 g.2) kvs
theorem KV.merge:∀{f:List (Key×V)}{rs:List (Key×aA)}{kvs:List (Key×V)}{vs:List (Key×aA)},KV f rs->KV kvs vs->KV (zvj kvs f) (merged vs rs):=by
 intro f rs kvs vs r;unfold KV at r
 induction r generalizing kvs vs with
|nil=>intro q;exact q
|@cons p q ps qs h t m =>
  intro g;have e:KV (putK kvs p.1 p.2) (stored vs q.1 q.2):=by
   have:=g.put p.1 h.2;rw[<- h.1];exact this
  exact m e
theorem zua:∀(f kvs:List (Key×V)),(zvj kvs f).length<=kvs.length+f.length
|[],kvs=>by show kvs.length<=kvs.length+0;lia
|p :: r,kvs=>by
  have m:=zua r (putK kvs p.1 p.2);have g:=zo3 kvs p.1 p.2;show(zvj (putK kvs p.1 p.2) r).length<=_;rw[xG];lia
theorem zgg{P:aN}{w:aP}:∀{kvs:List (Key×V)}{ws:List (aA×aA)},VV (kvs.map λf=>(kV f.1,f.2)) ws->∃rs,Carries (zr2 P w) ws rs/\KV kvs rs
|[],_,r=>by rw[yS]at r;cases r;exact⟨[],True.intro,.nil⟩
|p :: kvs,_,r=>by
  rw[v9]at r;cases r with
 |@cons a b as bs h t =>
   obtain⟨rs,c,q⟩:=zgg (P:=P) (w:=w) t;obtain⟨m,g⟩:=b;exact⟨(p.1,g) :: rs,⟨ztz h.1,rfl,c⟩,.cons ⟨rfl,h.2⟩ q⟩
def zai1(trs:List (TE×TE)):TE:=λY H Q=>∀p,H p=none->zuz trs Y (upd H p (.dK [])) λps H2=>H2 p=some (.dK [])/\∃kvs:List (Key×V),ps=kvs.map (λf=>(kV f.1,f.2))/\kvs.length<=15/\Q (.ref p) (upd H2 p (.dK (zvj [] kvs)))
theorem zy91{keys:List (Option aX)}{f:List aX}(h:PPs X pos keys f trs)(m:keys.all (·.isSome)=true)(hl:keys.length=f.length)(U:keys≠[])
  (x:keys.length<=15):PE X (.Dict keys f pos) (zai1 trs):=by
 intro pins s Y H Q I q;have N:=I.hok.fresh (u7 s.heap.objs.size);have Z:=I.laid (a:=s.heap.objs.size) (o:=.dK []) (h':=s.heap.push { cls:=.type "dict",data:=.dict #[] }) (t':=s.toks) (λ_ _ q=>vU _ q) (u7 _) (zrq s.heap I.big);refine wpAny_Dict_walk (knd:=zr2 X.prog X.w) m hl U x (thn (h pins _ Y _ _ Z (q _ N)) λws s2 hz=>?_);obtain⟨ps,H2,B,p,e,kvs,ep,lk,J⟩:=hz;subst ep;obtain⟨rs,c,C⟩:=zgg (P:=X.prog) (w:=X.w) p;obtain⟨z,hd,vs0,G,W⟩:=zcb1 B.hok e;cases G;refine⟨rs,c,W,λh' g L=>⟨.ref s.heap.objs.size,_,?_,rfl,J⟩⟩;have hz:(zvj [] kvs).length<=sizeLine:=by
  have S:=zua kvs [];rw[List.length_nil]at S;rw[aQ];lia
 have O:∃q,h'.get? s.heap.objs.size=some q:=let ⟨q,_,_,M,_⟩:=g;⟨q,M⟩;exact zuf B (by rw[e];exact True.intro) L O (zj21 hz hd (C.merge .nil) g)
end _2
namespace _3
open PySem PySem.Spec PyProof.Rows _2
variable {K:Fg}{X:Cx}{a:aE}{ds:List aY}{pos:Pos}
def rInD:R2:=λx y H Q=>∃a o,y=.ref a/\DGet H a x o/\Q (.bl o.isSome) H
def zzx:R2:=λx y H Q=>∃a o,y=.ref a/\DGet H a x o/\Q (.bl (!o.isSome)) H
def rIxD:R2:=λx y H Q=>∃a v,x=.ref a/\DGet H a y (some v)/\Q v H
def zth1:V->V->V->Hp->(Hp->Prop)->Prop:=λo i v H Q=>∃a H',o=.ref a/\DPut H a i v H'/\Q H'
section
variable {X:Cx}
theorem zwc1(z:X.A.units+64 < cM):OpR X (a9 .In) rInD:=by
 walk_at"29";obtain⟨a,o,rfl,g,q⟩:=h;obtain rfl:u=v3 a:=f;exact d_in (by lia) I g m λs3 p=>⟨.bl o.isSome,H,p,rfl,q⟩
theorem zev(z:X.A.units+64 < cM):OpR X (a9 .NotIn) zzx:=by
 walk_at"29";obtain⟨a,o,rfl,g,q⟩:=h;obtain rfl:u=v3 a:=f;exact zv51 (by lia) I g m λs3 p=>⟨.bl (!o.isSome),H,p,rfl,q⟩
theorem ix_D(G:X.A.units+64 < cM):IxR X rIxD:=by
 intro value slice pins s Y H x y v u Q I p o h z;obtain⟨a,m,rfl,g,q⟩:=h;obtain rfl:v=v3 a:=p;exact iG (znm I g) ğh.lookup (zbl (by lia) I g o λC s3 B f=>⟨m,H,B,f,q⟩) z
theorem zui1(B:X.A.units+64 < cM):PSet X zth1:=by
 intro pins s Y H o i v p z u Q I f m rv h;obtain⟨a,H',rfl,g,q⟩:=h;obtain rfl:p=v3 a:=f;exact zlu (by lia) I g m rv λy x=>⟨H',x,q⟩
theorem zwi1(C:X.A.units+64 < cM):PGet X rIxD:=by
 intro pins s Y H o i x B Q I p u h;obtain⟨a,m,rfl,g,q⟩:=h;obtain rfl:x=v3 a:=p;exact zbl (by lia) I g u λz s3 y f=>⟨m,H,y,f,q⟩
def zrg1(K:Fg):R2:=λx y H Q=>∃a xs j v,x=.ref a/\y=.int j/\0<=j/\SqL K H a xs/\xs[j.toNat]?=some v/\Q v H
theorem zcj1(z:X.K=K):PGet X (zrg1 K):=by
 subst z;intro pins s Y H o i x G Q I m p h;obtain⟨a,xs,j,v,rfl,rfl,B,y,f,q⟩:=h;obtain rfl:x=v3 a:=m;obtain⟨t,rfl⟩:=p;obtain⟨its,r,pl,hz⟩:=I.list y;obtain⟨u,C,g⟩:=r.get f;have hl:=r.length;have J:=zei;have L:=(wI.mp f).1;refine wpAny_getItem_list pl.isList B (by lia) (by simpa using C) ⟨v,H,I,g,q⟩
theorem PGet.or{r m:R2}(h:PGet X r)(h':PGet X m):PGet X (λx y H Q=>r x y H Q \/ m x y H Q):=by
 intro pins s Y H o i p u Q I f g q;rcases q with q|q
 ·exact h pins s Y H o i p u Q I f g q
 ·exact h' pins s Y H o i p u Q I f g q
theorem PSet.or{r m:TSet}(h:PSet X r)(h':PSet X m):PSet X (λo i v H Q=>r o i v H Q \/ m o i v H Q):=by
 intro pins s Y H o i v p x u Q I f g rv q;rcases q with q|q
 ·exact h pins s Y H o i v p x u Q I f g rv q
 ·exact h' pins s Y H o i v p x u Q I f g rv q
end
def rInV(w:aP)(K:Fg):R2:=λx y H Q=>rInW w K x y H Q \/ rInD x y H Q
def zit(w:aP)(K:Fg):R2:=λx y H Q=>zfx w K x y H Q \/ zzx x y H Q
def rIxV(w:aP)(K:Fg):R2:=λx y H Q=>rIxW w K x y H Q \/ rIxD x y H Q
def znc1(K:Fg):R2:=λx y H Q=>zrg1 K x y H Q \/ rIxD x y H Q
def znb1:V->V->V->Hp->(Hp->Prop)->Prop:=λo i v H Q=>zph1 o i v H Q \/ zth1 o i v H Q
section
variable {X:Cx}{w:aP}{K:Fg}
theorem zea1(f:X.A.units+64 < cM)(hw:X.w=w)(g:X.K=K):OpR X (a9 .In) (rInV w K):=(zrc1 hw g).or (zwc1 f)
theorem zjb(f:X.A.units+64 < cM)(hw:X.w=w)(g:X.K=K):OpR X (a9 .NotIn) (zit w K):=(zgw hw g).or (zev f)
theorem ix_V(f:X.A.units+64 < cM)(hw:X.w=w)(g:X.K=K):IxR X (rIxV w K):=(ix_W hw g).or (ix_D f)
theorem zka1(f:X.A.units+64 < cM)(g:X.K=K):PGet X (znc1 K):=PGet.or (zcj1 g) (zwi1 f)
theorem zru(f:X.A.units+64 < cM):PSet X znb1:=PSet.or zf01 (zui1 f)
end
def kBM0(K:Fg)(T:String)(r:V->List V->Hp->VK->Prop)(x:V)(H:Hp)(Q:VK):Prop:=tyV K T x H/\r x [] H Q
def zch1(K:Fg)(T:String)(r:V->List V->Hp->VK->Prop)(f:TE):TE:=λY H Q=>f Y H λx g=>kBM0 K T r x g Q
theorem znt(B:X.K=K){o:aX}{u:TE}{name:Str}{g f:Pos}{T id:String}{r:V->List V->Hp->VK->Prop}(x:iK T)(slot:Slot T name id)(q:nK (.builtin id)=pure (.type "method_descriptor"))(z:MtR X id r)(y:PE X o u)
  (p:dM o name X.env (bA o X.env)=bA o X.env:=by rfl) (m:(g.endLine == f.line)=true:=by rfl):PE X (.Call (.Attribute o name g) [] [] f) (zch1 K T r u):=by
 subst B;exact zyf1 x slot q z y p m
theorem zda1{pins:List (aE×Obj)}{Y:_2.St}{H:Hp}{s:aG}{h':aT}{t':Nat}{c:aE}(I:_2.Inv X pins Y H s)(k:∀b o,b≠a->b≠c->s.heap.get? b=some o->h'.get? b=some o)
  (L:FpOk X pins H a) (J:FpOk X pins H c):_2.Inv X pins Y H { s with heap:=h',toks:=t' }:=by
 obtain⟨a0,B,_,Z,W,U⟩:=L;obtain⟨S,y,_,O,N,M⟩:=J;have p:∀b u,H b=some u->b≠a:=λb u e z=>by rw[z,a0]at e;cases e
 have g:∀b u,H b=some u->b≠c:=λb u e z=>by rw[z,S]at e;cases e
 refine I.step (g':=s.gens) (d':=s.drawn) (ch:=[a,c]) (λb x=>?_) (λb o _ _ f e _=>k b o (λz=>f (by simp[z])) (λz=>f (by simp[z])) e) (λb o _ _ f e _=>⟨o.slots,k b o (λz=>f (by simp[z])) (λz=>f (by simp[z])) e⟩) (λ_ _ _ _ n=>n)
  (λb o f e=>⟨o,k b o (λz=>f (by simp[z])) (λz=>f (by simp[z])) e⟩) (λ_ _ e=>e) (λ_ _ _ e=>e) (λb ps e=>⟨#[],by rw[e];simp⟩) (λm G=>?_) (λb u e=>?_) I.bare
 ·simp at x;rcases x with e|e
  ·subst e;exact⟨Z,B,W,U⟩
  ·subst e;exact⟨O,y,N,M⟩
 ·obtain⟨o,es,ep,C,r⟩:=G;exact⟨o,es,ep,k _ o (Ne.symm B) (Ne.symm y) C,r⟩
 ·refine(I.hok b u e).stay (λd v f q=>k d v ?_ ?_ q) (λ_ q=>q) λ_ _ q=>q
  ·rcases f with z|z
   ·rw[z];exact p b u e
   ·exact p d _ z
  ·rcases f with z|z
   ·rw[z];exact g b u e
   ·exact g d _ z
theorem zh61{h:aT}{ob o:Obj}{b:aE}(e:(h.push ob).get? b=some o)(n:b≠h.objs.size):h.get? b=some o:=by
 obtain⟨g,f⟩:=ua0.mp e;refine ua0.mpr ⟨?_,f⟩;cases h
 simpa[Heap.push,Array.getElem?_push,n]using g
def Ite(K:Fg)(a:aE):It:=⟨λi H=>∃xs x,SqL K H a xs/\xs[i]?=some x,λi H x H'=>∃y p,(∀ys,SqL K H a ys->ys[i]?=some y)/\H p=none/\x=.ref p/\H'=upd H p (.tup [.int (i:Int),y]),λi H=>∃xs,SqL K H a xs/\xs.length<=i⟩
theorem zqu{P:aN}{w:aP}{J:List aX}{c:_}{e it:aE}(C:e≠it) :
  Turn P w K (.Tuple J c pos) (Ite K a) [e,it] e (λi h=>(∃old,IsEnum h e it (i:Int) old)/\h.IsListIter it a i) where
 mem:=by simp
 obj:=λi h S b y=>by
  obtain⟨⟨old,f⟩,hi⟩:=S;simp at y;rcases y with rfl|rfl
  ·exact⟨_,f,λv q=>by cases q⟩
  ·obtain⟨o,g,c1,d1⟩:=hi;exact⟨o,g,λv z=>by rw[d1]at z;cases z⟩
 keep:=λi h h' S k=>by
  obtain⟨⟨old,f⟩,hi⟩:=S;exact⟨⟨old,k _ (by simp) _ f⟩,hi.at λo g=>k it (by simp) o g⟩
 item:=by
  walk_at"24";subst O hw U;obtain⟨⟨old,f⟩,hi⟩:=S;obtain⟨xs,x,L,M⟩:=N;obtain⟨its,rv,p,hz⟩:=I.list L;obtain⟨u,hu,ru⟩:=rv.get M;refine wpAny_pyNext_enum_item f hi p.isList (x:=u) (by simpa using hu) C λh' ho hi' ht hsz hk=>?_;have eL:e < s.heap.objs.size:=vZ f;have iL:it < s.heap.objs.size:=by obtain⟨o,g,_⟩:=hi;exact vZ g
  have hfr:=I.hok.fresh (u7 s.heap.objs.size);have I1:_2.Inv X pins Y (upd H s.heap.objs.size (.tup [.int (i:Int),x])) { s with heap:=s.heap.push { cls:=.type "tuple",data:=.seq #[.int i s.toks,u] },toks:=s.toks+1 } :=
   I.laid (t':=s.toks+1) (o:=.tup [.int (i:Int),x]) (λb ob q=>vU _ q) (u7 _) ⟨by show 2<=sizeLine;rw[aQ];decide,[.int i s.toks,u],.cons ⟨_,rfl⟩ (.cons ru .nil),IsTup.new _ _⟩
  have fe:=hf e (by simp);have fi:=hf it (by simp);have m:FpOk X pins (upd H s.heap.objs.size (.tup [.int (i:Int),x])) e:=⟨by rw[zd1 (wF eL)];exact fe.1,fe.2⟩
  have G:FpOk X pins (upd H s.heap.objs.size (.tup [.int (i:Int),x])) it:=⟨by rw[zd1 (wF iL)];exact fi.1,fi.2⟩
  have I2:_2.Inv X pins Y (upd H s.heap.objs.size (.tup [.int (i:Int),x])) { s with heap:=h',toks:=s.toks+1 } :=
   zda1 (s:={ s with heap:=s.heap.push { cls:=.type "tuple",data:=.seq #[.int i s.toks,u] },toks:=s.toks+1 }) I1 (λb o Z W q=>by
    by_cases z:b=s.heap.objs.size
    ·subst z;have q':(s.heap.push { cls:=.type "tuple",data:=.seq #[.int i s.toks,u] }).get? s.heap.objs.size=some o:=q;rw[v7 _ rfl]at q';cases q';exact ht
    ·exact hk b o Z W (zh61 q z)) m G
  refine⟨.ref s.heap.objs.size,rfl,wpAny_letOwnedTupleGo_enum ho λh2 he2 B=>?_⟩;refine⟨.ref s.heap.objs.size,_,zt4 (tk:=s.toks+1) I2 m B,rfl,⟨x,s.heap.objs.size,λys hy=>by rw[I.list_inj hy L];exact M,hfr,rfl,rfl⟩,⟨⟨u,by simpa using he2⟩,hi'.at λo g=>B.extBut _ _ (Ne.symm C) g⟩,λb y=>?_⟩;simp at y;rcases y with rfl|rfl
  ·exact m.1
  ·exact G.1
 done:=by
  walk_at"24";subst O hw U;obtain⟨⟨old,f⟩,hi⟩:=S;obtain⟨xs,L,M⟩:=N;obtain⟨its,rv,p,hz⟩:=I.list L;have hl:=rv.length;exact wpAny_pyNext_enum_end (I.ok.hd hc) f hi p.isList (by simp;lia) λh' eb=>⟨rfl,zqz (tk:=s.toks) I (hf it (by simp)) eb⟩
 self:=λ_ _ _ _ _ S h=>lG S.1.choose_spec h
theorem zxj:a8 "enumerate"=some (.type "enumerate"):=by decide +kernel
section
variable {X:Cx}{elts:List aX}
def znj1(K:Fg)(vs:List V)(H:Hp)(R:It->Hp->Prop):Prop:=∃a xs,vs=[.ref a]/\SqL K H a xs/\R (Ite K a) H
def zze1(K:Fg)(f:TA):TI:=λY H R=>f Y H λvs g=>znj1 K vs g R
theorem zpa(W:X.K=K){c:_}{g:Pos}{a:aX}{o:TA}{p pos:Pos}(S:Gl X "enumerate")(O:X.mg "enumerate"=none)(U:PA X [a] o)(M:aS [a] X.env=[(false,bA a X.env)]:=by rfl) :
  PI X (.Tuple elts c g) (.Call (.Name "enumerate" p) [a] [] pos) (zze1 K o):=by
 subst W;walk_at"13";refine Call_ (zkh I S O zxj (b7 (thn (U pos pins s Y H _ I h) λus s1 hz=>?_) (by rw[M];rfl) (by rfl)));obtain⟨vs,y,m,G,J⟩:=hz;obtain⟨l,xs,e,N,q⟩:=J;subst e;obtain⟨B,rfl,C⟩:=zwl G;obtain rfl:B=v3 l:=C;obtain⟨its,rv,pl,hz⟩:=m.list N;refine call_enumerate_list pl.isList ?_;intro h' u hi hsz L;refine lG u ?_;have Z:_2.Inv X pins Y y { s1 with heap:=h' }:=m.kept (t':=s1.toks) L;refine⟨s1.heap.objs.size+1,[s1.heap.objs.size+1,s1.heap.objs.size],_,_,y,rfl,Z,zqu (Nat.succ_ne_self _),⟨⟨.none,u⟩,hi⟩,λb x=>?_,q⟩;have f:s1.heap.objs.size<=b:=by
  simp at x;rcases x with z|z
  ·exact z ▸ yQ _
  ·exact z ▸ u7 _
 exact m.fpOk f (m.hok.fresh f)
end
def zoe1:R2:=λx y H Q=>zxh1 x y H Q \/ rRep x y H Q
theorem zt9:OpR X (bR .Mult) zoe1:=zv61.or zq71
section
variable {X:Cx}
def zeg1(K:Fg):R2:=λx y H Q=>∃l b xs f,x=.ref l/\y=.ref b/\SqL K H l xs/\SqL K H b f/\xs.length+f.length<=sizeLine/\∀p,H p=none->Q (.ref p) (upd H p (.lst (xs++f)))
theorem zg91(N:X.K=K):OpR X (bR .Add) (zeg1 K):=by
 subst N;intro pins s Y H x y v u Q I M L h;obtain⟨l,b,xs,W,rfl,rfl,O,hB,hz,q⟩:=h;cases M;cases L;obtain⟨its,r,⟨⟨cls,U,data,sl⟩,n,C,G,_,hd⟩,z1⟩:=I.list O;obtain⟨f,B,⟨⟨J,z,data2,p⟩,n2,g,o,_,m⟩,Z⟩:=I.list hB;simp only at G hd o m;subst G hd o m;have e1:=r.length;have e2:=B.length;refine i6 ⟨_,C,rfl⟩ ⟨_,g,rfl⟩ noFill_list_add seq_list_add PySem.F.slot_list_add PySem.F.entry_list_add (PySem.F.args_list_add_2 _ _) (list_addW l b its.toArray f.toArray n n2 U z sl p (by simp;lia)) ⟨C,g,?_⟩;have S:its.toArray++f.toArray=(its++f).toArray:=by simp
 rw[S];exact⟨.ref _,_,I.lnew (t':=s.toks) (r.append B) (by rw[vW];lia),rfl,q _ I.fresh⟩
def zxd1(K:Fg):R2:=λx y H Q=>zqh1 K x y H Q \/ zeg1 K x y H Q
theorem zk1(f:X.K=K):OpR X (bR .Add) (zxd1 K):=(zk91 f).or (zg91 f)
def rIsS(K:Fg):List V->Hp->VK->Prop:=λvs H Q=>∃a f c b,vs=[.ref a,f]/\clsV f=some c/\(((∃xs,SqL K H a xs)/\eD K (.type "list") c=some b) \/ ((∃xs,SqT K H a xs)/\eD K (.type "tuple") c=some b))/\Q (.bl b) H
theorem zb41(h:X.K=K):CallR X (.builtin "isinstance") (rIsS K):=by
 subst h;walk_at"3";obtain⟨a,G,c,b,rfl,m,x,q⟩:=h;obtain⟨u,v,rfl,g,rv⟩:=r.two;obtain rfl:=zcr m rv;cases (show u=v3 a from g);rcases x with⟨⟨xs,f⟩,e⟩|⟨⟨xs,f⟩,e⟩
 ·obtain⟨its,_,⟨o,n,p,y,_,hd⟩,_⟩:=I.list f;exact bH gC I.kIn ⟨o,p,y⟩ e (λz=>nomatch z) λtk=>⟨.bl b,H,I.tok tk,rfl,q⟩
 ·obtain⟨its,_,⟨o,C,B,_⟩,_⟩:=I.tuple f;exact bH lB I.kIn ⟨o,C,B⟩ e (λz=>nomatch z) λtk=>⟨.bl b,H,I.tok tk,rfl,q⟩
theorem CallR.or{f:aA}{m g:List V->Hp->VK->Prop}(p:CallR X f m)(o:CallR X f g):CallR X f (λvs H Q=>m vs H Q \/ g vs H Q):=by
 walk_at"3";rcases h with h|h
 ·exact p pins s Y H xs us Q I r h
 ·exact o pins s Y H xs us Q I r h
def rIsW(K:Fg):List V->Hp->VK->Prop:=λvs H Q=>rIsI K vs H Q \/ rIsS K vs H Q
theorem zea(h:X.K=K):CallR X (.builtin "isinstance") (rIsW K):=(zfm h).or (zb41 h)
theorem zsh(l:aE)(items:Array aA)(n:Nat)(b:aE)(f:Array aA)(n2:Nat)(u:Option aE)(m:Array (Option aA))(z:¬(!items.isEmpty && cG (items.size+f.size))=true)(q:items.size<=sizeLine)(p:items.size+f.size<=sizeLine+1) :
  Meets (Builtin.«list.extend» ⟨[.ref l,.ref b],[]⟩) (λ_ R s=>s.heap.get? l=some { cls:=.type "list",dict:=none,data:=.seq items n,slots:=#[] }/\s.heap.get? b=some { cls:=.type "list",dict:=u,data:=.seq f n2,slots:=m }/\R (.ok (.ret xJ)) { s with heap:=s.heap.update l (fC λx=>x++f),toks:=s.toks }) :=
 .of_wp λprog w A R s h=>by
  obtain⟨B,g,d,tk,os⟩:=s;obtain⟨hl,y,h⟩:=h;have L:=AutoSeq1.idx_int;have J:=AutoSeq1.sub_tuple_tuple;have I:=AutoSeq1.sub_list_list;have G:=AutoSeq1.sub_tuple_list;have C:=AutoSeq1.sub_list_tuple;have o:(items++f).size<=sizeLine+1:=by rw[Array.size_append];exact p
  wp_walk using(fF hl rfl (hz:=q) (_hz':=o)),mJ hl,mJ y;exact⟨_,rfl,h⟩
def zer(K:Fg):V->List V->Hp->VK->Prop:=λx vs H Q=>∃l b xs f,x=.ref l/\vs=[.ref b]/\H l=some (.lst xs)/\SqL K H b f/\xs.length+f.length<=sizeLine/\Q .non (upd H l (.lst (xs++f)))
theorem zs5(N:X.K=K):MtM X "list.extend" (zer K):=by
 subst N;intro pins s Y H x vs v us Q I L rv h;obtain⟨l,b,xs,S,rfl,rfl,G,hB,hz,q⟩:=h;cases L;obtain⟨u,rfl,M⟩:=rv.one;cases M;obtain⟨z,its,n,r,hl,e⟩:=I.lstM G;obtain⟨f,C,⟨⟨J,B,data2,p⟩,n2,y,o,_,m⟩,U⟩:=I.list hB;simp only at o m;subst o m;have O:=C.length;have hsz:its.toArray.size+f.toArray.size<=sizeLine:=by rw[v8,v8];lia
 have g:¬(!its.toArray.isEmpty && cG (its.toArray.size+f.toArray.size))=true:=by
  rw[zij hsz,Bool.and_false];exact wA
 refine e9 F.slot_list_extend ⟨_,e,rfl⟩ F.entry_list_extend (F.args_list_extend_2 _ _)
  (zsh l its.toArray n b f.toArray n2 B p g (by rw[v8];lia) (by lia)) ⟨e,y,?_⟩
 refine⟨.non,_,I.lset (its':=its++f) G e (by simp) (r.append C) ?_,rfl,q⟩;rw[vW];lia
end
theorem IsAll.dlen{K:Fg}{F:Hp}:∀{xs:List V}{ds:List aY},IsAll K F xs ds->xs.length=ds.length
|_,_,.nil=>rfl
|_,_,.cons _ r=>congrArg (·+1) (IsAll.dlen r)
theorem IsAll.dget{K:Fg}{F:Hp}:∀{xs:List V}{ds:List aY}{i:Nat}{d:aY},IsAll K F xs ds->ds[i]?=some d->∃x,xs[i]?=some x/\Is K F x d
|_,_,_,_,.nil,e=>by simp at e
|_,_,0,_,.cons h _,e=>by simp at e;subst e;exact⟨_,rfl,h⟩
|_,_,i+1,d,.cons _ r,e=>by
  obtain⟨x,g,f⟩:=IsAll.dget (i:=i) (d:=d) r (by simpa using e);exact⟨x,by simpa using g,f⟩
theorem IsAll.dapp{K:Fg}{F:Hp}:∀{xs ys:List V}{ds es:List aY},IsAll K F xs ds->IsAll K F ys es->IsAll K F (xs++ys) (ds++es)
|_,_,_,_,.nil,s=>s
|_,_,_,_,.cons h r,s=>.cons h (IsAll.dapp r s)
theorem IsAll.dtake{K:Fg}{F:Hp}:∀(n:Nat){xs:List V}{ds:List aY},IsAll K F xs ds->IsAll K F (xs.take n) (ds.take n)
|0,_,_,_=>.nil
|_+1,_,_,.nil=>.nil
|n+1,_,_,.cons h r=>.cons h (IsAll.dtake n r)
theorem IsAll.ddrop{K:Fg}{F:Hp}:∀(n:Nat){xs:List V}{ds:List aY},IsAll K F xs ds->IsAll K F (xs.drop n) (ds.drop n)
|0,_,_,h=>h
|_+1,_,_,.nil=>.nil
|n+1,_,_,.cons _ r=>IsAll.ddrop n r
theorem IsAll.dset{K:Fg}{F:Hp}{x:V}{d:aY}(f:Is K F x d):∀(n:Nat){xs:List V}{ds:List aY},IsAll K F xs ds->IsAll K F (xs.set n x) (ds.set n d)
|_,_,_,.nil=>.nil
|0,_,_,.cons _ r=>.cons f r
|n+1,_,_,.cons h r=>.cons h (IsAll.dset f n r)
theorem Is.list_inv{F:Hp}{v:V}(h:Is K F v (.list ds)):∃a xs,v=.ref a/\SqL K F a xs/\IsAll K F xs ds:=by
 cases h with
|lst g f=>exact⟨_,_,rfl,g,f⟩
theorem Is.tuple_inv{F:Hp}{v:V}(h:Is K F v (.tuple ds)):∃a xs,v=.ref a/\SqT K F a xs/\IsAll K F xs ds:=by
 cases h with
|tup g f=>exact⟨_,_,rfl,SqT.of g,f⟩
|tuc g f _=>exact⟨_,_,rfl,g,f⟩
theorem Is.int_inv{F:Hp}{v:V}{i:Int}(h:Is K F v (.int i)):v=.int i:=by cases h;rfl
theorem Is.bl_inv{F:Hp}{v:V}{b:Bool}(h:Is K F v (.bool b)):v=.bl b:=by cases h;rfl
theorem Is.str_inv{F:Hp}{v:V}{b:Str}(h:Is K F v (.str b)):v=.str b:=by cases h;rfl
theorem Is.non_inv{F:Hp}{v:V}(h:Is K F v .none):v=.non:=by cases h;rfl
end _3
namespace _4
open PySem PySem.Spec PyProof.Rows _2 _3
variable {F' H':Hp}{K:Fg}{a p:aE}{fp fq:List aE}{x:V}{xs:List V}
abbrev D:=aY
structure Ext(F H F' H':Hp):Prop where
 h:Same H H'
 f:Same F F'
 fh:Same F' H'
 nw:∀a,H a≠none->F a=none->F' a=none
theorem Ext.refl{F H:Hp}(s:Same F H):Ext F H F H:=⟨λ_ _ z=>z,λ_ _ z=>z,s,λ_ _ z=>z⟩
theorem Ext.trans{F H q m F2 H2:Hp}(a:Ext F H q m)(b:Ext q m F2 H2):Ext F H F2 H2 :=
 ⟨a.h.trans b.h,a.f.trans b.f,b.fh,λc g u=>b.nw c (λz=>by
  cases e:H c with
 |none=>exact g e
 |some o=>rw[a.h c o e]at z;cases z) (a.nw c g u)⟩
inductive T where
|fz (d:D)|li (ds:List D)|ls (ts:List T)|ob (C:aE) (fs:List (Str×T))|dk (kvs:List (Key×D))|dt (kvs:List (List Key×D))|tp (ts:List T)
inductive KvIs(K:Fg)(F:Hp){κ:Type}:List (κ×V)->List (κ×D)->Prop
|nil:KvIs K F [] []
|cons {k:κ} {v:V} {d:D} {r:List (κ×V)} {s:List (κ×D)}:Is K F v d->KvIs K F r s->KvIs K F ((k,v) :: r) ((k,d) :: s)
theorem KvIs.mono{K:Fg}{F F':Hp}{κ:Type}(s:Same F F'):∀{r:List (κ×V)}{t:List (κ×D)},KvIs K F r t->KvIs K F' r t
|_,_,.nil=>.nil
|_,_,.cons h r=>.cons (h.mono s) (r.mono s)
mutual
inductive Rt(K:Fg)(F H:Hp):V->T->List aE->Prop
|fz {v:V} {d:D}:Is K F v d->Rt K F H v (.fz d) []
|li {a:aE} {xs:List V} {ds:List D}:H a=some (.lst xs)->F a=none->IsAll K F xs ds->Rt K F H (.ref a) (.li ds) [a]
|ls {a:aE} {xs:List V} {ts:List T} {fp:List aE}:H a=some (.lst xs)->F a=none->RtAll K F H xs ts fp->Rt K F H (.ref a) (.ls ts) (a :: fp)
|ob {a C dx:aE} {fs:List (Str×V)} {ts:List (Str×T)} {fp:List aE}:H a=some (.ins C dx fs)->H dx=some (.own a)->F a=none->F dx=none->RtFs K F H fs ts fp->Rt K F H (.ref a) (.ob C ts) (a :: dx :: fp)
|dk {a:aE} {kvs:List (Key×V)} {ds:List (Key×D)}:H a=some (.dK kvs)->F a=none->KvIs K F kvs ds->Rt K F H (.ref a) (.dk ds) [a]
|dt {a:aE} {kvs:List (List Key×V)} {ds:List (List Key×D)}:H a=some (.dT kvs)->F a=none->KvIs K F kvs ds->Rt K F H (.ref a) (.dt ds) [a]
|tp {a:aE} {xs:List V} {ts:List T} {fp:List aE}:H a=some (.tup xs)->F a=none->RtAll K F H xs ts fp->Rt K F H (.ref a) (.tp ts) (a :: fp)
inductive RtAll(K:Fg)(F H:Hp):List V->List T->List aE->Prop
|nil:RtAll K F H [] [] []
|cons {x:V} {t:T} {xs:List V} {ts:List T} {fp fq:List aE}:Rt K F H x t fp->RtAll K F H xs ts fq->RtAll K F H (x :: xs) (t :: ts) (fp++fq)
inductive RtFs(K:Fg)(F H:Hp):List (Str×V)->List (Str×T)->List aE->Prop
|nil:RtFs K F H [] [] []
|cons {f:Str} {x:V} {t:T} {xs:List (Str×V)} {ts:List (Str×T)} {fp fq:List aE}:Rt K F H x t fp->RtFs K F H xs ts fq->RtFs K F H ((f,x) :: xs) ((f,t) :: ts) (fp++fq)
end
section
variable {K:Fg}{F H F' H':Hp}
theorem Rt.ind{P : V → T → List aE → Prop}{Q : List V → List T → List aE → Prop}{R : List (Str × V) → List (Str × T) → List aE → Prop}
    (G : ∀{v : V}{d : D}, Is K F v d → P v (.fz d) [])
    (B : ∀{a : aE}{xs : List V}{ds : List D}, H a = some (.lst xs) → F a = none → IsAll K F xs ds → P (.ref a) (.li ds) [a])
    (z : ∀{a : aE}{xs : List V}{ts : List T}{fp : List aE}, H a = some (.lst xs) → F a = none → Q xs ts fp → P (.ref a) (.ls ts) (a :: fp))
    (y : ∀{a C g : aE}{fs : List (Str × V)}{ts : List (Str × T)}{fp : List aE}, H a = some (.ins C g fs) → H g = some (.own a) → F a = none → F g = none → R fs ts fp → P (.ref a) (.ob C ts) (a :: g :: fp))
    (u : ∀{a : aE}{kvs : List (Key × V)}{ds : List (Key × D)}, H a = some (.dK kvs) → F a = none → KvIs K F kvs ds → P (.ref a) (.dk ds) [a])
    (q : ∀{a : aE}{kvs : List (List Key × V)}{ds : List (List Key × D)}, H a = some (.dT kvs) → F a = none → KvIs K F kvs ds → P (.ref a) (.dt ds) [a])
    (ct : ∀{a : aE}{xs : List V}{ts : List T}{fp : List aE}, H a = some (.tup xs) → F a = none → Q xs ts fp → P (.ref a) (.tp ts) (a :: fp))
    (p : Q [] [] []) (o : ∀{x : V}{t : T}{xs : List V}{ts : List T}{fp fq : List aE}, P x t fp → Q xs ts fq → Q (x :: xs) (t :: ts) (fp ++ fq))
    (m : R [] [] []) (I : ∀{f : Str}{x : V}{t : T}{xs : List (Str × V)}{ts : List (Str × T)}{fp fq : List aE}, P x t fp → R xs ts fq → R ((f, x) :: xs) ((f, t) :: ts) (fp ++ fq)) :
    (∀{v : V}{t : T}{fp : List aE}, Rt K F H v t fp → P v t fp) ∧ (∀{v : List V}{t : List T}{fp : List aE}, RtAll K F H v t fp → Q v t fp) ∧ (∀{v : List (Str × V)}{t : List (Str × T)}{fp : List aE}, RtFs K F H v t fp → R v t fp) :=
  ⟨fun h => Rt.rec (motive_1 := fun v t fp _ => P v t fp) (motive_2 := fun v t fp _ => Q v t fp) (motive_3 := fun v t fp _ => R v t fp) G B (fun a b _ => z a b) (fun a b c d _ => y a b c d) u q (fun a b _ => ct a b) p (fun _ _ => o) m (fun _ _ => I) h,
   fun h => RtAll.rec (motive_1 := fun v t fp _ => P v t fp) (motive_2 := fun v t fp _ => Q v t fp) (motive_3 := fun v t fp _ => R v t fp) G B (fun a b _ => z a b) (fun a b c d _ => y a b c d) u q (fun a b _ => ct a b) p (fun _ _ => o) m (fun _ _ => I) h,
   fun h => RtFs.rec (motive_1 := fun v t fp _ => P v t fp) (motive_2 := fun v t fp _ => Q v t fp) (motive_3 := fun v t fp _ => R v t fp) G B (fun a b _ => z a b) (fun a b c d _ => y a b c d) u q (fun a b _ => ct a b) p (fun _ _ => o) m (fun _ _ => I) h⟩
def Keep(F' H H':Hp)(fp:List aE):Prop:=∀a∈fp,H' a=H a/\F' a=none
theorem Keep.hd{o:HO}(k:Keep F' H H' (a :: fp))(h:H a=some o):H' a=some o:=(k a wR).1.trans h
theorem Keep.no(k:Keep F' H H' (a :: fp)):F' a=none:=(k a wR).2
theorem Keep.tl(k:Keep F' H H' (a :: fp)):Keep F' H H' fp:=λb f=>k b (wC _ f)
theorem Keep.l(k:Keep F' H H' (fp++fq)):Keep F' H H' fp:=λb f=>k b (xQ _ f)
theorem Keep.r(k:Keep F' H H' (fp++fq)):Keep F' H H' fq:=λb f=>k b (xC _ f)
theorem zaj(s:Same F F'):(∀{v:V}{t:T}{fp:List aE},Rt K F H v t fp->Keep F' H H' fp->Rt K F' H' v t fp)/\(∀{v:List V}{t:List T}{fp:List aE},RtAll K F H v t fp->Keep F' H H' fp->RtAll K F' H' v t fp)/\(∀{v:List (Str×V)}{t:List (Str×T)}{fp:List aE},RtFs K F H v t fp->Keep F' H H' fp->RtFs K F' H' v t fp) :=
 Rt.ind (P:=λv t fp=>Keep F' H H' fp->Rt K F' H' v t fp) (Q:=λv t fp=>Keep F' H H' fp->RtAll K F' H' v t fp) (R:=λv t fp=>Keep F' H H' fp->RtFs K F' H' v t fp)
  (λh _=>.fz (h.mono s)) (λh _ i k=>.li (k.hd h) k.no (i.mono s)) (λh _ i k=>.ls (k.hd h) k.no (i k.tl)) (λh f _ _ i k=>.ob (k.hd h) (k.tl.hd f) k.no k.tl.no (i k.tl.tl))
  (λh _ i k=>.dk (k.hd h) k.no (i.mono s)) (λh _ i k=>.dt (k.hd h) k.no (i.mono s)) (λh _ i k=>.tp (k.hd h) k.no (i k.tl)) (λ_=>.nil) (λa b k=>.cons (a k.l) (b k.r)) (λ_=>.nil) (λa b k=>.cons (a k.l) (b k.r))
theorem Rt.frame(s:Same F F'){v:V}{t:T}(h:Rt K F H v t fp)(k:∀a∈fp,H' a=H a/\F' a=none):Rt K F' H' v t fp:=(zaj s).1 h k
theorem RtAll.frame(s:Same F F'){v:List V}{t:List T}(h:RtAll K F H v t fp)(k:∀a∈fp,H' a=H a/\F' a=none):RtAll K F' H' v t fp:=(zaj s).2.1 h k
theorem RtFs.frame(s:Same F F'){v:List (Str×V)}{t:List (Str×T)}(h:RtFs K F H v t fp)(k:∀a∈fp,H' a=H a/\F' a=none):RtFs K F' H' v t fp:=(zaj s).2.2 h k
def Dom(F H:Hp)(fp:List aE):Prop:=∀a∈fp,H a≠none/\F a=none
theorem Dom.nil:Dom F H []:=λ_ h=>nomatch h
theorem Dom.cons{a:aE}{o:HO}{fp:List aE}(h:H a=some o)(f:F a=none)(r:Dom F H fp):Dom F H (a :: fp):=λb g=>by
 rcases vT.mp g with e|e
 ·rw[e];exact⟨λz=>(by rw[h]at z;cases z),f⟩
 ·exact r b e
theorem Dom.app(a:Dom F H fp)(b:Dom F H fq):Dom F H (fp++fq):=λc f=>(vX.mp f).elim (a c) (b c)
theorem zb11:(∀{v:V}{t:T}{fp:List aE},Rt K F H v t fp->Dom F H fp)/\(∀{v:List V}{t:List T}{fp:List aE},RtAll K F H v t fp->Dom F H fp)/\(∀{v:List (Str×V)}{t:List (Str×T)}{fp:List aE},RtFs K F H v t fp->Dom F H fp) :=
 Rt.ind (P:=λ_ _ fp=>Dom F H fp) (Q:=λ_ _ fp=>Dom F H fp) (R:=λ_ _ fp=>Dom F H fp) (λ_=>.nil) (λh f _=>.cons h f .nil) (λh f r=>.cons h f r) (λh g f m r=>.cons h f (.cons g m r))
  (λh f _=>.cons h f .nil) (λh f _=>.cons h f .nil) (λh f r=>.cons h f r) .nil .app .nil .app
theorem Rt.dom{v:V}{t:T}(h:Rt K F H v t fp):∀a∈fp,H a≠none/\F a=none:=zb11.1 h
theorem RtAll.dom{v:List V}{t:List T}(h:RtAll K F H v t fp):∀a∈fp,H a≠none/\F a=none:=zb11.2.1 h
theorem RtFs.dom{v:List (Str×V)}{t:List (Str×T)}(h:RtFs K F H v t fp):∀a∈fp,H a≠none/\F a=none:=zb11.2.2 h
end
theorem Rt.ext{F H:Hp}{v:V}{t:T}(e:Ext F H F' H')(h:Rt K F H v t fp):Rt K F' H' v t fp :=
 h.frame e.f λa m=>by
  obtain⟨g,p⟩:=h.dom a m;cases q:H a with
 |none=>exact aL q g
 |some o=>exact⟨e.h a o q,e.nw a g p⟩
inductive Sl where
|un|sh (d:D)|ow (t:T)|bo (t:T)|io (a:aE) (t:T)
abbrev DSt:=List Sl
abbrev DE:=DSt->(D->Prop)->Prop
abbrev DF:=DSt->(List D->Prop)->Prop
abbrev DT:=DSt->(Bool->Prop)->Prop
def RSl(K:Fg)(F H:Hp)(v:Option V):Sl->Prop
|.un=>True
|.sh d=>∃x,v=some x/\Is K F x d
|.ow t=>∃x fp,v=some x/\Rt K F H x t fp/\fp.Nodup
|.bo t=>∃x fp,v=some x/\Rt K F H x t fp/\fp.Nodup
|.io a t=>∃fp,v=some (.ref a)/\Rt K F H (.ref a) t fp/\fp.Nodup
theorem RSl.ext{K:Fg}{F H p H':Hp}{v:Option V}(e:Ext F H p H'):∀{s:Sl},RSl K F H v s->RSl K p H' v s
|.un,_=>trivial
|.sh _,⟨x,a,b⟩=>⟨x,a,b.mono e.f⟩
|.ow _,⟨a,xs,o,m,g⟩=>⟨a,xs,o,m.ext e,g⟩
|.bo _,⟨a,xs,o,m,g⟩=>⟨a,xs,o,m.ext e,g⟩
|.io _ _,⟨xs,o,m,g⟩=>⟨xs,o,m.ext e,g⟩
structure RV(K:Fg)(F H:Hp)(Y:_2.St)(U:DSt):Prop where
 len:Y.length=U.length
 sl:∀i s,U[i]?=some s->RSl K F H (Y.getD i none) s
theorem RV.ext{K:Fg}{F H f H':Hp}{Y:_2.St}{U:DSt}(e:Ext F H f H')(r:RV K F H Y U):RV K f H' Y U:=⟨r.len,λi s h=>(r.sl i s h).ext e⟩
def Vw(K:Fg)(F H:Hp)(v:V)(d:D):Prop:=Is K F v d \/ ∃a xs ds,v=.ref a/\d=.list ds/\H a=some (.lst xs)/\IsAll K F xs ds
theorem Vw.ext{F H:Hp}{v:V}{d:D}(e:Ext F H F' H')(h:Vw K F H v d):Vw K F' H' v d:=by
 rcases h with h|⟨a,xs,ds,p,o,m,g⟩
 ·exact .inl (h.mono e.f)
 ·exact .inr ⟨a,xs,ds,p,o,e.h _ _ m,g.mono e.f⟩
theorem Vw.is{F H:Hp}{v:V}{d:D}(s:Same F H)(h:Vw K F H v d):Is K H v d:=by
 rcases h with h|⟨a,xs,ds,rfl,rfl,g,f⟩
 ·exact h.mono s
 ·exact .lst (SqL.of g) (f.mono s)
theorem Vw.list{K:Fg}{F H:Hp}{v:V}{ds:List D}(s:Same F H)(h:Vw K F H v (.list ds)):∃a xs,v=.ref a/\SqL K H a xs/\IsAll K F xs ds:=by
 rcases h with h|⟨a,xs,p,rfl,e,g,f⟩
 ·cases h with
 |lst o m=>exact⟨_,_,rfl,s.seq o,m⟩
 ·cases e;exact⟨a,xs,rfl,SqL.of g,f⟩
theorem Vw.tuple{K:Fg}{F H:Hp}{v:V}{ds:List D}(s:Same F H)(h:Vw K F H v (.tuple ds)):∃a xs,v=.ref a/\SqT K H a xs/\SqT K F a xs/\IsAll K F xs ds:=by
 rcases h with h|⟨a,xs,m,rfl,e,p,o⟩
 ·cases h with
 |tup f g=>exact⟨_,_,rfl,zrm s (SqT.of f),SqT.of f,g⟩
 |tuc f g _=>exact⟨_,_,rfl,zrm s f,f,g⟩
 ·cases e
theorem Vw.int{K:Fg}{F H:Hp}{v:V}{i:Int}(h:Vw K F H v (.int i)):v=.int i:=by
 rcases h with h|⟨a,xs,f,rfl,e,m,g⟩
 ·exact h.int_inv
 ·cases e
theorem Vw.str{K:Fg}{F H:Hp}{v:V}{i:Str}(h:Vw K F H v (.str i)):v=.str i:=by
 rcases h with h|⟨a,xs,f,rfl,e,m,g⟩
 ·exact h.str_inv
 ·cases e
theorem Vw.bl{K:Fg}{F H:Hp}{v:V}{i:Bool}(h:Vw K F H v (.bool i)):v=.bl i:=by
 rcases h with h|⟨a,xs,f,rfl,e,m,g⟩
 ·exact h.bl_inv
 ·cases e
section
variable (K:Fg)
def RfE(g:TE)(m:DE):Prop:=∀{F H:Hp}{Y:_2.St}{U:DSt}{Qd:D->Prop}{Q:VK},Same F H->RV K F H Y U->m U Qd->(∀d,Qd d->∀v f H',Ext F H f H'->Is K f v d->Q v H')->g Y H Q
def RfV(g:TE)(m:DE):Prop:=∀{F H:Hp}{Y:_2.St}{U:DSt}{Qd:D->Prop}{Q:VK},Same F H->RV K F H Y U->m U Qd->(∀d,Qd d->∀v f H',Ext F H f H'->Vw K f H' v d->Q v H')->g Y H Q
def RfF(g:TE)(m:DF):Prop:=∀{F H:Hp}{Y:_2.St}{U:DSt}{Qd:List D->Prop}{Q:VK},Same F H->RV K F H Y U->m U Qd->(∀ds,Qd ds->∀a xs f H',Ext F H f H'->H a=none->H' a=some (.lst xs)->f a=none->IsAll K f xs ds->Q (.ref a) H')->g Y H Q
def RfT(f:TT)(dt:DT):Prop:=∀{F H:Hp}{Y:_2.St}{U:DSt}{Qd:Bool->Prop}{Q:Bool->Hp->Prop},Same F H->RV K F H Y U->dt U Qd->(∀b,Qd b->∀g H',Ext F H g H'->Q b H')->f Y H Q
def RfA(g:TA)(m:DF):Prop:=∀{F H:Hp}{Y:_2.St}{U:DSt}{Qd:List D->Prop}{Q:List V->Hp->Prop},Same F H->RV K F H Y U->m U Qd->(∀ds,Qd ds->∀vs f H',Ext F H f H'->IsAll K f vs ds->Q vs H')->g Y H Q
inductive VwAll(F H:Hp):List V->List D->Prop
|nil:VwAll F H [] []
|cons {v:V} {d:D} {vs:List V} {ds:List D}:Vw K F H v d->VwAll F H vs ds->VwAll F H (v :: vs) (d :: ds)
def RfAV(g:TA)(m:DF):Prop:=∀{F H:Hp}{Y:_2.St}{U:DSt}{Qd:List D->Prop}{Q:List V->Hp->Prop},Same F H->RV K F H Y U->m U Qd->(∀ds,Qd ds->∀vs f H',Ext F H f H'->VwAll K f H' vs ds->Q vs H')->g Y H Q
def RfO(f:TO)(g:DSt->(Option Int->Prop)->Prop):Prop:=∀{F H:Hp}{Y:_2.St}{U:DSt}{Qd:Option Int->Prop}{Q:Option Int->Hp->Prop},Same F H->RV K F H Y U->g U Qd->(∀o,Qd o->∀m H',Ext F H m H'->Q o H')->f Y H Q
end
section
variable {K:Fg}{te ta tb tc:TE}{de da db dc:DE}{tt tu:TT}{dt du:DT}{tA:TA}{dA:DF}
theorem zvm{F H:Hp}{ds:List D}(e:Ext F H m H')(p:H a=none)(x:H' a=some (.lst xs))(u:m a=none)(q:IsAll K m xs ds) :
  Ext F H (upd m a (.lst xs)) H'/\Is K (upd m a (.lst xs)) (.ref a) (.list ds):=by
 have s:Same m (upd m a (.lst xs)):=λb o z=>by
  by_cases g:b=a
  ·subst g;rw[u]at z;cases z
  ·rw[zd1 g];exact z
 refine⟨⟨e.h,e.f.trans s,λb o z=>?_,λb g y=>?_⟩,.lst (SqL.of zq0) (q.mono s)⟩
 ·by_cases g:b=a
  ·subst g;rw[zq0]at z;cases z;exact x
  ·rw[zd1 g]at z;exact e.fh b o z
 ·have:b≠a:=λz=>g (by rw[z];exact p);rw[zd1 this];exact e.nw b g y
theorem zqd{F H:Hp}{ds:List D}(s:Same F H)(f:H p=none)(q:IsAll K F xs ds) :
  Ext F H (upd F p (.tup xs)) (upd H p (.tup xs))/\Is K (upd F p (.tup xs)) (.ref p) (.tuple ds):=by
 have fn:F p=none:=by
  cases e:F p with
 |none=>rfl
 |some o=>rw[s p o e]at f;cases f
 have m:Same F (upd F p (.tup xs)):=zw2 fn _;refine⟨⟨zw2 f _,m,λb o z=>?_,λb g u=>?_⟩,.tup zq0 (q.mono m)⟩
 ·by_cases g:b=p
  ·subst g;rw[zq0]at z ⊢;exact z
  ·rw[zd1 g]at z ⊢;exact s b o z
 ·have:b≠p:=λz=>g (by rw[z];exact f);rw[zd1 this];exact u
theorem zx7{F H:Hp}(s:Same F H)(f:H p=none):Ext F H F (upd H p (.lst xs))/\F p=none:=by
 have fn:F p=none:=by
  cases e:F p with
 |none=>rfl
 |some o=>rw[s p o e]at f;cases f
 refine⟨⟨zw2 f _,λ_ _ z=>z,λb o z=>?_,λ_ _ z=>z⟩,fn⟩;exact zw2 f _ b o (s b o z)
theorem RfE.v(h:RfE K te de):RfV K te de:=λs r d k=>h s r d λx q v f H' e i=>k x q v f H' e (.inl i)
def dF(f:DF):DE:=λU Q=>f U λds=>Q (.list ds)
theorem RfF.e{f:DF}(h:RfF K te f):RfE K te (dF f):=λs r d k=>h s r d λds q a xs y H' e m u p o=>by
 obtain⟨x,g⟩:=zvm e m u p o;exact k _ q _ _ _ x g
def Sl.tree:Sl->Option T
|.ow t=>some t
|.bo t=>some t
|.io _ t=>some t
|.sh d=>some (.fz d)
|.un=>none
def fzT:T->(D->Prop)->Prop
|.fz d,Q=>Q d
|_,_=>False
def vwT:T->(D->Prop)->Prop
|.fz d,Q=>Q d
|.li ds,Q=>Q (.list ds)
|_,_=>False
def slT:Sl->(T->Prop)->Prop
|.sh d,N=>N (.fz d)
|.ow t,N=>N t
|.bo t,N=>N t
|.io _ t,N=>N t
|.un,_=>False
def pAt:DSt->Nat->(T->Prop)->Prop
|[],_,_=>False
|s :: _,0,N=>slT s N
|_ :: U,i+1,N=>pAt U i N
theorem zsc1{s:Sl}{N:T->Prop}(h:slT s N):∃t,s.tree=some t/\N t:=by
 cases s with
|un=>exact h.elim
|sh d=>exact⟨_,rfl,h⟩
|ow t=>exact⟨_,rfl,h⟩
|bo t=>exact⟨_,rfl,h⟩
|io a t=>exact⟨_,rfl,h⟩
theorem zhv{N:T->Prop}:∀{U:DSt}{i:Nat},pAt U i N->∃s t,U[i]?=some s/\s.tree=some t/\N t
|s :: _,0,h=>by
  obtain⟨t,g,f⟩:=zsc1 h;exact⟨s,t,rfl,g,f⟩
|_ :: U,i+1,h=>zhv (U:=U) (i:=i) h
def dVar(i:Nat):DE:=λU Q=>pAt U i λt=>fzT t Q
def zx0(i:Nat):DE:=λU Q=>pAt U i λt=>vwT t Q
theorem zub{F H:Hp}{Y:_2.St}{U:DSt}{i:Nat}(e:Y.getD i none=some x):Y[i]?=some (some x):=by
 rw[v4]at e;cases q:Y[i]? with
|none=>rw[q]at e;cases e
|some v=>rw[q]at e;exact congrArg some e
theorem RSl.rt{F H:Hp}{v:Option V}:∀{s:Sl}{t:T},RSl K F H v s->s.tree=some t->∃x fp,v=some x/\Rt K F H x t fp/\fp.Nodup
|.un,_,_,e=>by cases e
|.sh d,_,⟨x,g,f⟩,e=>by cases e;exact⟨x,[],g,.fz f,.nil⟩
|.ow _,_,⟨x,fp,g,f⟩,e=>by cases e;exact⟨x,fp,g,f⟩
|.bo _,_,⟨x,fp,g,f⟩,e=>by cases e;exact⟨x,fp,g,f⟩
|.io a _,_,⟨fp,g,f⟩,e=>by cases e;exact⟨_,fp,g,f⟩
theorem zug1{F H:Hp}{t:T}{Q:D->Prop}(h:Rt K F H x t fp)(q:vwT t Q):∃d,Q d/\Vw K F H x d:=by
 cases h with
|fz i=>exact⟨_,q,.inl i⟩
|li g m f=>exact⟨_,q,.inr ⟨_,_,_,rfl,rfl,g,f⟩⟩
|ls _ _ _=>exact q.elim
|ob _ _ _ _ _=>exact q.elim
|dk _ _ _=>exact q.elim
|dt _ _ _=>exact q.elim
|tp _ _ _=>exact q.elim
theorem zo71{F H:Hp}{t:T}{Q:D->Prop}(h:Rt K F H x t fp)(q:fzT t Q):∃d,Q d/\Is K F x d:=by
 cases h with
|fz i=>exact⟨_,q,i⟩
|li _ _ _=>exact q.elim
|ls _ _ _=>exact q.elim
|ob _ _ _ _ _=>exact q.elim
|dk _ _ _=>exact q.elim
|dt _ _ _=>exact q.elim
|tp _ _ _=>exact q.elim
theorem zi0(i:Nat):RfE K (tVar i) (dVar i):=by
 walk_at"25";obtain⟨sl,t,q,m,f⟩:=zhv h;obtain⟨x,fp,e,hr,_⟩:=(r.sl i _ q).rt m;obtain⟨d,g,hi⟩:=zo71 hr f;exact⟨x,zub (F:=F) (H:=H) (U:=U) e,k d g x F H (Ext.refl s) hi⟩
theorem zb0(i:Nat):RfV K (tVar i) (zx0 i):=by
 walk_at"25";obtain⟨sl,t,q,m,f⟩:=zhv h;obtain⟨x,fp,e,hr,_⟩:=(r.sl i _ q).rt m;obtain⟨d,g,hi⟩:=zug1 hr f;exact⟨x,zub (F:=F) (H:=H) (U:=U) e,k d g x F H (Ext.refl s) hi⟩
def dC(d:D):DE:=λ_ Q=>Q d
theorem zn1{i:Int}:RfE K (tC (.int i)) (dC (.int i)):=λs r h k=>k _ h _ _ _ (Ext.refl s) (.int i)
theorem zcm{b:Bool}:RfE K (tC (.bl b)) (dC (.bool b)):=λs r h k=>k _ h _ _ _ (Ext.refl s) (.bl b)
theorem zf5{x:Str}:RfE K (tC (.str x)) (dC (.str x)):=λs r h k=>k _ h _ _ _ (Ext.refl s) (.str x)
theorem zyf:RfE K (tC .non) (dC .none):=λs r h k=>k _ h _ _ _ (Ext.refl s) .non
def dOp(f:D->D->(D->Prop)->Prop)(da db:DE):DE:=λU Q=>da U λx=>db U λy=>f x y Q
def R2E(K:Fg)(r:R2)(f:D->D->(D->Prop)->Prop):Prop:=∀{F H:Hp}{x y:V}{d e:D}{Qd:D->Prop}{Q:VK},Same F H->Vw K F H x d->Vw K F H y e->f d e Qd->(∀z,Qd z->∀v g H',Ext F H g H'->Is K g v z->Q v H')->r x y H Q
def R2F(K:Fg)(r:R2)(f:D->D->(List D->Prop)->Prop):Prop:=∀{F H:Hp}{x y:V}{d e:D}{Qd:List D->Prop}{Q:VK},Same F H->Vw K F H x d->Vw K F H y e->f d e Qd->(∀ds,Qd ds->∀a xs g H',Ext F H g H'->H a=none->H' a=some (.lst xs)->g a=none->IsAll K g xs ds->Q (.ref a) H')->r x y H Q
theorem zk0{r:R2}{f:D->D->(D->Prop)->Prop}(hr:R2E K r f)(I:RfV K ta da)(G:RfV K tb db):RfE K (tOp r ta tb) (dOp f da db):=by
 walk_at"0";refine I s rv h λx C v O N m q=>G m.fh (rv.ext m) C λy B u F2 H2 g p=>?_;exact hr g.fh (q.ext g) p B λz hz w M L J o=>k z hz w M L ((m.trans g).trans J) o
end
variable {C a dx:aE}{E:XK}{H':Hp}{K:Fg}{N:DSt->Prop}{U U':DSt}{df di:DF}{f m qual:Str}{fn fp fpr:List aE}{fps:Nat->List aE}{g:Int->Int->V}{gs:TGs}{i n:Nat}{ix:List Nat}{kv x y:V}{neg:Bool}{o:HO}{ps:List Str}{st:dR}{vs xs:List V}
section
variable {K:Fg}{te ta tb tc:TE}{de da db dc:DE}{tt tu:TT}{dt du:DT}{tA:TA}{dA:DF}{w:aP}
def fAdd:D->D->(D->Prop)->Prop
|.int i,.int j,Q=>Q (.int (i+j))
|.str a,.str b,Q=>a.length+b.length<=sizeLine/\Q (.str (a++b))
|.list a,.list b,Q=>a.length+b.length<=sizeLine/\Q (.list (a++b))
|.tuple a,.tuple b,Q=>a≠[]/\b≠[]/\a.length+b.length<=sizeLine/\Q (.tuple (a++b))
|_,_,_=>False
def fCat:D->D->(List D->Prop)->Prop
|.list a,.list b,Q=>a.length+b.length<=sizeLine/\Q (a++b)
|_,_,_=>False
theorem zqi1:R2F K (zxd1 K) fCat:=by
 walk_at"30";unfold fCat at h;cases d <;> first|exact h.elim|skip
 all_goals cases e <;> first|exact h.elim|skip
 ·rename_i a b
  obtain⟨p,xs,rfl,J,z⟩:=G.list s;obtain⟨q,ys,rfl,I,u⟩:=B.list s;have M:=z.dlen;have L:=u.dlen;refine .inr ⟨p,q,xs,ys,rfl,rfl,J,I,by lia,λl hl=>?_⟩;obtain⟨ex,fn⟩:=zx7 (xs:=xs++ys) s hl;exact k _ h.2 l _ F _ ex hl zq0 fn (z.dapp u)
theorem zg8:R2E K (zxd1 K) fAdd:=by
 walk_at"30";unfold fAdd at h;cases d <;> first|exact h.elim|skip
 all_goals cases e <;> first|exact h.elim|skip
 ·cases G.int;cases B.int;exact .inl (.inl ⟨_,_,rfl,rfl,k _ h _ F H (Ext.refl s) (.int _)⟩)
 ·cases G.str;cases B.str;exact .inl (.inr (.inl ⟨_,_,rfl,rfl,h.1,k _ h.2 _ F H (Ext.refl s) (.str _)⟩))
 ·rename_i a b
  refine zqi1 (Qd:=λds=>Qd (.list ds)) s G B h λds q l xs F' H' ex W J I Y=>?_;obtain⟨L,u⟩:=zvm ex W J I Y;exact k _ q _ _ _ L u
 ·rename_i a b
  obtain⟨p,xs,rfl,J,_,M⟩:=G.tuple s;obtain⟨q,ys,rfl,I,_,u⟩:=B.tuple s;have Z:=M.dlen;have L:=u.dlen;have O:xs≠[]:=λz=>h.1 (ua1.mp (by rw[<- Z,z];rfl));have n2:ys≠[]:=λz=>h.2.1 (ua1.mp (by rw[<- L,z];rfl));refine .inl (.inr (.inr (.inr ⟨p,q,xs,ys,rfl,rfl,J,I,O,by lia,λz=>aL z n2,λ_ l hl=>?_⟩)));obtain⟨ex,S⟩:=zqd (K:=K) (ds:=a++b) s hl (M.dapp u);exact k _ h.2.2.2 _ _ _ ex S
def fI(C:Int->Int->Prop)(g:Int->Int->D):D->D->(D->Prop)->Prop
|.int i,.int j,Q=>C i j/\Q (g i j)
|_,_,_=>False
def fI0(g:Int->Int->D):D->D->(D->Prop)->Prop
|.int i,.int j,Q=>Q (g i j)
|_,_,_=>False
theorem r_I{C:Int->Int->Prop}{g':Int->Int->D}(u:∀i j (F:Hp),Is K F (g i j) (g' i j)):R2E K (rI C g) (fI C g'):=by
 walk_at"6";unfold fI at h;cases d <;> first|exact h.elim|skip
 all_goals cases e <;> first|exact h.elim|skip
 ·cases q.int;cases p.int;exact⟨_,_,rfl,rfl,h.1,k _ h.2 _ F H (Ext.refl s) (u _ _ _)⟩
theorem r_I0{g':Int->Int->D}(u:∀i j (F:Hp),Is K F (g i j) (g' i j)):R2E K (rI0 g) (fI0 g'):=by
 walk_at"6";unfold fI0 at h;cases d <;> first|exact h.elim|skip
 all_goals cases e <;> first|exact h.elim|skip
 ·cases q.int;cases p.int;exact⟨_,_,rfl,rfl,k _ h _ F H (Ext.refl s) (u _ _ _)⟩
abbrev fSub:=fI0 λi j=>.int (i - j)
abbrev fDiv:=fI zr51 λi j=>.int (i / j)
abbrev fMod:=fI (λ_ j=>0 < j) λi j=>.int (i % j)
abbrev fPow:=fI CPow λi j=>.int (i ^ j.toNat)
abbrev fLt:=fI0 λi j=>.bool (decide (i < j))
abbrev fLe:=fI0 λi j=>.bool (decide (i<=j))
abbrev fGt:=fI0 λi j=>.bool (decide (j < i))
abbrev fGe:=fI0 λi j=>.bool (decide (j<=i))
theorem zyl:R2E K (rI0 λi j=>V.int (i - j)) fSub:=r_I0 λ_ _ _=>.int _
theorem znh:R2E K (rI zr51 λi j=>V.int (i / j)) fDiv:=r_I λ_ _ _=>.int _
theorem zxa:R2E K (rI (λ_ j=>0 < j) λi j=>V.int (i % j)) fMod:=r_I λ_ _ _=>.int _
theorem ze81:R2E K (rI CPow λi j=>V.int (i ^ j.toNat)) fPow:=r_I λ_ _ _=>.int _
theorem r_lt:R2E K (rI0 λi j=>V.bl (decide (i < j))) fLt:=r_I0 λ_ _ _=>.bl _
theorem r_le:R2E K (rI0 λi j=>V.bl (decide (i<=j))) fLe:=r_I0 λ_ _ _=>.bl _
theorem r_gt:R2E K (rI0 λi j=>V.bl (decide (j < i))) fGt:=r_I0 λ_ _ _=>.bl _
theorem r_ge:R2E K (rI0 λi j=>V.bl (decide (j<=i))) fGe:=r_I0 λ_ _ _=>.bl _
def fMul:D->D->(D->Prop)->Prop
|.int i,.int j,Q=>CMul i j/\Q (.int (i * j))
|.str z,.int n,Q=>0<=n/\z.length * n.toNat<=sizeLine/\n<=sizeLine/\Q (.str (repS z n.toNat))
|_,_,_=>False
theorem zi21:R2E K zoe1 fMul:=by
 walk_at"6";unfold fMul at h;cases d <;> first|exact h.elim|skip
 all_goals cases e <;> first|exact h.elim|skip
 ·cases q.int;cases p.int;exact .inl (.inl (.inl ⟨_,_,rfl,rfl,h.1,k _ h.2 _ F H (Ext.refl s) (.int _)⟩))
 ·cases q.str;cases p.int;exact .inl (.inr ⟨_,_,rfl,rfl,h.1,h.2.1,h.2.2.1,k _ h.2.2.2 _ F H (Ext.refl s) (.str _)⟩)
def fRep:List D->D->(List D->Prop)->Prop
|ds,.int n,Q=>n < 2 ^ 62/\-(2 ^ 62)<=n/\ds.length * n.toNat<=sizeLine/\Q (vY n.toNat ds).flatten
|_,_,_=>False
def dRep(df:DF)(db:DE):DF:=λU Q=>df U λds=>db U λy=>fRep ds y Q
theorem zhy{F:Hp}{xs:List V}{ds:List D}(h:IsAll K F xs ds):∀n:Nat,IsAll K F (vY n xs).flatten (vY n ds).flatten
|0=>.nil
|n+1=>by rw[yV,yV,y4,y4];exact h.dapp (zhy h n)
theorem zm81(S:RfF K ta df)(O:RfE K tb db):RfF K (tOp zoe1 ta tb) (dRep df db):=by
 walk_at"0";refine S s rv h λds M a xs F1 H1 G hn W h2 J=>O G.fh (rv.ext G) M λy z u F2 H2 B L=>?_;unfold fRep at z;split at z
 ·rename_i n
  cases L.int_inv;have Z:=J.dlen;refine .inr ⟨a,n,xs,rfl,rfl,B.h _ _ W,by lia,by lia,by rw[Z];exact z.2.2.1,λp I=>?_⟩;obtain⟨ex,fn⟩:=zx7 (xs:=(vY n.toNat xs).flatten) B.fh I;refine k _ z.2.2.2 p _ F2 _ ((G.trans B).trans ex) ?_ zq0 fn (zhy (J.mono B.f) _);cases q:H p with
 |none=>rfl
 |some o=>rw[(G.trans B).h p o q]at I;cases I
 ·exact z.elim
def fEq:D->D->(D->Prop)->Prop
|.int i,.int j,Q=>Q (.bool (decide (i=j)))
|.str i,.str j,Q=>Q (.bool (decide (i=j)))
|.bool i,.bool j,Q=>Q (.bool (decide (i=j)))
|d,e,Q=>bD d=true/\bD e=true/\Q (.bool (y6 d e))
def fNe:D->D->(D->Prop)->Prop
|.int i,.int j,Q=>Q (.bool (!decide (i=j)))
|.str i,.str j,Q=>Q (.bool (!decide (i=j)))
|.bool i,.bool j,Q=>Q (.bool (!decide (i=j)))
|d,e,Q=>bD d=true/\bD e=true/\Q (.bool (!PyData.eqv d e))
theorem zpg(i j:Int):decide (V.int i=V.int j)=decide (i=j):=by simp
theorem zbh(i j:Str):decide (V.str i=V.str j)=decide (i=j):=by simp
theorem zmt(i j:Bool):decide (V.bl i=V.bl j)=decide (i=j):=by simp
def zwu:D->Bool
|.none=>true
|_=>false
def fIsN:D->D->(D->Prop)->Prop
|d,.none,Q=>Q (.bool (zwu d))
|_,_,_=>False
def zkb1:D->D->(D->Prop)->Prop
|d,.none,Q=>Q (.bool (!zwu d))
|_,_,_=>False
theorem zg61{F H:Hp}{d:D}(s:Same F H)(p:Vw K F H x d):decide (x=.non)=zwu d:=by
 cases p.is s <;> simp[zwu]
theorem zxa1{F H:Hp}(s:Same F H)(p:Vw K F H x .none):x=.non:=by
 cases p.is s;rfl
theorem zlj1:R2E K (λx y H Q=>y=V.non/\Q (V.bl (decide (x=V.non))) H) fIsN:=by
 walk_at"6";unfold fIsN at h;split at h
 ·refine⟨zxa1 s p,k _ h _ F H (Ext.refl s) ?_⟩;rw[zg61 s q];exact .bl _
 ·exact h.elim
theorem zyz:R2E K (λx y H Q=>y=V.non/\Q (V.bl (!decide (x=V.non))) H) zkb1:=by
 walk_at"6";unfold zkb1 at h;split at h
 ·refine⟨zxa1 s p,k _ h _ F H (Ext.refl s) ?_⟩;rw[zg61 s q];exact .bl _
 ·exact h.elim
def fIx:D->D->(D->Prop)->Prop
|.list ds,.int i,Q=>∃d,atI ds i=some d/\Q d
|.tuple ds,.int i,Q=>∃d,atI ds i=some d/\Q d
|.str z,.int i,Q=>z.length<=sizeLine/\∃c,atI z.cps.toList i=some c/\Q (.str ⟨#[c]⟩)
|_,_,_=>False
theorem zy81{F:Hp}{ds:List D}{i:Int}{d:D}(h:IsAll K F xs ds)(e:atI ds i=some d):∃x,atI xs i=some x/\Is K F x d:=by
 unfold atI at e ⊢;rw[h.dlen];cases q:ixN ds.length i with
|none=>rw[q]at e;cases e
|some j =>
  rw[q]at e;obtain⟨x,u,p⟩:=h.dget (show ds[j]?=some d from e);exact⟨x,u,p⟩
theorem r_ix:R2E K (rIxV w K) fIx:=by
 intro F H x y d e Qd Q s I G h k;unfold fIx at h;cases d <;> first|exact h.elim|skip
 all_goals cases e <;> first|exact h.elim|skip
 ·obtain⟨hz,c,O,q⟩:=h;cases I.str;cases G.int;exact .inl (.inl (.inr (.inr ⟨_,_,c,rfl,rfl,hz,O,k _ q _ F H (Ext.refl s) (.str _)⟩)))
 ·obtain⟨z,L,q⟩:=h;obtain⟨p,xs,rfl,J,B⟩:=I.list s;cases G.int;obtain⟨v,M,u⟩:=zy81 B L;exact .inl (.inl (.inl ⟨p,xs,_,v,rfl,rfl,J,M,k _ q _ F H (Ext.refl s) u⟩))
 ·obtain⟨z,L,q⟩:=h;obtain⟨p,xs,rfl,J,_,B⟩:=I.tuple s;cases G.int;obtain⟨v,M,u⟩:=zy81 B L;exact .inl (.inl (.inr (.inl ⟨p,xs,_,v,rfl,rfl,J,M,k _ q _ F H (Ext.refl s) u⟩)))
def zwc:D->Bool
|.none=>true
|.bool _=>true
|.int _=>true
|.str _=>true
|_=>false
def eqF:D->D->Bool
|.none,.none=>true
|.bool a,.bool b=>a == b
|.bool a,.int b=>(if a then 1 else 0) == b
|.int a,.bool b=>a == (if b then 1 else 0)
|.int a,.int b=>a == b
|.str a,.str b=>a == b
|_,_=>false
theorem zop{F:Hp}{d:D}(h:Is K F x d)(f:zwc d=true):zvt x=true:=by
 cases h <;> first|rfl|exact aL f (by simp[zwc])
theorem zmi{F:Hp}:∀{xs:List V}{ds:List D},IsAll K F xs ds->ds.all zwc=true->xs.all zvt=true
|_,_,.nil,_=>rfl
|_,_,.cons h r,f=>by
  rw[zJ,yA]at f ⊢;exact⟨zop h f.1,zmi r f.2⟩
theorem zr91{F:Hp}{d e:D}(h:Is K F x d)(h':Is K F y e)(f:zwc d=true)(g:zwc e=true):eqV x y=eqF d e:=by
 cases h <;> cases h' <;> first|rfl|exact aL f (by simp[zwc])|exact aL g (by simp[zwc])
theorem zxr{F:Hp}{x:V}{d:D}(p:Is K F x d)(f:zwc d=true):∀{xs:List V}{ds:List D},IsAll K F xs ds->ds.all zwc=true->inV x xs=ds.any λy=>eqF y d
|_,_,.nil,_=>rfl
|_,_,.cons h r,g=>by
  rw[zJ,yA]at g;unfold inV;rw[xY,xY,zr91 h p g.1 f];congr 1;exact zxr p f r g.2
def fIn(neg:Bool):D->D->(D->Prop)->Prop
|d,.list ds,Q=>zwc d=true/\ds.all zwc=true/\Q (.bool (if neg then !(ds.any λy=>eqF y d)else ds.any λy=>eqF y d))
|d,.tuple ds,Q=>zwc d=true/\ds.all zwc=true/\Q (.bool (if neg then !(ds.any λy=>eqF y d)else ds.any λy=>eqF y d))
|.str c,.str z,Q=>∃n,c=⟨#[n]⟩/\Q (.bool (if neg then !decide (n∈z.cps.toList)else decide (n∈z.cps.toList)))
|_,_,_=>False
theorem zby{F H:Hp}{d e:D}{Qd:D->Prop}{Q:VK}(s:Same F H)(G:Vw K F H x d)(B:Vw K F H y e)(h:fIn neg d e Qd)(k:∀z,Qd z->∀v J H',Ext F H J H'->Is K J v z->Q v H') :
  rIn K neg x y H Q \/ ∃c z,x=.str ⟨#[c]⟩/\y=.str z/\Q (.bl (if neg then !decide (c∈z.cps.toList)else decide (c∈z.cps.toList))) H:=by
 unfold fIn at h;split at h
 ·obtain⟨f,g,q⟩:=h;obtain⟨p,xs,rfl,I,u⟩:=B.list s;have ix:=G.is s;refine .inl ⟨p,xs,rfl,.inl I,zop ix f,zmi (u.mono s) g,?_⟩;rw[zxr ix f (u.mono s) g];exact k _ q _ F H (Ext.refl s) (.bl _)
 ·obtain⟨f,g,q⟩:=h;obtain⟨p,xs,rfl,I,_,u⟩:=B.tuple s;have ix:=G.is s;refine .inl ⟨p,xs,rfl,.inr I,zop ix f,zmi (u.mono s) g,?_⟩;rw[zxr ix f (u.mono s) g];exact k _ q _ F H (Ext.refl s) (.bl _)
 ·obtain⟨n,rfl,q⟩:=h;cases G.str;cases B.str;exact .inr ⟨n,_,rfl,rfl,k _ q _ F H (Ext.refl s) (.bl _)⟩
 ·exact h.elim
theorem r_in:R2E K (rInV w K) (fIn false):=by
 walk_at"31";rcases zby s u p h k with z|⟨c,z,G,B,q⟩
 ·exact .inl (.inl (.inl z))
 ·exact .inl (.inl (.inr ⟨c,z,G,B,q⟩))
theorem znx:R2E K (zit w K) (fIn true):=by
 walk_at"31";rcases zby s u p h k with z|⟨c,z,G,B,q⟩
 ·exact .inl (.inl (.inl z))
 ·exact .inl (.inl (.inr ⟨c,z,G,B,q⟩))
def dUn(f:D->(D->Prop)->Prop)(da:DE):DE:=λU Q=>da U λx=>f x Q
def fNeg:D->(D->Prop)->Prop
|.int i,Q=>Q (.int (-i))
|_,_=>False
theorem zke1(u:RfE K ta da):RfE K (tUn (rU λi=>V.int (-i)) ta) (dUn fNeg da):=by
 walk_at"0";refine u s rv h λx p v G B z q=>?_;unfold fNeg at p;split at p
 ·cases q.int_inv;exact⟨_,rfl,k _ p _ G B z (.int _)⟩
 ·exact p.elim
def fB(d:D)(Q:Bool->Prop):Prop:=match d with
|.bool b=>Q b
|_=>False
theorem znf1{F:Hp}{v:V}{d:D}{Q:Bool->Prop}(i:Is K F v d)(h:fB d Q):∃b,v=.bl b/\Q b:=by
 unfold fB at h;split at h
 ·exact⟨_,i.bl_inv,h⟩
 ·exact h.elim
def zbg1(da:DE):DE:=λU Q=>da U λx=>fB x λb=>Q (.bool (!b))
theorem zpa1(z:RfE K ta da):RfE K (zrh1 ta) (zbg1 da):=by
 walk_at"0";refine z s rv h λx u v I G B p=>?_;obtain⟨b,rfl,q⟩:=znf1 p u;exact⟨b,rfl,k _ q _ I G B (.bl _)⟩
def zag1(da db:DE):DE:=λU Q=>da U λx=>fB x λb=>if b=true then db U Q else Q (.bool false)
theorem zon(L:RfE K ta da)(J:RfE K tb db):RfE K (zdi1 ta tb) (zag1 da db):=by
 walk_at"0";refine L s rv h λx I v S O p B=>?_;obtain⟨b,rfl,q⟩:=znf1 B I;refine⟨b,rfl,?_⟩;cases b with
|true =>
  rw[aH rfl]at q ⊢;exact J p.fh (rv.ext p) q λy G u F2 H2 M z=>k y G u F2 H2 (p.trans M) z
|false =>
  rw[aF wA]at q ⊢;exact k _ q _ S O p (.bl _)
def ze8(de:DE):DT:=λU Q=>de U λd=>fB d Q
theorem zr0(h:RfE K te de):RfT K (zx61 te) (ze8 de):=by
 walk_at"2";refine h s rv hd λx u v G B z p=>?_;obtain⟨b,rfl,q⟩:=znf1 p u;exact⟨b,rfl,k b q G B z⟩
def fTru:D->(Bool->Prop)->Prop
|.none,Q=>Q false
|.bool b,Q=>Q b
|.int i,Q=>Q (i != 0)
|.str z,Q=>z.length<=sizeLine/\Q ((z.length:Int) != 0)
|.list ds,Q=>Q (!ds.isEmpty)
|.tuple ds,Q=>Q (!ds.isEmpty)
|.dict _,_=>False
def dTru(de:DE):DT:=λU Q=>de U λd=>fTru d Q
theorem zrl{F:Hp}{ds:List D}(h:IsAll K F xs ds):xs.isEmpty=ds.isEmpty:=by cases h <;> rfl
theorem zi8(h:RfV K te de):RfT K (zxg1 K te) (dTru de):=by
 walk_at"2";refine h s rv hd λx q v G B u z=>?_;unfold fTru at q;split at q
 ·cases z.is u.fh;exact⟨false,rfl,k _ q G B u⟩
 ·cases z.bl;exact⟨_,rfl,k _ q G B u⟩
 ·cases z.int;exact⟨_,rfl,k _ q G B u⟩
 ·cases z.str;exact⟨_,⟨q.1,rfl⟩,k _ q.2 G B u⟩
 ·obtain⟨p,xs,rfl,J,I⟩:=z.list u.fh;refine⟨_,.inl ⟨xs,J,rfl⟩,?_⟩;rw[zrl I];exact k _ q G B u
 ·obtain⟨p,xs,rfl,J,_,I⟩:=z.tuple u.fh;refine⟨_,.inr (.inl ⟨xs,J,rfl⟩),?_⟩;rw[zrl I];exact k _ q G B u
 ·exact q.elim
def dAnd(dt du:DT):DT:=λU Q=>dt U λb=>if b=true then du U Q else Q false
def dOr(dt du:DT):DT:=λU Q=>dt U λb=>if b=true then Q true else du U Q
def dNot(dt:DT):DT:=λU Q=>dt U λb=>Q (!b)
theorem zlr(z:RfT K tt dt)(u:RfT K tu du):RfT K (tAnd tt tu) (dAnd dt du):=by
 walk_at"0";refine z s rv h λb p J I q=>?_;cases b with
|true =>
  rw[aH rfl]at p ⊢;exact u q.fh (rv.ext q) p λc B F2 H2 G=>k c B F2 H2 (q.trans G)
|false =>
  rw[aF wA]at p ⊢;exact k _ p J I q
theorem zvg(z:RfT K tt dt)(u:RfT K tu du):RfT K (tOr tt tu) (dOr dt du):=by
 walk_at"0";refine z s rv h λb p J I q=>?_;cases b with
|false =>
  rw[aF wA]at p ⊢;exact u q.fh (rv.ext q) p λc B F2 H2 G=>k c B F2 H2 (q.trans G)
|true =>
  rw[aH rfl]at p ⊢;exact k _ p J I q
theorem zxb(p:RfT K tt dt):RfT K (tNot tt) (dNot dt):=λs rv h k=>p s rv h λb q B z u=>k _ q B z u
def dIfE(dt:DT)(da db:DE):DE:=λU Q=>dt U λb=>if b=true then da U Q else db U Q
theorem zy21(I:RfT K tt dt)(L:RfE K ta da)(J:RfE K tb db):RfE K (tIf tt ta tb) (dIfE dt da db):=by
 walk_at"0";refine I s rv h λb p O M q=>?_;cases b with
|true =>
  rw[aH rfl]at p ⊢;exact L q.fh (rv.ext q) p λy B u F2 H2 G z=>k y B u F2 H2 (q.trans G) z
|false =>
  rw[aF wA]at p ⊢;exact J q.fh (rv.ext q) p λy B u F2 H2 G z=>k y B u F2 H2 (q.trans G) z
def dNil:DF:=λ_ Q=>Q []
def zw0(da:DE)(p:DF):DF:=λU Q=>da U λx=>p U λxs=>Q (x :: xs)
theorem zm0:RfA K tNil dNil:=λs rv h k=>k _ h _ _ _ (Ext.refl s) .nil
theorem zc0(I:RfE K ta da)(hr:RfA K tA dA):RfA K (zdm ta tA) (zw0 da dA):=by
 walk_at"0";refine I s rv h λx G v L J p B=>hr p.fh (rv.ext p) G λxs q vs F2 H2 u z=>?_;exact k _ q _ F2 H2 (p.trans u) (.cons (B.mono u.f) z)
theorem ze1:RfAV K tNil dNil:=λs rv h k=>k _ h _ _ _ (Ext.refl s) .nil
theorem zo0(I:RfV K ta da)(hr:RfAV K tA dA):RfAV K (zdm ta tA) (zw0 da dA):=by
 walk_at"0";refine I s rv h λx G v L J p B=>hr p.fh (rv.ext p) G λxs q vs F2 H2 u z=>?_;exact k _ q _ F2 H2 (p.trans u) (.cons (B.ext u) z)
def dTup(dA:DF):DE:=λU Q=>dA U λxs=>xs.length<=sizeLine/\Q (.tuple xs)
theorem zt2(h:RfA K tA dA):RfE K (zeh1 tA) (dTup dA):=by
 walk_at"2";refine h s rv hd λxs u vs J I z q=>⟨by rw[q.dlen];exact u.1,λp G=>?_⟩
 obtain⟨ex,B⟩:=zqd (K:=K) z.fh G q;exact k _ u.2 _ _ _ (z.trans ex) B
def dLst(dA:DF):DF:=λU Q=>dA U λxs=>xs.length<=sizeLine/\Q xs
theorem zb8(h:RfA K tA dA):RfF K (zjg1 tA) (dLst dA):=by
 walk_at"2";refine h s rv hd λxs G vs I J z B=>⟨by rw[B.dlen];exact G.1,λp u=>?_⟩
 obtain⟨ex,fn⟩:=zx7 (xs:=vs) z.fh u;refine k _ G.2 p vs I _ (z.trans ex) ?_ zq0 fn B;cases q:H p with
|none=>rfl
|some o=>rw[z.h p o q]at u;cases u
abbrev DSp:=List D->(D->Prop)->Prop
def spD(K:Fg)(p:DSp):Sp:=λvs H Q _=>∃F ds Qd,Same F H/\IsAll K F vs ds/\p ds Qd/\∀d,Qd d->∀v q H',Ext F H q H'->Is K q v d->Q v H'
def zga(p:DSp)(dA:DF):DE:=λU Q=>dA U λds=>p ds Q
theorem zu0{p:DSp}(h:RfA K tA dA):RfE K (zq51 (spD K p) [] E tA) (zga p dA):=by
 walk_at"2";refine h s rv hd λds G vs J M u B=>?_;rw[wS];exact⟨J,ds,Qd,u.fh,B,G,λd q v L H' I z=>k d q v L H' (u.trans I) z⟩
def CB(K:Fg)(r:List V->Hp->VK->Prop)(f:List D->(D->Prop)->Prop):Prop:=∀{F H:Hp}{vs:List V}{ds:List D}{Qd:D->Prop}{Q:VK},Same F H->VwAll K F H vs ds->f ds Qd->(∀z,Qd z->∀v p H',Ext F H p H'->Is K p v z->Q v H')->r vs H Q
def CF(K:Fg)(r:List V->Hp->VK->Prop)(f:List D->(List D->Prop)->Prop):Prop:=∀{F H:Hp}{vs:List V}{ds:List D}{Qd:List D->Prop}{Q:VK},Same F H->VwAll K F H vs ds->f ds Qd->(∀z,Qd z->∀a xs p H',Ext F H p H'->H a=none->H' a=some (.lst xs)->p a=none->IsAll K p xs z->Q (.ref a) H')->r vs H Q
def dCB(f:List D->(D->Prop)->Prop)(dA:DF):DE:=λU Q=>dA U λds=>f ds Q
def dCF(f:List D->(List D->Prop)->Prop)(dA:DF):DF:=λU Q=>dA U λds=>f ds Q
theorem zl5{r:List V->Hp->VK->Prop}{f:List D->(D->Prop)->Prop}(hr:CB K r f)(h:RfAV K tA dA):RfE K (tCB r tA) (dCB f dA):=by
 walk_at"2";refine h s rv hd λds G vs M L p B=>hr p.fh B G λz q v J H' I u=>k z q v J H' (p.trans I) u
theorem zm01{r:List V->Hp->VK->Prop}{f:List D->(List D->Prop)->Prop}(hr:CF K r f)(h:RfAV K tA dA):RfF K (tCB r tA) (dCF f dA):=by
 walk_at"2";refine h s rv hd λds G vs W S p B=>hr p.fh B G λz q a xs O H' M u L J I=>k z q a xs O H' (p.trans M) ?_ L J I;cases z:H a with
|none=>rfl
|some o=>rw[p.h a o z]at u;cases u
theorem vw1{F H:Hp}{d:D}(h:VwAll K F H vs [d]):∃v,vs=[v]/\Vw K F H v d:=by
 cases h with
|cons h r=>cases r;exact⟨_,rfl,h⟩
theorem vw2{F H:Hp}{d e:D}(h:VwAll K F H vs [d,e]):∃v u,vs=[v,u]/\Vw K F H v d/\Vw K F H u e:=by
 cases h with
|cons h r=>obtain⟨u,rfl,p⟩:=vw1 r;exact⟨_,u,rfl,h,p⟩
def fLen:List D->(D->Prop)->Prop
|[.list ds],Q=>Q (.int (ds.length:Nat))
|[.tuple ds],Q=>Q (.int (ds.length:Nat))
|[.str z],Q=>z.length<=sizeLine/\Q (.int (z.length:Nat))
|_,_=>False
theorem zvc:CB K (rLen K) fLen:=by
 intro F H vs ds Qd Q s u h k;unfold fLen at h;rcases ds with _|⟨d,_|⟨e,r⟩⟩
 all_goals first|exact h.elim|(cases d <;> first|exact h.elim|skip)
 ·obtain⟨v,rfl,hw⟩:=vw1 u;cases hw.str;exact⟨_,_,rfl,⟨h.1,rfl⟩,k _ h.2 _ F H (Ext.refl s) (.int _)⟩
 ·obtain⟨v,rfl,hw⟩:=vw1 u;obtain⟨p,xs,rfl,z,q⟩:=hw.list s;refine⟨_,_,rfl,.inl ⟨xs,z,rfl⟩,?_⟩;rw[q.dlen];exact k _ h _ F H (Ext.refl s) (.int _)
 ·obtain⟨v,rfl,hw⟩:=vw1 u;obtain⟨p,xs,rfl,z,_,q⟩:=hw.tuple s;refine⟨_,_,rfl,.inr ⟨xs,z,rfl⟩,?_⟩;rw[q.dlen];exact k _ h _ F H (Ext.refl s) (.int _)
def zje1:List D->(D->Prop)->Prop
|[.int i,.int j],Q=>Q (.int (if j > i then j else i))
|_,_=>False
theorem zsv:CB K zsh1 zje1:=by
 walk_at"21";unfold zje1 at h;rcases ds with _|⟨d,_|⟨e,_|⟨f,r⟩⟩⟩
 all_goals first|exact h.elim|(cases d <;> first|exact h.elim|skip)
 all_goals cases e <;> first|exact h.elim|skip
 ·obtain⟨v,u,rfl,z,q⟩:=vw2 p;cases z.int;cases q.int;exact⟨_,_,rfl,k _ h _ F H (Ext.refl s) (.int _)⟩
def zpd:List D->Option (List Int)
|[]=>some []
|.int i :: r=>(zpd r).map (i :: ·)
|_ :: _=>none
theorem zic{F:Hp}:∀{xs:List V}{ds:List D}{ns:List Int},IsAll K F xs ds->zpd ds=some ns->xs=ns.map V.int
|_,_,_,.nil,e=>by cases e;rfl
|_,_,_,.cons h r,e=>by
  cases h with
 |int i =>
   unfold zpd at e;obtain⟨q,p,rfl⟩:=xA.mp e;rw[zic r p];rfl
 |_=>cases e
theorem ints_map(ns:List Int):zpd (ns.map u6)=some ns:=by
 induction ns with
|nil=>rfl
|cons n r p=>simp[zpd,p]
def fSum:List D->(D->Prop)->Prop
|[.list ds],Q=>∃ns,zpd ds=some ns/\Q (.int ns.sum)
|_,_=>False
theorem zoq:CB K (rSum K) fSum:=by
 walk_at"36";unfold fSum at h;rcases ds with _|⟨d,_|⟨e,r⟩⟩
 all_goals first|exact h.elim|(cases d <;> first|exact h.elim|skip)
 ·obtain⟨v,rfl,hw⟩:=vw1 z;obtain⟨p,xs,rfl,B,u⟩:=hw.list s;obtain⟨ns,e,q⟩:=h;have:=zic u e;subst this;exact⟨p,ns,rfl,B,k _ q _ F H (Ext.refl s) (.int _)⟩
def zxb1:List D->(List D->Prop)->Prop
|[.list ds],Q=>Q ds
|[.tuple ds],Q=>Q ds
|_,_=>False
theorem zoi:CF K (ztg1 K) zxb1:=by
 walk_at"36";unfold zxb1 at h;rcases ds with _|⟨d,_|⟨e,r⟩⟩
 all_goals first|exact h.elim|(cases d <;> first|exact h.elim|skip)
 ·obtain⟨v,rfl,hw⟩:=vw1 z;obtain⟨p,xs,rfl,u,q⟩:=hw.list s;refine⟨p,xs,rfl,.inl u,λl hl=>?_⟩;obtain⟨ex,fn⟩:=zx7 (xs:=xs) s hl;exact k _ h l xs F _ ex hl zq0 fn q
 ·obtain⟨v,rfl,hw⟩:=vw1 z;obtain⟨p,xs,rfl,u,_,q⟩:=hw.tuple s;refine⟨p,xs,rfl,.inr u,λl hl=>?_⟩;obtain⟨ex,fn⟩:=zx7 (xs:=xs) s hl;exact k _ h l xs F _ ex hl zq0 fn q
def fInt:List D->(D->Prop)->Prop
|[.int i],Q=>Q (.int i)
|[.bool b],Q=>Q (.int (if b then 1 else 0))
|[.str z],Q=>∃n,m5 z=some n/\z.length<=640/\Q (.int n)
|_,_=>False
theorem zbj1:CB K rInt fInt:=by
 walk_at"21";unfold fInt at h;rcases ds with _|⟨d,_|⟨e,r⟩⟩
 all_goals first|exact h.elim|(cases d <;> first|exact h.elim|skip)
 ·obtain⟨v,rfl,hw⟩:=vw1 p;cases hw.bl;exact .inl (.inr ⟨_,rfl,k _ h _ F H (Ext.refl s) (.int _)⟩)
 ·obtain⟨v,rfl,hw⟩:=vw1 p;cases hw.int;exact .inl (.inl ⟨_,rfl,k _ h _ F H (Ext.refl s) (.int _)⟩)
 ·obtain⟨v,rfl,hw⟩:=vw1 p;obtain⟨n,e,hz,q⟩:=h;cases hw.str;exact .inr ⟨_,n,rfl,e,hz,k _ q _ F H (Ext.refl s) (.int _)⟩
def tyD:D->String
|.none => "NoneType"|.bool _ => "bool"|.int _ => "int"|.str _ => "str"|.list _ => "list"|.tuple _ => "tuple"|.dict _ => "dict"
def isT(T:String)(d:D):Bool:=tyD d == T || (T == "int" && tyD d == "bool")
structure Kit(K:Fg):Prop where
 ok:∀t∈["NoneType", "bool", "int", "str", "list", "tuple"],∀T∈["int", "bool", "list", "tuple", "str"],eD K (.type t) (.type T)=some (t == T || (T == "int" && t == "bool"))
def dIs(T:String)(da:DE):DE:=λU Q=>da U λd=>(∀kvs,d≠.dict kvs)/\Q (.bool (isT T d))
theorem zk51{T:String}(kt:Kit K)(p:T∈["int", "bool", "list", "tuple", "str"])(L:RfV K ta da):RfE K (tCB (rIsW K) (zdm ta (zdm (tC (.ty T)) tNil))) (dIs T da):=by
 walk_at"2";refine L s rv hd λd hd v M G B J=>?_;have q:=k _ hd.2 (.bl (isT T d)) M G B (.bl _);have I:=J.is B.fh;show rIsW K [v,.ty T] G Q;cases I with
|non=>exact .inl ⟨_,_,_,_,_,rfl,rfl,.non,kt.ok _ (by simp) T p,q⟩
|bl b=>exact .inl ⟨_,_,_,_,_,rfl,rfl,.bl b,kt.ok _ (by simp) T p,q⟩
|int b=>exact .inl ⟨_,_,_,_,_,rfl,rfl,.int b,kt.ok _ (by simp) T p,q⟩
|str b=>exact .inl ⟨_,_,_,_,_,rfl,rfl,.str b,kt.ok _ (by simp) T p,q⟩
|lst u z=>exact .inr ⟨_,_,_,_,rfl,rfl,.inl ⟨⟨_,u⟩,kt.ok _ (by simp) T p⟩,q⟩
|tup u z=>exact .inr ⟨_,_,_,_,rfl,rfl,.inr ⟨⟨_,SqT.of u⟩,kt.ok _ (by simp) T p⟩,q⟩
|tuc u z _=>exact .inr ⟨_,_,_,_,rfl,rfl,.inr ⟨⟨_,u⟩,kt.ok _ (by simp) T p⟩,q⟩
abbrev DO:=DSt->(Option Int->Prop)->Prop
def ztx:DO:=λ_ Q=>Q none
def zog1(de:DE):DO:=λU Q=>de U λd=>match d with
|.int i=>Q (some i)
|_=>False
theorem zik:RfO K zyw ztx:=λs rv h k=>k _ h _ _ (Ext.refl s)
theorem zjg(h:RfE K te de):RfO K (zya1 te) (zog1 de):=by
 walk_at"2";refine h s rv hd λd p v B z u q=>?_;split at p
 ·cases q.int_inv;exact⟨_,rfl,k _ p B z u⟩
 ·exact p.elim
def cutD(xs:List D)(lo hi:Option Int):List D:=(xs.drop (HT.sIx xs.length 0 lo)).take (HT.sIx xs.length xs.length hi - HT.sIx xs.length 0 lo)
theorem zjx{F:Hp}{ds:List D}(h:IsAll K F xs ds)(lo hi:Option Int):IsAll K F (cutV xs lo hi) (cutD ds lo hi):=by
 unfold cutV cutD;rw[h.dlen];exact(h.ddrop _).dtake _
def fSl(d:D)(lo hi:Option Int)(Q:D->Prop):Prop:=match d with
|.list ds=>Q (.list (cutD ds lo hi))
|.str z=>z.length<=sizeLine/\Q (.str (Txt.slice z lo hi))
|.tuple ds=>¬(HT.sIx ds.length 0 lo=0/\HT.sIx ds.length ds.length hi=ds.length)/\Q (.tuple (cutD ds lo hi))
|_=>False
variable {tl th tk:TO}{dl dh dk:DO}
def dSl(de:DE)(dl dh:DO):DE:=λU Q=>de U λd=>dl U λlo=>dh U λhi=>fSl d lo hi Q
theorem zn2{F H u:Hp}{p:aE}(e:Ext F H u H')(h:H' p=none):H p=none:=by
 cases q:H p with
|none=>rfl
|some o=>rw[e.h p o q]at h;cases h
theorem zae1(he:RfV K te de)(hl:RfO K tl dl)(Z:RfO K th dh):RfE K (tSl (rSlW K) te tl th) (dSl de dl dh):=by
 walk_at"0";refine he s rv h λd hd v F1 H1 I W=>hl I.fh (rv.ext I) hd λlo O F2 H2 G=>Z G.fh (rv.ext (I.trans G)) O λhi q F3 H3 z=>?_;have u:=(I.trans G).trans z;have L:=W.ext (G.trans z);unfold fSl at q;split at q
 ·obtain⟨p,xs,rfl,M,B⟩:=L.list z.fh;refine .inl (.inl ⟨p,xs,rfl,M,λl hl=>?_⟩);obtain⟨ex,fn⟩:=zx7 (xs:=cutV xs lo hi) z.fh hl;obtain⟨S,J⟩:=zvm (K:=K) ex hl zq0 fn (zjx B lo hi);exact k _ q _ _ _ (u.trans S) J
 ·cases L.str;exact .inr ⟨_,rfl,q.1,k _ q.2 _ F3 H3 u (.str _)⟩
 ·obtain⟨p,xs,rfl,M,_,B⟩:=L.tuple z.fh;refine .inl (.inr ⟨p,xs,rfl,M,by rw[B.dlen];exact q.1,λl hl=>?_⟩);obtain⟨ex,J⟩:=zqd (K:=K) z.fh hl (zjx B lo hi);exact k _ q.2 _ _ _ (u.trans ex) J
 ·exact q.elim
theorem zvf{F:Hp}{xs:List V}{ds:List D}(h:IsAll K F xs ds):∀q:List Nat,IsAll K F (q.filterMap (xs[·]?)) (q.filterMap (ds[·]?))
|[]=>.nil
|j :: q=>by
  have z:=zvf h q;cases p:ds[j]? with
 |some n =>
   obtain⟨u,G,r⟩:=h.dget p;simp only[xK,p,G];exact .cons r z
 |none =>
   have B:xs[j]?=none:=by
    rw[j4]at p ⊢;rw[h.dlen];exact p
   simp only[xK,p,B];exact z
theorem zj41{F:Hp}{ds:List D}(h:IsAll K F xs ds)(lo hi st:Option Int):IsAll K F (zwp xs lo hi st) (zwp ds lo hi st):=by
 unfold zwp;rw[h.dlen];exact zvf h _
def dSl3(de:DE)(dl dh dk:DO):DF:=λU Q=>de U λd=>dl U λlo=>dh U λhi=>dk U λst=>match d with
|.list ds=>st≠some 0/\Q (zwp ds lo hi st)
|_=>False
theorem zxc1(Z:RfV K te de)(hl:RfO K tl dl)(W:RfO K th dh)(S:RfO K tk dk):RfF K (tSl3 K te tl th tk) (dSl3 de dl dh dk):=by
 walk_at"0";refine Z s rv h λd hd v F1 H1 z O=>hl z.fh (rv.ext z) hd λlo J F2 H2 u=>W u.fh (rv.ext (z.trans u)) J λhi L F3 H3 I=>S I.fh (rv.ext ((z.trans u).trans I)) L λst q F4 H4 G=>?_;split at q
 ·have B:=((z.trans u).trans I).trans G;obtain⟨p,xs,rfl,h1,M⟩:=(O.ext ((u.trans I).trans G)).list G.fh;refine⟨p,xs,rfl,h1,q.1,λl hl=>?_⟩;obtain⟨ex,fn⟩:=zx7 (xs:=zwp xs lo hi st) G.fh hl;exact k _ q.2 l _ F4 _ (B.trans ex) (zn2 B hl) zq0 fn (zj41 M lo hi st)
 ·exact q.elim
def W0(K:Fg)(J:It)(F H:Hp)(items:List D):Prop:=(∀i,i < items.length->J.go i H)/\J.stop items.length H/\∀i x p d,items[i]?=some d->J.yld i H x p->p=H/\Is K F x d
def W1(K:Fg)(J:It)(F H:Hp)(items:List D):Prop:=(∀i,i < items.length->J.go i H)/\J.stop items.length H/\∀i x p d,items[i]?=some d->J.yld i H x p->∃q,Ext F H q p/\Is K q x d
def WD(K:Fg)(J:It)(F:Hp)(items:List D):Prop:=∀F2 H2,Same F F2->Same F2 H2->W1 K J F2 H2 items
def WV(K:Fg)(J:It)(F H:Hp)(items:List D):Prop:=∀F2 H2,Ext F H F2 H2->W1 K J F2 H2 items
theorem W0.w1{J:It}{F H:Hp}{items:List D}(s:Same F H)(h:W0 K J F H items):W1 K J F H items:=⟨h.1,h.2.1,λi x p d e y=>by
 obtain⟨rfl,r⟩:=h.2.2 i x p d e y;exact⟨F,Ext.refl s,r⟩⟩
def RfI(K:Fg)(ti:TI)(di:DF):Prop:=∀{F H:Hp}{Y:_2.St}{U:DSt}{Qd:List D->Prop}{R:It->Hp->Prop},Same F H->RV K F H Y U->di U Qd->(∀ds,Qd ds->∀J p H',Ext F H p H'->WD K J p ds->R J H')->ti Y H R
def RfJ(K:Fg)(ti:TI)(di:DF):Prop:=∀{F H:Hp}{Y:_2.St}{U:DSt}{Qd:List D->Prop}{R:It->Hp->Prop},Same F H->RV K F H Y U->di U Qd->(∀ds,Qd ds->∀J p H',Ext F H p H'->WV K J p H' ds->R J H')->ti Y H R
theorem zxd{F H:Hp}{ds:List D}(h:SqL K H a xs)(i:IsAll K F xs ds):W0 K (Itl K a) F H ds:=by
 have G:=i.dlen;refine⟨λj B=>⟨xs,xs[j]'(by lia),h,u4 _⟩,⟨xs,h,by lia⟩,λj x I d e y=>?_⟩;obtain⟨u,y⟩:=y;obtain⟨z,q,p⟩:=i.dget e;have:=y xs h;rw[q]at this;cases this;exact⟨u,p⟩
theorem zuu{F H:Hp}{ds:List D}(h:SqT K H a xs)(i:IsAll K F xs ds):W0 K (Itt K a) F H ds:=by
 have G:=i.dlen;refine⟨λj B=>⟨xs,xs[j]'(by lia),h,u4 _⟩,⟨xs,h,by lia⟩,λj x I d e y=>?_⟩;obtain⟨u,y⟩:=y;obtain⟨z,q,p⟩:=i.dget e;have:=y xs h;rw[q]at this;cases this;exact⟨u,p⟩
def zh41:D->(List D->Prop)->Prop
|.list ds,Q=>Q ds
|.tuple ds,Q=>Q ds
|.str z,Q=>z.cps.all (· < 128)=true/\Q (z.cps.toList.map λc=>.str ⟨#[c]⟩)
|_,_=>False
def dIt(de:DE):DF:=λU Q=>de U λd=>zh41 d Q
theorem zj71{F H:Hp}(z:Str)(s:Same F H):W1 K (Its z) F H (z.cps.toList.map λc=>.str ⟨#[c]⟩):=by
 have q:(z.cps.toList.map λc=>(wQ ⟨#[c]⟩)).length=z.cps.size:=by simp
 refine⟨λj p=>by rw[q]at p;exact p,by rw[q];exact u7 _,λj x I d e y=>?_⟩;obtain⟨u,c,G,B⟩:=y;subst u;rw[u8,yJ,G]at e;simp at e;subst e;exact⟨F,Ext.refl s,by rw[B];exact .str _⟩
theorem zsm(h:RfV K te de):RfJ K (iW K te) (dIt de):=by
 walk_at"7";refine h s rv hd λd u v L J B I=>?_;unfold zh41 at u;split at u
 ·obtain⟨p,xs,rfl,z,G⟩:=I.list B.fh;exact .inl (.inl ⟨p,rfl,⟨xs,z⟩,k _ u _ L J B λF2 H2 q=>(zxd (q.h.seq z) (G.mono q.f)).w1 q.fh⟩)
 ·obtain⟨p,xs,rfl,z,_,G⟩:=I.tuple B.fh;exact .inl (.inr ⟨p,rfl,⟨xs,z⟩,k _ u _ L J B λF2 H2 q=>(zuu (zrm q.h z) (G.mono q.f)).w1 q.fh⟩)
 ·cases I.str;exact .inr ⟨_,rfl,u.1,k _ u.2 _ L J B λF2 H2 q=>zj71 _ q.fh⟩
 ·exact u.elim
theorem zlo(h:RfE K te de):RfI K (iW K te) (dIt de):=by
 walk_at"7";refine h s rv hd λd u v L J B I=>?_;unfold zh41 at u;split at u
 ·obtain⟨p,xs,rfl,z,G⟩:=I.list_inv;exact .inl (.inl ⟨p,rfl,⟨xs,B.fh.seq z⟩,k _ u _ L J B λF2 H2 s2 q=>(zxd (q.seq (s2.seq z)) (G.mono s2)).w1 q⟩)
 ·obtain⟨p,xs,rfl,z,G⟩:=I.tuple_inv;exact .inl (.inr ⟨p,rfl,⟨xs,zrm B.fh z⟩,k _ u _ L J B λF2 H2 s2 q=>(zuu (zrm q (zrm s2 z)) (G.mono s2)).w1 q⟩)
 ·cases I.str_inv;exact .inr ⟨_,rfl,u.1,k _ u.2 _ L J B λF2 H2 s2 q=>zj71 _ q⟩
 ·exact u.elim
theorem RfI.j{ti:TI}(h:RfI K ti di):RfJ K ti di:=λs rv hd k=>h s rv hd λds q J u H' e w=>k ds q J u H' e λF2 H2 p=>w F2 H2 p.f p.fh
def rngD(lo:Int)(n:Nat):List D:=(u3 n).map λi=>.int (lo+(i:Nat))
theorem zcp(lo:Int)(n:Nat):(rngD lo n).length=n:=by simp[rngD]
theorem zz21{lo:Int}{d:D}(e:(rngD lo n)[i]?=some d):i < n/\d=.int (lo+(i:Nat)):=by
 unfold rngD at e;rw[u8]at e;obtain⟨j,u,rfl⟩:=xA.mp e;obtain⟨q,p⟩:=wI.mp u;simp at q p;subst p;exact⟨q,rfl⟩
theorem zca1{F H:Hp}(lo:Int)(n:Nat)(s:Same F H):W1 K (Itr lo n) F H (rngD lo n):=by
 refine⟨λj p=>by rw[zcp]at p;exact p,by rw[zcp];exact u7 _,λj x u d e y=>?_⟩;obtain⟨q,y⟩:=y;subst q;obtain⟨_,rfl⟩:=zz21 e;exact⟨F,Ext.refl s,by rw[y];exact .int _⟩
def zx01(dA:DF):DF:=λU Q=>dA U λds=>match ds with
|[.int j]=>-(2 ^ 62)<=j/\j < 2 ^ 62/\Q (rngD 0 j.toNat)
|_=>False
theorem zk6(h:RfA K tA dA):RfI K (zwh1 tA) (zx01 dA):=by
 walk_at"7";refine h s rv hd λds p vs J I G z=>?_;split at p
 ·cases z with
 |cons B u =>
   cases u;cases B.int_inv;exact⟨_,rfl,p.1,p.2.1,k _ p.2.2 _ J I G λF2 H2 s2 q=>zca1 _ _ q⟩
 ·exact p.elim
def zyg1(dA:DF):DF:=λU Q=>dA U λds=>match ds with
|[.int i,.int j]=>(-(2 ^ 62)<=i/\i < 2 ^ 62/\-(2 ^ 62)<=j/\j < 2 ^ 62)/\Q (rngD i (j - i).toNat)
|_=>False
theorem zc81(h:RfA K tA dA):RfI K (zsg1 tA) (zyg1 dA):=by
 walk_at"7";refine h s rv hd λds p vs M L J B=>?_;split at p
 ·cases B with
 |cons I z =>
   cases z with
  |cons G u =>
    cases u;cases I.int_inv;cases G.int_inv;exact⟨_,_,rfl,p.1,k _ p.2 _ M L J λF2 H2 s2 q=>zca1 _ _ q⟩
 ·exact p.elim
def zipD(ds es:List D):List D:=List.zipWith (λa b=>.tuple [a,b]) ds es
theorem zoz{F H:Hp}{I G:It}{ds es:List D}(s:Same F H)(q:W0 K I F H ds)(u:W0 K G F H es):W1 K (Itz I G) F H (zipD ds es):=by
 have Y:(zipD ds es).length=min ds.length es.length:=by simp[zipD]
 refine⟨λj hj=>⟨q.1 j (by lia),u.1 j (by lia)⟩,?_,λj x H3 d e y=>?_⟩
 ·rw[Y];by_cases h:ds.length<=es.length
  ·rw[zW h];exact .inl q.2.1
  ·rw[uaF (by lia)];exact .inr ⟨q.1 es.length (by lia),u.2.1⟩
 ·obtain⟨x1,x2,p,L,J,W,e1,Z⟩:=y;subst Z;unfold zipD at e;rw[List.getElem?_zipWith]at e;cases q1:ds[j]? with
 |none=>rw[q1]at e;cases e
 |some B =>
   cases q2:es[j]? with
  |none=>rw[q1,q2]at e;cases e
  |some z =>
    rw[q1,q2]at e;cases e;obtain⟨_,S⟩:=q.2.2 j x1 H B q1 L;obtain⟨_,O⟩:=u.2.2 j x2 H z q2 J;obtain⟨ex,M⟩:=zqd (K:=K) (ds:=[B,z]) s W (.cons S (.cons O .nil));exact⟨_,ex,by rw[e1];exact M⟩
def fZip:List D->(List D->Prop)->Prop
|[.list a,.list b],Q=>Q (zipD a b)
|[.list a,.tuple b],Q=>Q (zipD a b)
|[.tuple a,.list b],Q=>Q (zipD a b)
|_,_=>False
def dZip(dA:DF):DF:=λU Q=>dA U λds=>fZip ds Q
theorem zq31(h:RfAV K tA dA):RfJ K (iZip K tA) (dZip dA):=by
 walk_at"7";refine h s rv hd λds J vs Z W B S=>?_;unfold fZip at J;rcases ds with _|⟨d,_|⟨e,_|⟨f,r⟩⟩⟩
 all_goals first|exact J.elim|(cases d <;> first|exact J.elim|skip)
 all_goals cases e <;> first|exact J.elim|skip
 ·obtain⟨v,u,rfl,w1,L⟩:=vw2 S;obtain⟨p,xs,rfl,I,O⟩:=w1.list B.fh;obtain⟨q,ys,rfl,G,M⟩:=L.list B.fh;exact⟨_,_,rfl,.inl ⟨p,rfl,⟨xs,I⟩,.inl ⟨q,rfl,⟨ys,G⟩,k _ J _ Z W B λF2 H2 z=>zoz z.fh (zxd (z.h.seq I) (O.mono z.f)) (zxd (z.h.seq G) (M.mono z.f))⟩⟩⟩
 ·obtain⟨v,u,rfl,w1,L⟩:=vw2 S;obtain⟨p,xs,rfl,I,O⟩:=w1.list B.fh;obtain⟨q,ys,rfl,G,_,M⟩:=L.tuple B.fh;exact⟨_,_,rfl,.inl ⟨p,rfl,⟨xs,I⟩,.inr ⟨q,rfl,⟨ys,G⟩,k _ J _ Z W B λF2 H2 z=>zoz z.fh (zxd (z.h.seq I) (O.mono z.f)) (zuu (zrm z.h G) (M.mono z.f))⟩⟩⟩
 ·obtain⟨v,u,rfl,w1,L⟩:=vw2 S;obtain⟨p,xs,rfl,I,_,O⟩:=w1.tuple B.fh;obtain⟨q,ys,rfl,G,M⟩:=L.list B.fh;exact⟨_,_,rfl,.inr ⟨p,rfl,⟨xs,I⟩,.inl ⟨q,rfl,⟨ys,G⟩,k _ J _ Z W B λF2 H2 z=>zoz z.fh (zuu (zrm z.h I) (O.mono z.f)) (zxd (z.h.seq G) (M.mono z.f))⟩⟩⟩
theorem all1{F:Hp}{d:D}(h:IsAll K F vs [d]):∃v,vs=[v]/\Is K F v d:=by
 cases h with
|cons h r=>cases r;exact⟨_,rfl,h⟩
def ziu(ds:List D):List D:=ds.mapIdx λi d=>.tuple [.int (i:Nat),d]
theorem zde(ds:List D):(ziu ds).length=ds.length:=by simp[ziu]
theorem zvk{ds:List D}{d:D}(e:(ziu ds)[i]?=some d):∃x,ds[i]?=some x/\d=.tuple [.int (i:Nat),x]:=by
 unfold ziu at e;rw[xS]at e;obtain⟨x,q,p⟩:=xA.mp e;exact⟨x,q,p.symm⟩
theorem zix{F H:Hp}{ds:List D}(s:Same F H)(h:SqL K H a xs)(i:IsAll K F xs ds):W1 K (Ite K a) F H (ziu ds):=by
 have Y:=i.dlen;have S:=zde ds;refine⟨λj W=>⟨xs,xs[j]'(by lia),h,u4 _⟩,⟨xs,h,by lia⟩,λj x Z d e y=>?_⟩;obtain⟨v,p,z,L,O,M⟩:=y;subst M;obtain⟨B,q,rfl⟩:=zvk e;obtain⟨u,J,G⟩:=i.dget q;have:=z xs h;rw[J]at this;cases this;obtain⟨ex,I⟩:=zqd (K:=K) (ds:=[.int (j:Nat),B]) s L (.cons (.int _) (.cons G .nil));exact⟨_,ex,by rw[O];exact I⟩
def zut(dA:DF):DF:=λU Q=>dA U λds=>match ds with
|[.list a]=>Q (ziu a)
|_=>False
theorem zvd(h:RfAV K tA dA):RfJ K (zze1 K tA) (zut dA):=by
 walk_at"7";refine h s rv hd λds q vs L J B I=>?_;split at q
 ·obtain⟨v,rfl,w1⟩:=vw1 I;obtain⟨p,xs,rfl,z,G⟩:=w1.list B.fh;exact⟨p,xs,rfl,z,k _ q _ L J B λF2 H2 u=>zix u.fh (u.h.seq z) (G.mono u.f)⟩
 ·exact q.elim
theorem zbx(h:RfA K tA dA):RfI K (zze1 K tA) (zut dA):=by
 walk_at"7";refine h s rv hd λds q vs L J B I=>?_;split at q
 ·obtain⟨v,rfl,w1⟩:=all1 I;obtain⟨p,xs,rfl,z,G⟩:=w1.list_inv;exact⟨p,xs,rfl,B.fh.seq z,k _ q _ L J B λF2 H2 s2 u=>zix u (u.seq (s2.seq z)) (G.mono s2)⟩
 ·exact q.elim
end
inductive Upd(K:Fg)(F:Hp)(n:Nat):_2.St->DSt->_2.St->DSt->Prop
|refl {Y:_2.St} {U:DSt}:Upd K F n Y U Y U
|set {Y Y':_2.St} {U U':DSt} {i:Nat} {v:V} {d:D}:i < n->Is K F v d->Upd K F n (Y.set i (some v)) (U.set i (.sh d)) Y' U'->Upd K F n Y U Y' U'
theorem zf7{Y:_2.St}{j:Nat}{v:Option V}:(Y.set i v).getD j none=if i=j/\j < Y.length then v else Y.getD j none:=by
 rw[v4,v4,xT];by_cases h:i=j
 ·subst h;by_cases p:i < Y.length
  ·simp[p]
  ·simp[p]
 ·simp[h]
theorem RV.set{K:Fg}{F H:Hp}{Y:_2.St}{U:DSt}{i:Nat}{v:V}{sl:Sl}(r:RV K F H Y U)(h:RSl K F H (some v) sl):RV K F H (Y.set i (some v)) (U.set i sl):=by
 refine⟨by rw[wK,wK];exact r.len,λj s e=>?_⟩;rw[xT]at e;rw[zf7,r.len];by_cases p:i=j
 ·subst p;by_cases hl:i < U.length
  ·simp[hl]at e ⊢;subst e;exact h
  ·simp[hl]at e
 ·simp[p]at e ⊢;exact r.sl j s e
theorem Upd.rv{F H:Hp}{Y p:_2.St}(u:Upd K F n Y U p U')(r:RV K F H Y U):RV K F H p U':=by
 induction u with
|refl=>exact r
|set hi z _ q=>exact q (r.set ⟨_,rfl,z⟩)
theorem Upd.keep{F:Hp}{Y p:_2.St}(u:Upd K F n Y U p U'):p.length=Y.length/\∀i,n<=i->p.getD i none=Y.getD i none:=by
 induction u with
|refl=>exact⟨rfl,λ_ _=>rfl⟩
|set hi B _ q =>
  refine⟨by rw[q.1,wK],λj z=>?_⟩;rw[q.2 j z,zf7,aF (by lia)]
abbrev DG:=D->DSt->(DSt->Prop)->Prop
abbrev DGs:=List D->DSt->(DSt->Prop)->Prop
def RfG(K:Fg)(n:Nat)(g:TG)(u:DG):Prop:=∀{F H:Hp}{Y:_2.St}{U:DSt}{v:V}{d:D}{q:DSt->Prop}{G:_2.St->Hp->Prop},Same F H->Is K F v d->u d U q->(∀p U',q U'->Upd K F n Y U p U'->G p H)->g v Y H G
def RfGs(K:Fg)(n:Nat)(g:TGs)(u:DGs):Prop:=∀{F H:Hp}{Y:_2.St}{U:DSt}{vs:List V}{ds:List D}{q:DSt->Prop}{G:_2.St->Hp->Prop},Same F H->IsAll K F vs ds->u ds U q->(∀p U',q U'->Upd K F n Y U p U'->G p H)->g vs Y H G
def gN(i:Nat):DG:=λd U G=>G (U.set i (.sh d))
def ztm:DGs:=λds U G=>match ds with
|[]=>G U
|_=>False
def zb5(g:DG)(gs:DGs):DGs:=λds U G=>match ds with
|d :: r=>g d U λU'=>gs r U' G
|[]=>False
def gT(n:Nat)(gs:DGs):DG:=λd U G=>match d with
|.tuple ds=>ds.length=n/\gs ds U G
|_=>False
section
variable {K:Fg}{n m:Nat}
theorem zh1(hi:i < n):RfG K n (zjw i) (gN i):=λs h hd k=>k _ _ hd (.set hi h .refl)
theorem zw6:RfGs K n gNil ztm:=by
 intro F H Y U vs ds p G s h hd k;unfold ztm at hd;split at hd
 ·cases h;exact⟨rfl,k _ _ hd .refl⟩
 ·exact hd.elim
theorem Upd.trans{F:Hp}{Y q p:_2.St}{z u:DSt}(a:Upd K F n Y U q z)(b:Upd K F n q z p u):Upd K F n Y U p u:=by
 induction a with
|refl=>exact b
|set hi G _ B=>exact .set hi G (B b)
theorem zo1{g:TG}{z:DG}{p:DGs}(L:RfG K n g z)(J:RfGs K n gs p):RfGs K n (zoh1 g gs) (zb5 z p):=by
 intro F H Y U vs ds Z G s h hd k;unfold zb5 at hd;split at hd
 ·cases h with
 |cons I hr =>
   refine⟨_,_,rfl,L s I hd λO W u B=>J s hr u λM S q u2=>k _ _ q (B.trans u2)⟩
 ·exact hd.elim
theorem zjc{p:DGs}(h:RfGs K n gs p):RfG K n (gTup K m gs) (gT m p):=by
 intro F H Y U v d B G s u hd k;unfold gT at hd;split at hd
 ·obtain⟨a,xs,rfl,z,q⟩:=u.tuple_inv;exact⟨a,xs,rfl,zrm s z,by rw[q.dlen];exact hd.1,h s q hd.2 k⟩
 ·exact hd.elim
end
def cST(n:Nat)(ix:List Nat)(U:DSt):DSt:=vY n .un++ix.map λi=>U.getD i .un
theorem zna1{F H:Hp}{Y:_2.St}(n:Nat)(ix:List Nat)(r:RV K F H Y U):RV K F H (compY n ix Y) (cST n ix U):=by
 refine⟨by simp[compY,cST],λi s e=>?_⟩;unfold cST at e;unfold compY;by_cases h:i < n
 ·rw[wP (by simpa using h)]at e;simp[xO,h]at e;subst e;trivial
 ·rw[wO (by simpa using h)]at e;rw[v4,wO (by simpa using h)];simp only[yR,u8]at e ⊢;obtain⟨j,p,rfl⟩:=xA.mp e;rw[p];show RSl K F H (Y.getD j none) _;cases q:U[j]? with
 |none=>rw[show U.getD j .un=.un by rw[v4,q];rfl];trivial
 |some t=>rw[show U.getD j .un=t by rw[v4,q];rfl];exact r.sl j t q
theorem RV.caps{F H:Hp}{Y p:_2.St}(r:RV K F H Y (cST n ix U))(hl:p.length=Y.length)(q:∀i,n<=i->p.getD i none=Y.getD i none):RV K F H p (cST n ix U):=by
 refine⟨by rw[hl];exact r.len,λi s e=>?_⟩;by_cases h:i < n
 ·unfold cST at e;rw[wP (by simpa using h)]at e;simp[xO,h]at e;subst e;trivial
 ·rw[q i (by lia)];exact r.sl i s e
def zxf(di:DF)(n:Nat)(ix:List Nat)(p:DG)(dt:DT)(q:DE):DF:=λU Q=>di U λitems=>items.length<=sizeLine/\∃R:Nat->Option D->Prop,
 (∀i d,items[i]?=some d->p d (cST n ix U) λU'=>dt U' λb=>if b=true then q U' λr=>R i (some r)else R i none) /\
 ∀os:List (Option D),os.length=items.length->(∀(j:Nat) o,os[j]?=some o->R j o)->Q (os.filterMap id)
def zki:DT:=λ_ Q=>Q true
section
variable {K:Fg}{wi:TI}{di:DF}{n:Nat}{ix:List Nat}{g:TG}{dg:DG}{tt:TT}{dt:DT}{te:TE}{de:DE}
theorem zm2:RfT K zbe1 zki:=λs rv h k=>k _ h _ _ (Ext.refl s)
theorem zr1(hi:RfJ K wi di)(hg:RfG K n g dg)(ht:RfT K tt dt)(he:RfE K te de):RfF K (zmb1 wi n ix g tt te) (zxf di n ix dg dt de):=by
 walk_at"2";refine hi s rv hd λitems hx J F1 H1 e1 wj D hD=>?_;obtain⟨hz,R,hR,hQ⟩:=hx;have rv1:=zna1 n ix (rv.ext e1);have F1D:F1 D=none:=by
  cases q:F1 D with
 |none=>rfl
 |some o=>rw[e1.fh D o q]at hD;cases hD
 refine⟨λi m acc Y' H'=>m=items.length - i/\i<=items.length/\Y'.length=(compY n ix Y).length/\(∀j,n<=j->Y'.getD j none=(compY n ix Y).getD j none)/\∃(M:Hp)(os:List (Option aY)),Ext F1 H1 M H'/\M D=none/\H' D=some (.lst acc)/\os.length=i/\(∀(j:Nat) o,os[j]?=some o->R j o)/\IsAll K M acc (os.filterMap id),⟨items.length,rfl,wU _,rfl,λ_ _=>rfl,F1,[],?_,F1D,zq0,rfl,λj o e=>by simp at e,.nil⟩,?_⟩
 ·exact(zx7 (xs:=[]) e1.fh hD).1
 rintro i m acc Y' H' ⟨rfl,hi',hl,hk,M,os,ex,fD,G,O,hRs,u⟩;obtain⟨go,stop,yld⟩:=wj M H' ex;by_cases S:i < items.length
 ·refine .inr ⟨go i S,λL Y2 H2=>i+1<=items.length/\Y2.length=(compY n ix Y).length/\(∀j,n<=j->Y2.getD j none=(compY n ix Y).getD j none)/\∃(M:Hp)(os:List (Option aY)),Ext F1 H1 M H2/\M D=none/\H2 D=some (.lst L)/\os.length=i+1/\(∀(j:Nat) o,os[j]?=some o->R j o)/\IsAll K M L (os.filterMap id),λL Y2 H2 p=>⟨items.length - (i+1),by lia,rfl,p⟩,λx H2 y=>?_⟩;have hit:items[i]?=some items[i]:=u4 S;obtain⟨F2,W,ix2⟩:=yld i x H2 _ hit y;have rv2:RV K F2 H2 Y' (cST n ix U):=RV.caps (rv1.ext (ex.trans W)) hl hk;have hRn:∀o,R i o->∀(j:Nat) o',(os++[o])[j]?=some o'->R j o':=λo ho j o' e=>by
   rcases uaG j os.length with h|h|h
   ·rw[wP h]at e;exact hRs j o' e
   ·subst h;rw[wO (u7 _)]at e;simp at e;subst e;rw[O];exact ho
   ·rw[wO (yH h)]at e;cases q:j - os.length with
   |zero=>lia
   |succ z=>rw[q]at e;simp at e
  refine hg W.fh ix2 (hR i _ hit) λY2 U2 hd2 u2=>?_;have rv3:=u2.rv rv2;have kp:=u2.keep;have hl2:Y2.length=(compY n ix Y).length:=by rw[kp.1,hl]
  have hk2:∀j,n<=j->Y2.getD j none=(compY n ix Y).getD j none:=λj hj=>by rw[kp.2 j hj,hk j hj]
  refine ht W.fh rv3 hd2 λb B F4 H4 e4=>?_;have I:=W.trans e4;have hD4:H4 D=some (.lst acc):=I.h _ _ G;have fD4:F4 D=none:=I.nw D (by rw[G];simp) fD;cases b with
 |true =>
   rw[aH rfl]at B ⊢;refine he e4.fh (rv3.ext e4) B λr hr v F5 H5 e5 i5=>?_;have Z:=I.trans e5;have hD5:H5 D=some (.lst acc):=Z.h _ _ G;have fD5:F5 D=none:=Z.nw D (by rw[G];simp) fD;have hlen:acc.length<=i:=by
    rw[u.dlen,<- O];exact uaH _ _
   have e15:=ex.trans Z;refine⟨hD5,by lia,S,hl2,hk2,F5,os++[some r],⟨λb o B=>?_,e15.f,λb o B=>?_,e15.nw⟩,fD5,zq0,by simp[O],hRn _ hr,?_⟩
   ·have:b≠D:=λz=>by subst z;rw[hD]at B;cases B
    rw[zd1 this];exact e15.h b o B
   ·have:b≠D:=λz=>by subst z;rw[fD5]at B;cases B
    rw[zd1 this];exact e15.fh b o B
   ·rw[zX];exact(u.mono Z.f).dapp (.cons i5 .nil)
 |false =>
   rw[aF wA]at B ⊢;refine⟨S,hl2,hk2,F4,os++[none],ex.trans I,fD4,hD4,by simp[O],hRn _ B,?_⟩;rw[zX];have:uaI id [(none:Option aY)]=[]:=rfl;rw[this,wS];exact u.mono I.f
 ·have e:i=items.length:=by lia
  refine .inl ⟨by rw[e];exact stop,k _ (hQ os (by lia) hRs) D acc M H' (e1.trans ex) ?_ G fD u⟩;exact zn2 e1 hD
end
theorem at_nat'{α:Type}{xs:List α}{i:Int}{x:α}(p:0<=i)(h:xs[i.toNat]?=some x):atI xs i=some x:=by
 have e:((i.toNat:Nat):Int)=i:=by lia
 have:=zcy (xs:=xs) (j:=i.toNat) (v:=x) h
 rwa [e]at this
inductive Stp where
|ix (j:Nat)|fl (f:Str)
abbrev Pth:=List Stp
def putA(f:Str)(t:T):List (Str×T)->List (Str×T)
|[]=>[(f,t)]
|(g,x) :: r=>if g=f then(g,t) :: r else(g,x) :: putA f t r
def setP:T->Pth->T->T
|_,[],u=>u
|.ls ts,.ix j :: p,u=>match ts[j]? with
 |some t=>.ls (ts.set j (setP t p u))
 |none=>.ls ts
|.tp ts,.ix j :: p,u=>match ts[j]? with
 |some t=>.tp (ts.set j (setP t p u))
 |none=>.tp ts
|.ob C fs,.fl f :: p,u=>match fs.lookup f with
 |some t=>.ob C (putA f (setP t p u) fs)
 |none=>.ob C fs
|t,_,_=>t
inductive At(H:Hp):V->T->Pth->V->T->Prop
|nil {v:V} {t:T}:At H v t [] v t
|ix {a:aE} {xs:List V} {ts:List T} {j:Nat} {x v:V} {t u:T} {p:Pth}:H a=some (.lst xs)->xs[j]?=some x->ts[j]?=some t->At H x t p v u->At H (.ref a) (.ls ts) (.ix j :: p) v u
|tx {a:aE} {xs:List V} {ts:List T} {j:Nat} {x v:V} {t u:T} {p:Pth}:H a=some (.tup xs)->xs[j]?=some x->ts[j]?=some t->At H x t p v u->At H (.ref a) (.tp ts) (.ix j :: p) v u
|fl {a C dx:aE} {fs:List (Str×V)} {ts:List (Str×T)} {f:Str} {x v:V} {t u:T} {p:Pth}:H a=some (.ins C dx fs)->fs.lookup f=some x->ts.lookup f=some t->At H x t p v u->At H (.ref a) (.ob C ts) (.fl f :: p) v u
theorem At.mono{H:Hp}(s:Same H H'){v G:V}{t t':T}{p:Pth}(h:At H v t p G t'):At H' v t p G t':=by
 induction h with
|nil=>exact .nil
|ix B z u _ q=>exact .ix (s _ _ B) z u q
|tx B z u _ q=>exact .tx (s _ _ B) z u q
|fl B z u _ q=>exact .fl (s _ _ B) z u q
theorem At.snoc_ix{H:Hp}{v y:V}{t u:T}{ts:List T}{j:Nat}{p:Pth}(h:At H v t p (.ref a) (.ls ts))(O:H a=some (.lst xs))(M:xs[j]?=some x)(L:ts[j]?=some u):At H v t (p++[.ix j]) x u:=by
 generalize e:V.ref a=w at h;generalize J:T.ls ts=z at h
 induction h with
|nil=>subst e J;exact .ix O M L .nil
|ix I G B _ q=>exact .ix I G B (q e J)
|tx I G B _ q=>exact .tx I G B (q e J)
|fl I G B _ q=>exact .fl I G B (q e J)
theorem At.snoc_tx{H:Hp}{v y:V}{t u:T}{ts:List T}{j:Nat}{p:Pth}(h:At H v t p (.ref a) (.tp ts))(O:H a=some (.tup xs))(M:xs[j]?=some x)(L:ts[j]?=some u):At H v t (p++[.ix j]) x u:=by
 generalize e:V.ref a=w at h;generalize J:T.tp ts=z at h
 induction h with
|nil=>subst e J;exact .tx O M L .nil
|ix I G B _ q=>exact .ix I G B (q e J)
|tx I G B _ q=>exact .tx I G B (q e J)
|fl I G B _ q=>exact .fl I G B (q e J)
theorem At.snoc_fl{H:Hp}{v:V}{t u:T}{ts:List (Str×T)}{fs:List (Str×V)}{p:Pth}(h:At H v t p (.ref a) (.ob C ts))(O:H a=some (.ins C dx fs))(M:fs.lookup f=some x)(L:ts.lookup f=some u):At H v t (p++[.fl f]) x u:=by
 generalize e:V.ref a=w at h;generalize J:T.ob C ts=z at h
 induction h with
|nil=>subst e J;exact .fl O M L .nil
|ix I G B _ q=>exact .ix I G B (q e J)
|tx I G B _ q=>exact .tx I G B (q e J)
|fl I G B _ q=>exact .fl I G B (q e J)
section
variable {K:Fg}
theorem RtAll.len{F H:Hp}:∀{xs:List V}{ts:List T}{fp:List aE},RtAll K F H xs ts fp->xs.length=ts.length
|_,_,_,.nil=>rfl
|_,_,_,.cons _ r=>congrArg (·+1) (RtAll.len r)
theorem RtAll.split{F H:Hp}:∀{xs:List V}{ts:List T}{fp:List aE}{j:Nat}{x:V}{t:T},RtAll K F H xs ts fp->xs[j]?=some x->ts[j]?=some t ->
  ∃q B fB,fp=q++(B++fB)/\Rt K F H x t B/\∀{F2 H2:Hp}{u:T}{fq:List aE},Same F F2->(∀b∈q++fB,H2 b=H b/\F2 b=none)->Rt K F2 H2 x u fq->RtAll K F2 H2 xs (ts.set j u) (q++(fq++fB))
|_,_,_,_,_,_,.nil,e,_=>by simp at e
|_,_,_,0,x,t,.cons (fp:=fp) (fq:=fq) h r,G,e2=>by
  simp at G e2;subst G e2;exact⟨[],fp,fq,rfl,h,λs k g=>(by have z:=RtAll.cons g (r.frame s λb p=>k b (by simp[p]));exact z)⟩
|_,_,_,j+1,x,t,.cons (fp:=fp) (fq:=fq) h r,G,e2=>by
  obtain⟨q,B,fB,e,hr,g⟩:=RtAll.split (j:=j) r (by simpa using G) (by simpa using e2);refine⟨fp++q,B,fB,by rw[e,wD],hr,λs k I=>?_⟩;rw[wD];exact .cons (h.frame s λb p=>k b (by simp[p])) (g s (λb p=>k b (by rcases vX.mp p with z|z <;> simp[z])) I)
theorem RtFs.split{F H:Hp}:∀{xs:List (Str×V)}{ts:List (Str×T)}{fp:List aE}{f:Str}{x:V}{t:T},RtFs K F H xs ts fp->xs.lookup f=some x->ts.lookup f=some t ->
  ∃q G fB,fp=q++(G++fB)/\Rt K F H x t G/\(∀{F2 H2:Hp}{u:T}{fq:List aE},Same F F2->(∀b∈q++fB,H2 b=H b/\F2 b=none)->Rt K F2 H2 x u fq->RtFs K F2 H2 xs (putA f u ts) (q++(fq++fB))) /\
   (∀{F2 H2:Hp}{y:V}{u:T}{fq:List aE},Same F F2->(∀b∈q++fB,H2 b=H b/\F2 b=none)->Rt K F2 H2 y u fq->RtFs K F2 H2 (putF f y xs) (putA f u ts) (q++(fq++fB)))
|_,_,_,_,_,_,.nil,e,_=>by cases e
|_,_,_,f,x,t,.cons (f:=g) (x:=x') (t:=t') (fp:=fp) (fq:=fq) h r,I,e2=>by
  by_cases J:f=g
  ·subst J;simp[xD]at I e2;subst I e2;refine⟨[],fp,fq,rfl,h,λs k u=>?_,λs k u=>?_⟩
   ·show RtFs K _ _ _ (putA f _ ((f,_) :: _)) _;rw[show putA f _ ((f,t') :: _)=(f,_) :: _ from aH rfl];have z:=RtFs.cons (f:=f) u (r.frame s λb p=>k b (by simp[p]));exact z
   ·rw[show putA f _ ((f,t') :: _)=(f,_) :: _ from aH rfl,show putF f _ ((f,x') :: _)=(f,_) :: _ from aH rfl];have z:=RtFs.cons (f:=f) u (r.frame s λb p=>k b (by simp[p]));exact z
  ·have p:(f == g)=false:=beq_eq_false_iff_ne.mpr J;simp only[xD,p]at I e2;obtain⟨q,G,fB,e,hr,M,L⟩:=RtFs.split r I e2;have B:¬g=f:=λz=>J z.symm;refine⟨fp++q,G,fB,by rw[e,wD],hr,λs k u=>?_,λs k u=>?_⟩
   ·rw[show putA f _ ((g,t') :: _)=(g,t') :: putA f _ _ from aF B,wD];exact .cons (h.frame s λb p=>k b (by simp[p])) (M s (λb p=>k b (by rcases vX.mp p with z|z <;> simp[z])) u)
   ·rw[show putA f _ ((g,t') :: _)=(g,t') :: putA f _ _ from aF B,show putF f _ ((g,x') :: _)=(g,x') :: putF f _ _ from aF B,wD];exact .cons (h.frame s λb p=>k b (by simp[p])) (L s (λb p=>k b (by rcases vX.mp p with z|z <;> simp[z])) u)
theorem RtFs.add{F H F2 H2:Hp}{y:V}{u:T}{fq:List aE}(s:Same F F2)(B:Rt K F2 H2 y u fq):∀{xs:List (Str×V)}{ts:List (Str×T)}{fp:List aE}{f:Str},RtFs K F H xs ts fp->ts.lookup f=none->(∀b∈fp,H2 b=H b/\F2 b=none)->RtFs K F2 H2 (putF f y xs) (putA f u ts) (fp++fq)
|_,_,_,f,.nil,_,_=>by
  show RtFs K F2 H2 [(f,y)] [(f,u)] fq;have:=RtFs.cons (f:=f) B (.nil (K:=K) (F:=F2) (H:=H2))
  rwa [wS]at this
|_,_,_,f,.cons (f:=g) (x:=x') (t:=t') (fp:=fp) (fq:=fq') h r,e,k=>by
  have G:¬f=g:=λz=>by subst z;simp[xD]at e
  have p:(f == g)=false:=beq_eq_false_iff_ne.mpr G;simp only[xD,p]at e;have q:¬g=f:=λz=>G z.symm;rw[show putA f u ((g,t') :: _)=(g,t') :: putA f u _ from aF q,show putF f y ((g,x') :: _)=(g,x') :: putF f y _ from aF q,wD];exact .cons (h.frame s λb p=>k b (by simp[p])) (RtFs.add s B r e λb p=>k b (by simp[p]))
theorem RtFs.keys{F H:Hp}{xs:List (Str×V)}{ts:List (Str×T)}(f:Str)(h:RtFs K F H xs ts fp):(ts.lookup f=none->xs.lookup f=none)/\(∀t,ts.lookup f=some t->∃x,xs.lookup f=some x)/\xs.length=ts.length :=
 (Rt.ind (P:=λ_ _ _=>True) (Q:=λ_ _ _=>True) (R:=λxs ts _=>(ts.lookup f=none->xs.lookup f=none)/\(∀t,ts.lookup f=some t->∃x,xs.lookup f=some x)/\xs.length=ts.length)
  (λ_=>trivial) (λ_ _ _=>trivial) (λ_ _ _=>trivial) (λ_ _ _ _ _=>trivial) (λ_ _ _=>trivial) (λ_ _ _=>trivial) (λ_ _ _=>trivial) trivial (λ_ _=>trivial) ⟨λ_=>rfl,(λt e=>by cases e),rfl⟩
  λ{g x _ _ _ _ _} _ ⟨u,q,p⟩=>by
   rw[xG,xG,p,wL,wL];cases f == g with
  |true=>exact⟨(λe=>by cases e),λ_ _=>⟨x,rfl⟩,rfl⟩
  |false=>exact⟨u,q,rfl⟩).2.2 h
theorem zqd1{F H:Hp}{v:V}{t u:T}{p:Pth}(h:At H x t p v u):∀{fp:List aE},Rt K F H x t fp->fp.Nodup->∃fn,Rt K F H v u fn/\(∀a∈fn,a∈fp)/\fn.Nodup /\
  ∀{F2 H2:Hp}{u2:T}{fq:List aE},Same F F2->(∀b∈fp,b ∉ fn->H2 b=H b/\F2 b=none)->Rt K F2 H2 v u2 fq->fq.Nodup->(∀b∈fq,b∈fn \/ b ∉ fp)->∃fp2,Rt K F2 H2 x (setP t p u2) fp2/\fp2.Nodup/\∀b∈fp2,(b∈fp/\b ∉ fn) \/ b∈fq:=by
 induction h with
|nil =>
  intro fp hr nd;refine⟨fp,hr,λa z=>z,nd,λ{F2 H2 u2 fq} _ _ h2 n2 _=>⟨fq,?_,n2,λb B=>.inr B⟩⟩;cases u2 <;> exact h2
|@ix a0 xs0 ts0 j0 x0 v0 t0 u0 p0 h1 h2 h3 _ ih =>
  intro fp hr nd;cases hr with
 |ls g1 g2 g3 =>
   rw[h1]at g1;cases g1;obtain⟨fA,fj,fB,e,hj,rep⟩:=g3.split h2 h3;subst e;have ndR:=(v5.mp nd).2;have O:=(v5.mp nd).1;obtain⟨ndA,Z,J⟩:=wV.mp ndR;obtain⟨ndj,ndB,Y⟩:=wV.mp Z;obtain⟨fn,hn,sub,ndn,back⟩:=ih hj ndj;refine⟨fn,hn,λa I=>by simp[sub a I],ndn,λ{F2 H2 u2 fq} s k hu nq hq=>?_⟩;obtain⟨f2,r2,n2,m2⟩:=back s (λb B hnb=>k b (by simp[B]) hnb) hu nq λb B=>by
    rcases hq b B with z|z
    ·exact .inl z
    ·exact .inr λy=>z (by simp[y])
   have q:∀b,b∈fA \/ b∈fB->b ∉ fn:=λb B hn'=>by
    have:=sub b hn';rcases B with z|z
    ·exact J b z b (by simp[this]) rfl
    ·exact Y b this b z rfl
   have rA:=rep s (λb B=>by
    have S:=vX.mp B;refine k b (by rcases S with z|z <;> simp[z]) (q b S)) r2
   have G:∀b,(b∈fA \/ b∈fB \/ b=a0)->b ∉ fq:=λb B hbq=>by
    rcases hq b hbq with z|z
    ·rcases B with y|y|y
     ·exact q b (.inl y) z
     ·exact q b (.inr y) z
     ·subst y;exact O (by simp[sub _ z])
    ·apply z;rcases B with y|y|y
     ·simp[y]
     ·simp[y]
     ·simp[y]
   have W:=k _ (wR) (λz=>O (by simp[sub _ z]));refine⟨a0 :: (fA++(f2++fB)),?_,?_,?_⟩
   ·unfold setP;rw[h3];exact .ls (by rw[W.1];exact h1) W.2 rA
   ·refine v5.mpr ⟨λz=>?_,?_⟩
    ·rcases vX.mp z with y|y
     ·exact O (by simp[y])
     ·rcases vX.mp y with y|y
      ·rcases m2 _ y with⟨M,_⟩|M
       ·exact O (by simp[M])
       ·exact G _ (.inr (.inr rfl)) M
      ·exact O (by simp[y])
    ·refine wV.mpr ⟨ndA,wV.mpr ⟨n2,ndB,λa I b B=>?_⟩,λa I b B=>?_⟩
     ·rcases m2 a I with⟨y,_⟩|y
      ·exact Y a y b B
      ·intro z;subst z;exact G a (.inr (.inl B)) y
     ·rcases vX.mp B with y|y
      ·rcases m2 b y with⟨y,_⟩|y
       ·exact J a I b (by simp[y])
       ·intro z;subst z;exact G a (.inl I) y
      ·exact J a I b (by simp[y])
   ·intro b B;rcases vT.mp B with y|y
    ·subst y;exact .inl ⟨by simp,λz=>O (by simp[sub _ z])⟩
    ·rcases vX.mp y with y|y
     ·exact .inl ⟨by simp[y],q b (.inl y)⟩
     ·rcases vX.mp y with y|y
      ·rcases m2 b y with⟨M,y2⟩|M
       ·exact .inl ⟨by simp[M],y2⟩
       ·exact .inr M
      ·exact .inl ⟨by simp[y],q b (.inr y)⟩
|@tx a0 xs0 ts0 j0 x0 v0 t0 u0 p0 h1 h2 h3 _ ih =>
  intro fp hr nd;cases hr with
 |tp g1 g2 g3 =>
   rw[h1]at g1;cases g1;obtain⟨fA,fj,fB,e,hj,rep⟩:=g3.split h2 h3;subst e;have ndR:=(v5.mp nd).2;have O:=(v5.mp nd).1;obtain⟨ndA,Z,J⟩:=wV.mp ndR;obtain⟨ndj,ndB,Y⟩:=wV.mp Z;obtain⟨fn,hn,sub,ndn,back⟩:=ih hj ndj;refine⟨fn,hn,λa I=>by simp[sub a I],ndn,λ{F2 H2 u2 fq} s k hu nq hq=>?_⟩;obtain⟨f2,r2,n2,m2⟩:=back s (λb B hnb=>k b (by simp[B]) hnb) hu nq λb B=>by
    rcases hq b B with z|z
    ·exact .inl z
    ·exact .inr λy=>z (by simp[y])
   have q:∀b,b∈fA \/ b∈fB->b ∉ fn:=λb B hn'=>by
    have:=sub b hn';rcases B with z|z
    ·exact J b z b (by simp[this]) rfl
    ·exact Y b this b z rfl
   have rA:=rep s (λb B=>by
    have S:=vX.mp B;refine k b (by rcases S with z|z <;> simp[z]) (q b S)) r2
   have G:∀b,(b∈fA \/ b∈fB \/ b=a0)->b ∉ fq:=λb B hbq=>by
    rcases hq b hbq with z|z
    ·rcases B with y|y|y
     ·exact q b (.inl y) z
     ·exact q b (.inr y) z
     ·subst y;exact O (by simp[sub _ z])
    ·apply z;rcases B with y|y|y
     ·simp[y]
     ·simp[y]
     ·simp[y]
   have W:=k _ (wR) (λz=>O (by simp[sub _ z]));refine⟨a0 :: (fA++(f2++fB)),?_,?_,?_⟩
   ·unfold setP;rw[h3];exact .tp (by rw[W.1];exact h1) W.2 rA
   ·refine v5.mpr ⟨λz=>?_,?_⟩
    ·rcases vX.mp z with y|y
     ·exact O (by simp[y])
     ·rcases vX.mp y with y|y
      ·rcases m2 _ y with⟨M,_⟩|M
       ·exact O (by simp[M])
       ·exact G _ (.inr (.inr rfl)) M
      ·exact O (by simp[y])
    ·refine wV.mpr ⟨ndA,wV.mpr ⟨n2,ndB,λa I b B=>?_⟩,λa I b B=>?_⟩
     ·rcases m2 a I with⟨y,_⟩|y
      ·exact Y a y b B
      ·intro z;subst z;exact G a (.inr (.inl B)) y
     ·rcases vX.mp B with y|y
      ·rcases m2 b y with⟨y,_⟩|y
       ·exact J a I b (by simp[y])
       ·intro z;subst z;exact G a (.inl I) y
      ·exact J a I b (by simp[y])
   ·intro b B;rcases vT.mp B with y|y
    ·subst y;exact .inl ⟨by simp,λz=>O (by simp[sub _ z])⟩
    ·rcases vX.mp y with y|y
     ·exact .inl ⟨by simp[y],q b (.inl y)⟩
     ·rcases vX.mp y with y|y
      ·rcases m2 b y with⟨M,y2⟩|M
       ·exact .inl ⟨by simp[M],y2⟩
       ·exact .inr M
      ·exact .inl ⟨by simp[y],q b (.inr y)⟩
|@fl a0 C0 dx0 fs0 ts0 f0 x0 v0 t0 u0 p0 h1 h2 h3 _ ih =>
  intro fp hr nd;cases hr with
 |ob g1 g2 g3 g4 g5 =>
   rw[h1]at g1;cases g1;obtain⟨fA,fj,fB,e,hj,rep,_⟩:=g5.split h2 h3;subst e;have nd1:=v5.mp nd;have nd2:=v5.mp nd1.2;have ndR:=nd2.2;have O:_ ∉ fA++(fj++fB):=λz=>nd1.1 (wC _ z);have nX:=nd2.1;obtain⟨ndA,Z,J⟩:=wV.mp ndR;obtain⟨ndj,ndB,Y⟩:=wV.mp Z;obtain⟨fn,hn,sub,ndn,back⟩:=ih hj ndj;refine⟨fn,hn,λa I=>by simp[sub a I],ndn,λ{F2 H2 u2 fq} s k hu nq hq=>?_⟩;obtain⟨f2,r2,n2,m2⟩:=back s (λb B hnb=>k b (by simp[B]) hnb) hu nq λb B=>by
    rcases hq b B with z|z
    ·exact .inl z
    ·exact .inr λy=>z (by simp[y])
   have q:∀b,b∈fA \/ b∈fB->b ∉ fn:=λb B hn'=>by
    have:=sub b hn';rcases B with z|z
    ·exact J b z b (by simp[this]) rfl
    ·exact Y b this b z rfl
   have rA:=rep s (λb B=>by
    have S:=vX.mp B;refine k b (by rcases S with z|z <;> simp[z]) (q b S)) r2
   have G:∀b,(b∈fA \/ b∈fB)->b ∉ fq:=λb B hbq=>by
    rcases hq b hbq with z|z
    ·exact q b B z
    ·apply z;rcases B with y|y <;> simp[y]
   have L:∀b,b∈fn->b∈fA++(fj++fB):=λb B=>by simp[sub _ B]
   have W:=k _ (wR) (λz=>O (L _ z));have hx2:=k _ (wC _ wR) (λz=>nX (L _ z));have hf2:∀b∈f2,b∈fj \/ b∈fq:=λb B=>by
    rcases m2 b B with⟨y,_⟩|y
    ·exact .inl y
    ·exact .inr y
   refine⟨a0 :: dx0 :: (fA++(f2++fB)),?_,?_,?_⟩
   ·unfold setP;rw[h3];exact .ob (by rw[W.1];exact h1) (by rw[hx2.1];exact g2) W.2 hx2.2 rA
   ·have inR:∀b,b∈fA++(f2++fB)->b∈fA++(fj++fB) \/ b∈fq:=λb B=>by
     rcases vX.mp B with y|y
     ·exact .inl (by simp[y])
     ·rcases vX.mp y with y|y
      ·rcases hf2 b y with y|y
       ·exact .inl (by simp[y])
       ·exact .inr y
      ·exact .inl (by simp[y])
    refine v5.mpr ⟨λz=>?_,v5.mpr ⟨λz=>?_,?_⟩⟩
    ·rcases vT.mp z with y|y
     ·exact nd1.1 (by rw[y];simp)
     ·rcases inR _ y with y|y
      ·exact O y
      ·rcases hq _ y with w|w
       ·exact O (L _ w)
       ·exact w (by simp)
    ·rcases inR _ z with y|y
     ·exact nX y
     ·rcases hq _ y with w|w
      ·exact nX (L _ w)
      ·exact w (by simp)
    ·refine wV.mpr ⟨ndA,wV.mpr ⟨n2,ndB,λa I b B=>?_⟩,λa I b B=>?_⟩
     ·rcases m2 a I with⟨y,_⟩|y
      ·exact Y a y b B
      ·intro z;subst z;exact G a (.inr B) y
     ·rcases vX.mp B with y|y
      ·rcases m2 b y with⟨y,_⟩|y
       ·exact J a I b (by simp[y])
       ·intro z;subst z;exact G a (.inl I) y
      ·exact J a I b (by simp[y])
   ·intro b B;rcases vT.mp B with y|y
    ·subst y;exact .inl ⟨by simp,λz=>O (L _ z)⟩
    ·rcases vT.mp y with y|y
     ·subst y;exact .inl ⟨by simp,λz=>nX (L _ z)⟩
     ·rcases vX.mp y with y|y
      ·exact .inl ⟨by simp[y],q b (.inl y)⟩
      ·rcases vX.mp y with y|y
       ·rcases m2 b y with⟨M,y2⟩|M
        ·exact .inl ⟨by simp[M],y2⟩
        ·exact .inr M
       ·exact .inl ⟨by simp[y],q b (.inr y)⟩
end
def AtS(H:Hp)(Y:_2.St)(U:DSt)(i:Nat)(p:Pth)(v:V)(u:T):Prop:=∃s t x,U[i]?=some s/\s.tree=some t/\Y.getD i none=some x/\At H x t p v u
abbrev DP:=DSt->(Nat->Pth->T->Prop)->Prop
def RfP(K:Fg)(q:TE)(z:DP):Prop:=∀{F H:Hp}{Y:_2.St}{U:DSt}{Qd:Nat->Pth->T->Prop}{Q:VK},Same F H->RV K F H Y U->z U Qd->(∀i p u,Qd i p u->∀v B H',Ext F H B H'->AtS H' Y U i p v u->Q v H')->q Y H Q
section
variable {K:Fg}{te ti:TE}{dp:DP}{di:DE}
theorem zvi1{F H:Hp}{v:V}{t u:T}{p:Pth}(h:At H x t p v u):∀{fp:List aE},Rt K F H x t fp->∃fn,Rt K F H v u fn:=by
 induction h with
|nil=>intro fp hr;exact⟨fp,hr⟩
|ix J I G _ z =>
  intro fp hr;cases hr with
 |ls q M L =>
   rw[J]at q;cases q;obtain⟨S,O,fB,e,B,_⟩:=L.split I G;exact z B
|tx J I G _ z =>
  intro fp hr;cases hr with
 |tp q M L =>
   rw[J]at q;cases q;obtain⟨S,O,fB,e,B,_⟩:=L.split I G;exact z B
|fl J I G _ z =>
  intro fp hr;cases hr with
 |ob q M L Y W =>
   rw[J]at q;cases q;obtain⟨S,O,fB,e,B,_⟩:=W.split I G;exact z B
theorem AtS.rt{F H:Hp}{Y:_2.St}{U:DSt}{i:Nat}{p:Pth}{v:V}{u:T}(h:AtS H Y U i p v u)(r:RV K F H Y U):∃fn,Rt K F H v u fn:=by
 obtain⟨s,t,x,G,B,z,q⟩:=h;obtain⟨y,fp,e,hr,_⟩:=(r.sl i s G).rt B;rw[z]at e;cases e;exact zvi1 q hr
theorem AtS.mono{H H':Hp}{Y:_2.St}{U:DSt}{i:Nat}{p:Pth}{v:V}{u:T}(s:Same H H')(h:AtS H Y U i p v u):AtS H' Y U i p v u:=by
 obtain⟨s',t,x,G,B,z,q⟩:=h;exact⟨s',t,x,G,B,z,q.mono s⟩
def pVar(i:Nat):DP:=λU Q=>pAt U i λt=>Q i [] t
theorem zv0(i:Nat):RfP K (tVar i) (pVar i):=by
 walk_at"25";obtain⟨sl,t,q,p,f⟩:=zhv h;obtain⟨x,fp,e,hr,_⟩:=(r.sl i _ q).rt p;exact⟨x,zub (F:=F) (H:=H) (U:=U) e,k i [] t f x F H (Ext.refl s) ⟨sl,t,x,q,p,e,.nil⟩⟩
def nFld(f:Str)(u:T)(Q:T->Prop):Prop:=match u with
|.ob _ fs=>∃t,fs.lookup f=some t/\Q t
|_=>False
def nCls(C:aE)(u:T):Prop:=match u with
|.ob p _=>p=C
|_=>False
def pFld(C:aE)(f:Str)(dp:DP):DP:=λU Q=>dp U λi p u=>nCls C u/\nFld f u λt=>Q i (p++[.fl f]) t
theorem zh4(c:Cls K C)(M:NoAttr K C f)(h:RfP K te dp):RfP K (zgh1 K te f) (pFld C f dp):=by
 walk_at"37";refine h s r hd λi p u O v F1 H1 L B=>?_;obtain⟨z,hf⟩:=O;obtain⟨fn,hr⟩:=B.rt (r.ext L);cases hr with
|ob G g2 g3 g4 S =>
  cases (show _=C from z);obtain⟨t,J,q⟩:=hf;obtain⟨y,I⟩:=(S.keys f).2.1 t J;refine⟨_,_,_,_,y,rfl,G,c,M,I,k i _ t q y F1 H1 L ?_⟩;obtain⟨sl,t0,x,a1,a2,Z,W⟩:=B;exact⟨sl,t0,x,a1,a2,Z,W.snoc_fl G I J⟩
|fz _=>exact z.elim
|li _ _ _=>exact z.elim
|ls _ _ _=>exact z.elim
|dk _ _ _=>exact z.elim
|dt _ _ _=>exact z.elim
|tp _ _ _=>exact z.elim
def nIx(u:T)(k:D)(Q:Nat->T->Prop):Prop:=match u,k with
|.ls ts,.int z=>∃j t,ixN ts.length z=some j/\ts[j]?=some t/\Q j t
|.tp ts,.int z=>∃j t,ixN ts.length z=some j/\ts[j]?=some t/\Q j t
|_,_=>False
def pIx(dp:DP)(di:DE):DP:=λU Q=>dp U λi p u=>di U λk=>nIx u k λj t=>Q i (p++[.ix j]) t
theorem zqb1{w:aP}(h:RfP K te dp)(hi:RfE K ti di):RfP K (tOp (rIxV w K) te ti) (pIx dp di):=by
 walk_at"37";refine h s r hd λi p u hu v F1 H1 Z at1=>hi Z.fh (r.ext Z) hu λkd L kv F2 H2 e2 i2=>?_;have G:=Z.trans e2;have I:=at1.mono e2.h;obtain⟨fn,hr⟩:=I.rt (r.ext G);unfold nIx at L;split at L
 ·rename_i ts z
  obtain⟨j,t,W,B,q⟩:=L;cases i2.int_inv;cases hr with
 |ls M g2 O =>
   have S:=O.len;have hj:j < ts.length:=by
    rcases wZ j ts.length with y|y
    ·exact y
    ·rw[wG y]at B;cases B
   rename_i a xs fp
   obtain⟨y,J⟩:∃y,xs[j]?=some y:=⟨xs[j]'(by lia),u4 _⟩
   refine .inl (.inl (.inl ⟨a,xs,z,y,rfl,rfl,SqL.of M,?_,k i _ t q _ F2 H2 G ?_⟩))
   ·unfold atI;rw[S,W];exact J
   ·obtain⟨sl,t0,x,a1,a2,a3,a4⟩:=I;exact⟨sl,t0,x,a1,a2,a3,a4.snoc_ix (y:=x) M J B⟩
 ·rename_i ts z
  obtain⟨j,t,W,B,q⟩:=L;cases i2.int_inv;cases hr with
 |tp M g2 O =>
   have S:=O.len;have hj:j < ts.length:=by
    rcases wZ j ts.length with y|y
    ·exact y
    ·rw[wG y]at B;cases B
   rename_i a xs fp
   obtain⟨y,J⟩:∃y,xs[j]?=some y:=⟨xs[j]'(by lia),u4 _⟩
   refine .inl (zii1 (SqT.of M) (v:=y) ?_ (k i _ t q _ F2 H2 G ?_))
   ·unfold atI;rw[S,W];exact J
   ·obtain⟨sl,t0,x,a1,a2,a3,a4⟩:=I;exact⟨sl,t0,x,a1,a2,a3,a4.snoc_tx (y:=x) M J B⟩
 ·exact L.elim
def dPV(dp:DP):DE:=λU Q=>dp U λ_ _ u=>vwT u Q
def dPE(dp:DP):DE:=λU Q=>dp U λ_ _ u=>fzT u Q
theorem RfP.v(h:RfP K te dp):RfV K te (dPV dp):=λs r d k=>h s r d λi p u I v L J z q=>by
 obtain⟨fn,hr⟩:=q.rt (r.ext z);obtain⟨d,G,B⟩:=zug1 hr I;exact k d G v L J z B
theorem RfP.e(h:RfP K te dp):RfE K te (dPE dp):=λs r d k=>h s r d λi p u I v L J z q=>by
 obtain⟨fn,hr⟩:=q.rt (r.ext z);obtain⟨d,G,B⟩:=zo71 hr I;exact k d G v L J z B
end
structure Bs where
 F0:Hp
 H0:Hp
 G:List aE
def Sl.own:Sl->Bool
|.ow _=>true
|.io _ _=>true
|_=>false
def Sl.has:Sl->Bool
|.ow _=>true
|.io _ _=>true
|.bo _=>true
|_=>false
def Sl.wth:Sl->T->Sl
|.ow _,u=>.ow u
|.io a _,u=>.io a u
|s,_=>s
structure RS(K:Fg)(B:Bs)(F H:Hp)(Y:_2.St)(U:DSt)(fps:Nat->List aE):Prop where
 hh:∀b o,b ∉ B.G->B.H0 b=some o->H b=some o
 ff:Same B.F0 F
 fh:Same F H
 nw:∀b,B.H0 b≠none->B.F0 b=none->F b=none
 al:∀b,B.H0 b≠none->H b≠none
 len:Y.length=U.length
 sh:∀(i:Nat) d,U[i]?=some (.sh d)->∃x,Y.getD i none=some x/\Is K F x d
 rt:∀(i:Nat) s,U[i]?=some s->s.has=true->∃x t,Y.getD i none=some x/\s.tree=some t/\Rt K F H x t (fps i)/\(∀a u,s=.io a u->x=.ref a)/\(fps i).Nodup
 fr:∀(i:Nat) s,U[i]?=some s->s.own=true->∀a∈fps i,B.H0 a=none \/ (a∈B.G/\∀t,s≠.ow t)
 dj:∀(i j:Nat) s s',i≠j->U[i]?=some s->U[j]?=some s'->s.own=true->s'.has=true->∀a∈fps i,a ∉ fps j
section
variable {K:Fg}{B:Bs}{F H F' H':Hp}{Y:_2.St}{U:DSt}{fps:Nat->List aE}
theorem zs9:∀{s:Sl},s.own=true->s.has=true
|.ow _,_=>rfl
|.io _ _,_=>rfl
|.un,e=>by cases e
|.sh _,e=>by cases e
|.bo _,e=>by cases e
theorem RS.rv(r:RS K B F H Y U fps):RV K F H Y U:=⟨r.len,λi s e=>by
 cases s with
|un=>trivial
|sh d=>exact r.sh i d e
|ow t =>
  obtain⟨x,t',z,u,q,G,p⟩:=r.rt i _ e rfl;cases u;exact⟨x,_,z,q,p⟩
|bo t =>
  obtain⟨x,t',z,u,q,G,p⟩:=r.rt i _ e rfl;cases u;exact⟨x,_,z,q,p⟩
|io a t =>
  obtain⟨x,t',z,u,q,G,p⟩:=r.rt i _ e rfl;cases u;cases G a t rfl;exact⟨_,z,q,p⟩⟩
theorem RS.grow(r:RS K B F H Y U fps)(e:Ext F H F' H'):RS K B F' H' Y U fps where
 hh:=λb o p I=>e.h b o (r.hh b o p I)
 ff:=r.ff.trans e.f
 fh:=e.fh
 nw:=λb p J=>e.nw b (r.al b p) (r.nw b p J)
 al:=λb p z=>by
  cases q:H b with
 |none=>exact r.al b p q
 |some o=>rw[e.h b o q]at z;cases z
 len:=r.len
 sh:=λi d h=>by obtain⟨x,G,u⟩:=r.sh i d h;exact⟨x,G,u.mono e.f⟩
 rt:=λi s G u=>by obtain⟨x,t,W,S,O,M,L⟩:=r.rt i s G u;exact⟨x,t,W,S,O.ext e,M,L⟩
 fr:=r.fr
 dj:=r.dj
theorem RS.setS(r:RS K B F H Y U fps){v:V}{d:D}(h:Is K F v d):RS K B F H (Y.set i (some v)) (U.set i (.sh d)) fps:=by
 have key:∀(j:Nat) s,(U.set i (.sh d))[j]?=some s->(j=i/\s=.sh d/\(Y.set i (some v)).getD j none=some v) \/ (j≠i/\U[j]?=some s/\(Y.set i (some v)).getD j none=Y.getD j none):=λj s e=>by
  rw[xT]at e;by_cases G:i=j
  ·subst G;by_cases hl:i < U.length
   ·simp[hl]at e;exact .inl ⟨rfl,e.symm,by rw[zf7,r.len,aH ⟨rfl,hl⟩]⟩
   ·simp[hl]at e
  ·simp[G]at e;exact .inr ⟨λz=>G z.symm,e,by rw[zf7,aF (by lia)]⟩
 refine⟨r.hh,r.ff,r.fh,r.nw,r.al,by rw[wK,wK];exact r.len,λj d' e=>?_,λj s e u=>?_,λj s e u=>?_,λj k s s' J W p I o2=>?_⟩
 ·rcases key j _ e with⟨_,p,q⟩|⟨_,p,q⟩
  ·cases p;exact⟨v,q,h⟩
  ·obtain⟨x,S,O⟩:=r.sh j d' p;exact⟨x,by rw[q];exact S,O⟩
 ·rcases key j _ e with⟨_,p,q⟩|⟨_,p,q⟩
  ·rw[p]at u;cases u
  ·rw[q];exact r.rt j s p u
 ·rcases key j _ e with⟨_,p,q⟩|⟨_,p,q⟩
  ·rw[p]at u;cases u
  ·exact r.fr j s p u
 ·rcases key j _ W with⟨_,z,_⟩|⟨_,M,_⟩
  ·rw[z]at I;cases I
  ·rcases key k _ p with⟨_,z,_⟩|⟨_,L,_⟩
   ·rw[z]at o2;cases o2
   ·exact r.dj j k s s' J M L I o2
theorem RS.byUpd{p:_2.St}(u:Upd K F n Y U p U')(r:RS K B F H Y U fps):RS K B F H p U' fps:=by
 induction u with
|refl=>exact r
|set hi z _ q=>exact q (r.setS z)
theorem RS.forget(r:RS K B F H Y U fps)(i:Nat):RS K B F H Y (U.set i .un) fps:=by
 have key:∀(j:Nat) s,(U.set i .un)[j]?=some s->s=.un \/ (j≠i/\U[j]?=some s):=λj s e=>by
  rw[xT]at e;by_cases q:i=j
  ·subst q;by_cases hl:i < U.length
   ·simp[hl]at e;exact .inl e.symm
   ·simp[hl]at e
  ·simp[q]at e;exact .inr ⟨λz=>q z.symm,e⟩
 refine⟨r.hh,r.ff,r.fh,r.nw,r.al,by rw[wK];exact r.len,λj d' e=>?_,λj s e p=>?_,λj s e p=>?_,λj k s s' G M L u o2=>?_⟩
 ·rcases key j _ e with z|⟨_,z⟩
  ·cases z
  ·exact r.sh j d' z
 ·rcases key j _ e with z|⟨_,z⟩
  ·rw[z]at p;cases p
  ·exact r.rt j s z p
 ·rcases key j _ e with z|⟨_,z⟩
  ·rw[z]at p;cases p
  ·exact r.fr j s z p
 ·rcases key j _ M with z|⟨_,J⟩
  ·rw[z]at u;cases u
  ·rcases key k _ L with z|⟨_,I⟩
   ·rw[z]at o2;cases o2
   ·exact r.dj j k s s' G J I u o2
def zbb1(B:Bs)(U:DSt)(fps:Nat->List aE)(b:aE):Prop:=B.H0 b=none/\∀(j:Nat) s,U[j]?=some s->s.has=true->b ∉ fps j
theorem RS.newOk(r:RS K B F H Y U fps){b:aE}(h:H b=none):zbb1 B U fps b:=by
 refine⟨?_,λj s u p q=>?_⟩
 ·by_cases z:B.H0 b=none
  ·exact z
  ·exact aL h (r.al b z)
 ·obtain⟨x,t,M,L,G,J,I⟩:=r.rt j s u p;exact(G.dom b q).1 h
theorem RS.upd2(r:RS K B F H Y U fps){s:Sl}{J:T}{M:List aE}{F2 H2:Hp}(hi:U[i]?=some s)(I:s.own=true)(hx:Y.getD i none=some x)
  (c1:∀b o,b ∉ fps i->H b=some o->H2 b=some o) (c2:Same F F2) (c3:Same F2 H2) (c4:∀b,H b≠none->F b=none->b ∉ fps i->F2 b=none) (c5:∀b,H b≠none->H2 b≠none)
  (h2:Rt K F2 H2 x J M) (n2:M.Nodup) (m2:∀b∈M,b∈fps i \/ zbb1 B U fps b) (c6:∀b∈fps i,F2 b≠none->B.H0 b=none) :
  RS K B F2 H2 Y (U.set i (s.wth J)) (λj=>if j=i then M else fps j):=by
 have hlt:i < U.length:=by
  rcases wZ i U.length with z|z
  ·exact z
  ·rw[wG z]at hi;cases hi
 have hs:=zs9 I;have wo:(s.wth J).own=true/\(s.wth J).has=true/\(s.wth J).tree=some J:=by
  cases s with
 |ow _=>exact⟨rfl,rfl,rfl⟩
 |io _ _=>exact⟨rfl,rfl,rfl⟩
 |un=>cases I
 |sh _=>cases I
 |bo _=>cases I
 have key:∀(j:Nat) s',(U.set i (s.wth J))[j]?=some s'->(j=i/\s'=s.wth J) \/ (j≠i/\U[j]?=some s'):=λj s' e=>by
  rw[xT]at e;by_cases W:i=j
  ·subst W;simp[hlt]at e;exact .inl ⟨rfl,e.symm⟩
  ·simp[W]at e;exact .inr ⟨λz=>W z.symm,e⟩
 have old:∀b∈fps i,H b≠none/\F b=none:=by
  obtain⟨x',t',a1,a2,a3,a4,a5⟩:=r.rt i s hi hs;exact a3.dom
 have S:=r.fr i s hi I;refine⟨λb o O h0=>?_,r.ff.trans c2,c3,λb O fb=>?_,λb O=>c5 b (r.al b O),by rw[wK];exact r.len,λj d e=>?_,λj s' e hs'=>?_,λj s' e ho' a G=>?_,λj k s1 s2 L e1 e2 o1 o2 a G=>?_⟩
 ·refine c1 b o (λz=>?_) (r.hh b o O h0);rcases S b z with y|y
  ·rw[y]at h0;cases h0
  ·exact O y.1
 ·by_cases hbi:b∈fps i
  ·cases z:F2 b with
  |none=>rfl
  |some o=>exact aL (c6 b hbi (by rw[z];simp)) O
  ·exact c4 b (r.al b O) (r.nw b O fb) hbi
 ·rcases key j _ e with⟨_,z⟩|⟨_,z⟩
  ·rw[<- z]at wo;cases wo.1
  ·obtain⟨y,h1,h2⟩:=r.sh j d z;exact⟨y,h1,h2.mono c2⟩
 ·rcases key j _ e with⟨p,z⟩|⟨p,z⟩
  ·subst p;rw[aH rfl];refine⟨x,J,hx,by rw[z];exact wo.2.2,h2,λa u e'=>?_,n2⟩;obtain⟨x',t',a1,a2,a3,a4,a5⟩:=r.rt j s hi hs;rw[hx]at a1;cases a1;cases s with
  |ow _=>rw[z]at e';cases e'
  |io a' u'=>rw[z]at e';cases e';exact a4 _ _ rfl
  |un=>cases I
  |sh _=>cases I
  |bo _=>cases I
  ·rw[aF p];obtain⟨y,t',a1,a2,a3,a4,a5⟩:=r.rt j s' z hs';refine⟨y,t',a1,a2,a3.frame c2 λa G=>?_,a4,a5⟩;obtain⟨d1,d2⟩:=a3.dom a G;have na:a ∉ fps i:=λw=>r.dj i j s s' (λq=>p q.symm) hi z I hs' a w G;cases q:H a with
  |none=>exact aL q d1
  |some o=>exact⟨c1 a o na q,c4 a d1 d2 na⟩
 ·rcases key j _ e with⟨p,z⟩|⟨p,z⟩
  ·rw[aH p]at G;rcases m2 a G with y|y
   ·rcases S a y with w|⟨w1,w2⟩
    ·exact .inl w
    ·refine .inr ⟨w1,λt et=>?_⟩;rw[z]at et;cases s with
    |ow t'=>exact w2 t' rfl
    |io _ _=>cases et
    |un=>cases I
    |sh _=>cases I
    |bo _=>cases I
   ·exact .inl y.1
  ·rw[aF p]at G;exact r.fr j s' z ho' a G
 ·rcases key j _ e1 with⟨p,z1⟩|⟨p,z1⟩ <;> rcases key k _ e2 with⟨Z,z2⟩|⟨Z,z2⟩
  ·exact aL (p.trans Z.symm) L
  ·rw[aH p]at G;rw[aF Z];subst p;rcases m2 a G with y|y
   ·exact r.dj j k s s2 L hi z2 I o2 a y
   ·exact y.2 k s2 z2 o2
  ·rw[aF p]at G;rw[aH Z];subst Z;intro w;rcases m2 a w with y|y
   ·exact r.dj j k s1 s L z1 hi o1 hs a G y
   ·exact y.2 j s1 z1 (zs9 o1) G
  ·rw[aF p]at G;rw[aF Z];exact r.dj j k s1 s2 L z1 z2 o1 o2 a G
theorem RS.setT(r:RS K B F H Y U fps){v:V}{t:T}(h:Rt K F H v t fp)(nd:fp.Nodup)(hf:∀a∈fp,B.H0 a=none)(hd:∀(j:Nat) s,U[j]?=some s->s.has=true->∀a∈fps j,a ∉ fp) :
  RS K B F H (Y.set i (some v)) (U.set i (.ow t)) (λj=>if j=i then fp else fps j):=by
 have key:∀(j:Nat) s,(U.set i (.ow t))[j]?=some s->(j=i/\s=.ow t/\(Y.set i (some v)).getD j none=some v) \/ (j≠i/\U[j]?=some s/\(Y.set i (some v)).getD j none=Y.getD j none):=λj s e=>by
  rw[xT]at e;by_cases J:i=j
  ·subst J;by_cases hl:i < U.length
   ·simp[hl]at e;exact .inl ⟨rfl,e.symm,by rw[zf7,r.len,aH ⟨rfl,hl⟩]⟩
   ·simp[hl]at e
  ·simp[J]at e;exact .inr ⟨λz=>J z.symm,e,by rw[zf7,aF (by lia)]⟩
 refine⟨r.hh,r.ff,r.fh,r.nw,r.al,by rw[wK,wK];exact r.len,λj d' e=>?_,λj s e W=>?_,λj s e W a G=>?_,λj k s s' M e1 q Z o2 a G=>?_⟩
 ·rcases key j _ e with⟨_,q,I⟩|⟨_,q,I⟩
  ·cases q
  ·obtain⟨x,h1,h2⟩:=r.sh j d' q;exact⟨x,by rw[I];exact h1,h2⟩
 ·rcases key j _ e with⟨p,q,I⟩|⟨p,q,I⟩
  ·rw[aH p,I,q];exact⟨v,t,rfl,rfl,h,λa u z=>(by cases z),nd⟩
  ·rw[aF p,I];exact r.rt j s q W
 ·rcases key j _ e with⟨p,q,I⟩|⟨p,q,I⟩
  ·rw[aH p]at G;exact .inl (hf a G)
  ·rw[aF p]at G;exact r.fr j s q W a G
 ·rcases key j _ e1 with⟨p,S,_⟩|⟨p,S,_⟩ <;> rcases key k _ q with⟨L,O,_⟩|⟨L,O,_⟩
  ·exact aL (p.trans L.symm) M
  ·rw[aH p]at G;rw[aF L];exact λw=>hd k s' O o2 a w G
  ·rw[aF p]at G;rw[aH L];exact hd j s S (zs9 Z) a G
  ·rw[aF p]at G;rw[aF L];exact r.dj j k s s' M S O Z o2 a G
theorem RS.put(r:RS K B F H Y U fps){s:Sl}{p:Pth}{v:V}{u:T}(hi:U[i]?=some s)(M:s.own=true)(ha:AtS H Y U i p v u) :
  ∃fn t,s.tree=some t/\Rt K F H v u fn/\fn.Nodup/\(∀a∈fn,a∈fps i)/\∀{F2 H2:Hp}{u2:T}{fq:List aE},
   (∀b o,b ∉ fn->H b=some o->H2 b=some o)->Same F F2->Same F2 H2->(∀b,H b≠none->F b=none->b ∉ fn->F2 b=none)->(∀b,H b≠none->H2 b≠none)->(∀b∈fn,F2 b≠none->B.H0 b=none) ->
   Rt K F2 H2 v u2 fq->fq.Nodup->(∀b∈fq,b∈fn \/ zbb1 B U fps b)->∃I,RS K B F2 H2 Y (U.set i (s.wth (setP t p u2))) I/\(∀j,j≠i->I j=fps j)/\∀b∈I i,b∈fps i \/ b∈fq:=by
 obtain⟨s',t,x,h1,h2,h3,h4⟩:=ha;rw[hi]at h1;cases h1;obtain⟨x',t',a1,a2,W,a4,a5⟩:=r.rt i s hi (zs9 M);rw[h3]at a1;cases a1;rw[h2]at a2;cases a2;obtain⟨fn,hn,sub,Z,back⟩:=zqd1 h4 W a5;refine⟨fn,t,h2,hn,Z,sub,λ{F2 H2 u2 fq} c1 c2 c3 S c5 c6 hu nq mq=>?_⟩;obtain⟨fp2,r2,n2,m2⟩:=back c2 (λb G J=>by
  obtain⟨L,O⟩:=W.dom b G;cases q:H b with
 |none=>exact aL q L
 |some o=>exact⟨c1 b o J q,S b L O J⟩) hu nq λb G=>by
   rcases mq b G with z|z
   ·exact .inl z
   ·exact .inr (z.2 i s hi (zs9 M))
 refine⟨_,r.upd2 hi M h3 (λb o G=>c1 b o λz=>G (sub b z)) c2 c3 (λb G fb hbi=>S b G fb λz=>hbi (sub b z)) c5 r2 n2 (λb G=>?_) (λb G f2=>?_),λj hj=>aF hj,λb G=>?_⟩
 ·rcases m2 b G with⟨y,_⟩|y
  ·exact .inl y
  ·rcases mq b y with z|z
   ·exact .inl (sub b z)
   ·exact .inr z
 ·by_cases z:b∈fn
  ·exact c6 b z f2
  ·obtain⟨L,O⟩:=W.dom b G;exact aL (S b L O z) f2
 ·rw[aH rfl]at G;rcases m2 b G with⟨y,_⟩|y
  ·exact .inl y
  ·exact .inr y
end
structure Res(K:Fg)(B:Bs)(F H:Hp)(Y:_2.St)(U:DSt)(fps:Nat->List aE)(v:V)(r:T)(fpr:List aE):Prop where
 rs:RS K B F H Y U fps
 rt:Rt K F H v r fpr
 nd:fpr.Nodup
 fr:∀a∈fpr,B.H0 a=none
 dj:∀(j:Nat) s,U[j]?=some s->s.has=true->∀a∈fps j,a ∉ fpr
abbrev DC:=DSt->(T->DSt->Prop)->Prop
def RfC(K:Fg)(q:TE)(u:DC):Prop:=∀{B:Bs}{F H:Hp}{Y:_2.St}{U:DSt}{fps:Nat->List aE}{Qd:T->DSt->Prop}{Q:VK},RS K B F H Y U fps->u U Qd->(∀r U',Qd r U'->∀v z H' p fpr,Res K B z H' Y U' p v r fpr->Q v H')->q Y H Q
structure DEnds where
 nx:DSt->Prop
 rt:T->DSt->Prop
 bk:DSt->Prop:=λ_=>False
 ct:DSt->Prop:=λ_=>False
abbrev DS:=DEnds->DSt->Prop
structure En(K:Fg)(B:Bs)(E:DEnds)(Z:Ends):Prop where
 nx:∀{F H:Hp}{Y:_2.St}{U:DSt}{fps:Nat->List aE},RS K B F H Y U fps->E.nx U->Z.nx Y H
 bk:∀{F H:Hp}{Y:_2.St}{U:DSt}{fps:Nat->List aE},RS K B F H Y U fps->E.bk U->Z.bk Y H
 ct:∀{F H:Hp}{Y:_2.St}{U:DSt}{fps:Nat->List aE},RS K B F H Y U fps->E.ct U->Z.ct Y H
 rt:∀{F H:Hp}{Y:_2.St}{U:DSt}{fps:Nat->List aE}{v:V}{r:T}{fpr:List aE},Res K B F H Y U fps v r fpr->E.rt r U->Z.rt v H
def RfS(K:Fg)(ts:TS)(ds:DS):Prop:=∀{B:Bs}{F H:Hp}{Y:_2.St}{U:DSt}{fps:Nat->List aE}{E:DEnds}{Z:Ends},RS K B F H Y U fps->ds E U->En K B E Z->ts Z Y H
section
variable {K:Fg}{te ta ti:TE}{de da di:DE}{dc:DC}{tt:TT}{dt:DT}{t u tb:TS}{d e db:DS}{tA:TA}{dA:DF}{g:TG}{dg:DG}{n:Nat}{dp:DP}
def cE(de:DE):DC:=λU Q=>de U λd=>Q (.fz d) U
theorem RfE.c(h:RfE K te de):RfC K te (cE de):=by
 walk_at"12";exact h r.fh r.rv hd λd q v J I G z=>k _ _ q v J I fps [] ⟨r.grow G,.fz z,.nil,λa p=>by simp at p,λ_ _ _ _ a _ p=>by simp at p⟩
def cF(df:DF):DC:=λU Q=>df U λds=>Q (.li ds) U
theorem RfF.c(h:RfF K te df):RfC K te (cF df):=by
 walk_at"12";refine h r.fh r.rv hd λds q a xs F1 H1 W I O M L=>k _ _ q (.ref a) F1 H1 fps [a] ⟨r.grow W,.li O M L,by simp,λb G=>?_,λj s S J b G p=>?_⟩
 ·simp at G;subst G;by_cases z:B.H0 b=none
  ·exact z
  ·exact aL I (r.al b z)
 ·simp at p;subst p;obtain⟨x,t,a1,a2,Z,a4,a5⟩:=r.rt j s S J;exact(Z.dom b G).1 I
def slot:T->Sl
|.fz d=>.sh d
|t=>.ow t
theorem Res.set{B:Bs}{F H:Hp}{Y:_2.St}{U:DSt}{fps:Nat->List aE}{v:V}{r:T}{fpr:List aE}(h:Res K B F H Y U fps v r fpr)(i:Nat):∃p,RS K B F H (Y.set i (some v)) (U.set i (slot r)) p:=by
 cases r with
|fz d=>cases h.rt with
 |fz hi=>exact⟨_,h.rs.setS hi⟩
|li ds=>exact⟨_,h.rs.setT h.rt h.nd h.fr h.dj⟩
|ls ds=>exact⟨_,h.rs.setT h.rt h.nd h.fr h.dj⟩
|ob C ds=>exact⟨_,h.rs.setT h.rt h.nd h.fr h.dj⟩
|dk ds=>exact⟨_,h.rs.setT h.rt h.nd h.fr h.dj⟩
|dt ds=>exact⟨_,h.rs.setT h.rt h.nd h.fr h.dj⟩
|tp ds=>exact⟨_,h.rs.setT h.rt h.nd h.fr h.dj⟩
def zfe:DS:=λE U=>E.nx U
theorem zm1:RfS K zng1 zfe:=λr h k=>k.nx r h
def dSeq(a b:DS):DS:=λE U=>∃J:DSt->Prop,a { E with nx:=J } U/\∀U',J U'->b E U'
theorem zl0(L:RfS K t d)(I:RfS K u e):RfS K (tSeq t u) (dSeq d e):=by
 walk_at"4";obtain⟨J,G,z⟩:=h;exact L r G ⟨λp q=>I p (z _ q) k,k.bk,k.ct,k.rt⟩
def dAsg(de:DE)(dg:DG):DS:=λE U=>de U λd=>dg d U E.nx
theorem zb1(I:RfE K te de)(G:RfG K n g dg):RfS K (tAsg te g) (dAsg de dg):=by
 walk_at"4";exact I r.fh r.rv h λd hd v M L p z=>G p.fh z hd λJ U' q u=>k.nx ((r.grow p).byUpd u) q
def dSet(i:Nat)(dc:DC):DS:=λE U=>dc U λr U'=>E.nx (U'.set i (slot r))
theorem zi4(I:RfC K te dc):RfS K (tAsg te (zjw i)) (dSet i dc):=by
 walk_at"4";refine I r h λJ U' q v M L z fpr res=>?_;obtain⟨p,G⟩:=res.set i;exact k.nx G q
def zxl(dc:DC):DS:=λE U=>dc U λ_ U'=>E.nx U'
theorem zl2(z:RfC K te dc):RfS K (zbi1 te) (zxl dc):=by
 walk_at"4";exact z r h λG U' q v J I p fpr res=>k.nx res.rs q
def dRet(dc:DC):DS:=λE U=>dc U E.rt
theorem zi1(z:RfC K te dc):RfS K (tRet te) (dRet dc):=by
 walk_at"4";exact z r h λG U' q v J I p fpr res=>k.rt res q
def zwt(i:Nat):DS:=λE U=>match U[i]? with
|some (.ow t)=>E.rt t (U.set i .un)
|some (.sh d)=>E.rt (.fz d) U
|_=>False
theorem zva:RfS K (tRet (tVar i)) (zwt i):=by
 walk_at"4";unfold zwt at h;split at h
 ·rename_i t q
  obtain⟨x,t',a1,a2,W,a4,S⟩:=r.rt i _ q rfl;cases a2;refine⟨x,zub (F:=F) (H:=H) (U:=U) a1,k.rt ⟨r.forget i,W,S,λa p=>(r.fr i _ q rfl a p).elim id λz=>aL rfl (z.2 t),λj s G J a p L=>?_⟩ h⟩;rw[xT]at G;by_cases I:i=j
  ·subst I;split at G
   ·split at G
    ·cases G;cases J
    ·cases G
   ·rename_i z;exact aL rfl z
  ·simp[I]at G;exact r.dj i j _ s I q G rfl J a L p
 ·rename_i d q
  obtain⟨x,O,M⟩:=r.sh i d q;exact⟨x,zub (F:=F) (H:=H) (U:=U) O,k.rt ⟨r,.fz M,.nil,λa p=>by simp at p,λ_ _ _ _ a _ p=>by simp at p⟩ h⟩
 ·exact h.elim
def dIf(dt:DT)(d e:DS):DS:=λE U=>dt U λb=>if b=true then d E U else e E U
theorem zu6(z:RfT K tt dt)(I:RfS K t d)(G:RfS K u e):RfS K (tIfS tt t u) (dIf dt d e):=by
 walk_at"4";refine z r.fh r.rv h λb p L J q=>?_;cases b with
|true=>rw[aH rfl]at p ⊢;exact I (r.grow q) p k
|false=>rw[aF wA]at p ⊢;exact G (r.grow q) p k
def dFor(di:DF)(dg:DG)(db:DS):DS:=λE U=>di U λitems=>∃W:Nat->DSt->Prop,W 0 U /\
 (∀i d U',items[i]?=some d->W i U'->dg d U' λp=>db { E with nx:=W (i+1),ct:=W (i+1),bk:=E.nx } p)/\∀U',W items.length U'->E.nx U'
def Bs.rem(B:Bs)(p:Hp):Bs:=⟨p,B.H0,B.G⟩
theorem RS.rem{B:Bs}{F H p:Hp}{Y:_2.St}{U:DSt}{fps:Nat->List aE}(r:RS K B F H Y U fps)(G:Same B.F0 p)(s:Same p F):RS K (B.rem p) F H Y U fps :=
 ⟨r.hh,s,r.fh,λb I z=>r.nw b I (by
  cases q:B.F0 b with
 |none=>rfl
 |some o=>rw[show(B.rem p).F0 b=p b from rfl,G b o q]at z;cases z),r.al,r.len,r.sh,r.rt,r.fr,r.dj⟩
theorem RS.unrem{B:Bs}{F H p:Hp}{Y:_2.St}(r:RS K (B.rem p) F H Y U fps)(z:Same B.F0 p)(G:∀b,B.H0 b≠none->B.F0 b=none->p b=none):RS K B F H Y U fps :=
 ⟨r.hh,z.trans r.ff,r.fh,λb q I=>r.nw b q (G b q I),r.al,r.len,r.sh,r.rt,r.fr,r.dj⟩
theorem zr5{wi:TI}{di:DF}(hi:RfI K wi di)(hg:RfG K n g dg)(hb:RfS K tb db):RfS K (tFor wi g tb) (dFor di dg db):=by
 walk_at"4";refine hi r.fh r.rv h λitems hx J F1 H1 e1 wj=>?_;obtain⟨W,w0,ws,we⟩:=hx;have r1:=r.grow e1;have s0:=r1.ff;have n0:=r1.nw;refine⟨λi m Y' H'=>m=items.length - i/\i<=items.length/\∃F' U' I,RS K (B.rem F1) F' H' Y' U' I/\W i U',⟨items.length,rfl,wU _,F1,U,fps,r1.rem s0 (λ_ _ z=>z),w0⟩,?_⟩;rintro i m Y' H' ⟨rfl,hi',F',U',I,r',w'⟩;obtain⟨go,stop,yld⟩:=wj F' H' r'.ff r'.fh;by_cases G:i < items.length
 ·refine .inr ⟨go i G,λY2 H2=>i+1<=items.length/\∃F2 U2 S,RS K (B.rem F1) F2 H2 Y2 U2 S/\W (i+1) U2,λY2 H2 p=>⟨_,by lia,rfl,p⟩,λx H2 y=>?_⟩;have M:items[i]?=some items[i]:=u4 G;obtain⟨F2,O,ix2⟩:=yld i x H2 _ M y;refine hg O.fh ix2 (ws i _ U' M w') λY2 U2 hd2 u2=>?_;refine hb ((r'.grow O).byUpd u2) hd2 ⟨λL q=>⟨G,_,_,_,L,q⟩,λL q=>k.nx (L.unrem s0 n0) q,λL q=>⟨G,_,_,_,L,q⟩,λres q=>k.rt ⟨res.rs.unrem s0 n0,res.rt,res.nd,res.fr,res.dj⟩ q⟩
 ·have e:i=items.length:=by lia
  subst e;exact .inl ⟨stop,k.nx (r'.unrem s0 n0) (we _ w')⟩
def zvu(dt:DT)(db:DS):DS:=λE U=>∃W:Nat->DSt->Prop,(∃m,W m U)/\∀m U',W m U'->dt U' λb=>if b=true then db { E with nx:=λq=>∃p,p < m/\W p q,ct:=λq=>∃p,p < m/\W p q,bk:=E.nx } U' else E.nx U'
theorem zca(ht:RfT K tt dt)(hb:RfS K tb db):RfS K (zx71 tt tb) (zvu dt db):=by
 walk_at"4";obtain⟨W,⟨m0,w0⟩,ws⟩:=h;refine⟨λm Y' H'=>∃F' U' G,RS K B F' H' Y' U' G/\W m U',⟨m0,F,U,fps,r,w0⟩,?_⟩;rintro m Y' H' ⟨F',U',G,M,w'⟩;refine ht M.fh M.rv (ws m U' w') λb z F1 H1 e1=>?_;cases b with
|true =>
  rw[aH rfl]at z ⊢;refine⟨λY2 H2=>∃I,I < m/\∃F2 U2 L,RS K B F2 H2 Y2 U2 L/\W I U2,λY2 H2 p=>p,hb (M.grow e1) z ⟨λJ q=>?_,λJ q=>k.nx J q,λJ q=>?_,k.rt⟩⟩
  ·obtain⟨I,S,O⟩:=q;exact⟨I,S,_,_,_,J,O⟩
  ·obtain⟨I,S,O⟩:=q;exact⟨I,S,_,_,_,J,O⟩
|false =>
  rw[aF wA]at z ⊢;exact k.nx (M.grow e1) z
def mutS(U:DSt)(i:Nat)(p:Pth)(u:T)(N:DSt->Prop):Prop:=match U[i]? with
|some (.ow t)=>N (U.set i (.ow (setP t p u)))
|some (.io a t)=>N (U.set i (.io a (setP t p u)))
|_=>False
theorem RS.mut{B:Bs}{F H:Hp}{Y:_2.St}{p:Pth}{v:V}{u u2:T}(r:RS K B F H Y U fps)(ha:AtS H Y U i p v u)(I:mutS U i p u2 N) :
  ∃fn,Rt K F H v u fn/\fn.Nodup/\(∀a∈fn,a∈fps i)/\∀{F2 H2:Hp}{fq:List aE},
   (∀b o,b ∉ fn->H b=some o->H2 b=some o)->Same F F2->Same F2 H2->(∀b,H b≠none->F b=none->b ∉ fn->F2 b=none)->(∀b,H b≠none->H2 b≠none)->(∀b∈fn,F2 b≠none->B.H0 b=none) ->
   Rt K F2 H2 v u2 fq->fq.Nodup->(∀b∈fq,b∈fn \/ zbb1 B U fps b)->∃J G,RS K B F2 H2 Y J G/\N J/\(∀j,j≠i->G j=fps j/\J[j]?=U[j]?)/\(∀b∈G i,b∈fps i \/ b∈fq)/\(∃s,U[i]?=some s/\s.own=true):=by
 obtain⟨s,hi,L,hN⟩:∃s,U[i]?=some s/\s.own=true/\∀t,s.tree=some t->N (U.set i (s.wth (setP t p u2))):=by
  unfold mutS at I;split at I
  ·rename_i t q
   exact⟨_,q,rfl,λt' e=>by cases e;exact I⟩
  ·rename_i a t q
   exact⟨_,q,rfl,λt' e=>by cases e;exact I⟩
  ·exact I.elim
 obtain⟨fn,t,h1,h2,h3,h4,h5⟩:=r.put hi L ha;refine⟨fn,h2,h3,h4,λ{F2 H2 fq} c1 c2 c3 c4 c5 c6 hu W Z=>?_⟩;obtain⟨G,S,O⟩:=h5 c1 c2 c3 c4 c5 c6 hu W Z;refine⟨_,G,S,hN t h1,λj M=>⟨O.1 j M,?_⟩,O.2,s,hi,L⟩;rw[xX (λz=>M z.symm)]
theorem RS.one{B:Bs}{F H:Hp}{Y:_2.St}{p:Pth}{u u2:T}{o2:HO}(r:RS K B F H Y U fps)(W:AtS H Y U i p (.ref a) u)(S:mutS U i p u2 N)(ho:H a=some o)
  (O:∀fn,Rt K F H (.ref a) u fn->fn=[a]) (Z:F a=none->Rt K F (upd H a o2) (.ref a) u2 [a]):∃I q,RS K B F (upd H a o2) Y I q/\N I/\(∀j,j≠i->q j=fps j/\I[j]?=U[j]?):=by
 obtain⟨fn,hr,nd,sub,back⟩:=r.mut W S;have e:=O fn hr;subst e;have J:F a=none:=(hr.dom a (by simp)).2;obtain⟨I,q,g1,g2,g3,_⟩:=back (F2:=F) (H2:=upd H a o2) (fq:=[a]) (λb M G L=>by rw[zd1 (λz=>G (by simp[z]))];exact L) (λ_ _ z=>z) (λb M z=>by
   have:b≠a:=λw=>by subst w;rw[J]at z;cases z
   rw[zd1 this];exact r.fh b M z) (λb _ fb _=>fb) (λb G=>by
   by_cases z:b=a
   ·rw[z,zq0];simp
   ·rw[zd1 z];exact G) (λb G f=>by simp at G;subst G;exact aL J f) (Z J) (by simp) (λb G=>.inl G)
 exact⟨I,q,g1,g2,g3⟩
abbrev FM:=T->List D->(T->D->Prop)->Prop
def MO(K:Fg)(r:V->List V->Hp->VK->Prop)(f:FM):Prop:=∀{F H:Hp}{v:V}{u:T}{fn:List aE}{vs:List V}{ds:List D}{Kd:T->D->Prop}{Q:VK},Same F H->Rt K F H v u fn->IsAll K F vs ds->f u ds Kd ->
 ∃u2 d y o o2 a,Kd u2 d/\v=.ref a/\fn=[a]/\H a=some o/\Is K F y d/\Rt K F (upd H a o2) (.ref a) u2 [a]/\(Q y (upd H a o2)->r v vs H Q)
def tyN(T:String):_4.T->Prop
|.li _=>T = "list"
|.ls _=>T = "list"
|.dk _=>T = "dict"
|.dt _=>T = "dict"
|_=>False
theorem zfg1{F H:Hp}{T:String}{v:V}{u:_4.T}(h:Rt K F H v u fn)(k:tyN T u):tyV K T v H:=by
 cases h with
|fz _=>exact k.elim
|li p _ _=>exact .inl ⟨k,_,SqL.of p⟩
|ls p _ _=>exact .inl ⟨k,_,SqL.of p⟩
|ob _ _ _ _ _=>exact k.elim
|tp _ _ _=>exact k.elim
|dk p _ _=>exact .inr (.inr (.inl ⟨k,.inl ⟨_,p⟩⟩))
|dt p _ _=>exact .inr (.inr (.inl ⟨k,.inr ⟨_,p⟩⟩))
theorem zpg1{F H:Hp}{v:V}{u:T}{fn:List aE}{r:V->List V->Hp->VK->Prop}{f:FM}(M:MO K r f){ds:List D}{Kd:T->D->Prop}{B:Bs}{Y:_2.St}{p:Pth}{Qd:T->DSt->Prop}{Q:VK}
  (rs:RS K B F H Y U fps) (q:AtS H Y U i p v u) (L:IsAll K F vs ds) (hf:f u ds λu2 d=>mutS U i p u2 λU'=>Qd (.fz d) U')
  (k:∀r U',Qd r U'->∀v F' H' G fpr,Res K B F' H' Y U' G v r fpr->Q v H'):r v vs H Q:=by
 obtain⟨fn,hr⟩:=q.rt rs.rv;obtain⟨u2,d,y,o,o2,a,W,rfl,e2,h3,h4,h5,Z⟩:=M (Q:=Q) rs.fh hr L hf;refine Z ?_;obtain⟨U2,z,O,S,_⟩:=rs.one q W h3 (λfn' I=>by
  obtain⟨_,_,_,_,_,a',_,e1,J,_⟩:=M (Q:=Q) rs.fh I L hf;cases e1;exact J) (λ_=>h5)
 exact k _ _ S _ _ _ z [] ⟨O,.fz h4,.nil,λa q=>by simp at q,λ_ _ _ _ a _ q=>by simp at q⟩
def cBM(ty:String)(f:FM)(dp:DP)(dA:DF):DC:=λU Q=>dp U λi p u=>tyN ty u/\dA U λds=>f u ds λu2 d=>mutS U i p u2 λU'=>Q (.fz d) U'
theorem zhj{T:String}{r:V->List V->Hp->VK->Prop}{f:FM}(S:MO K r f)(O:RfP K te dp)(W:RfA K tA dA):RfC K (tBMU K T r te tA) (cBM T f dp dA):=by
 walk_at"17";refine O rs.fh rs.rv hd λi p u I v F1 Z L q=>?_;have z:=rs.grow L;obtain⟨fn,hr⟩:=q.rt z.rv;refine⟨zfg1 hr I.1,W L.fh z.rv I.2 λds G vs F2 H2 J M=>?_⟩;exact zpg1 S (fn:=fn) (Kd:=λ_ _=>True) (z.grow J) (q.mono J.h) M G k
def cBM0(ty:String)(f:FM)(dp:DP):DC:=λU Q=>dp U λi p u=>tyN ty u/\f u [] λu2 d=>mutS U i p u2 λU'=>Q (.fz d) U'
theorem zp11{T:String}{r:V->List V->Hp->VK->Prop}{f:FM}(J:MO K r f)(I:RfP K te dp):RfC K (zch1 K T r te) (cBM0 T f dp):=by
 walk_at"17";refine I rs.fh rs.rv hd λi p u G v O M L q=>?_;have z:=rs.grow L;obtain⟨fn,hr⟩:=q.rt z.rv;exact⟨zfg1 hr G.1,zpg1 J (fn:=fn) (Kd:=λ_ _=>True) z q .nil G.2 k⟩
def mApp:FM:=λu ds N=>match u,ds with
|.li xs,[d]=>xs.length < sizeLine/\N (.li (xs++[d])) .none
|_,_=>False
theorem zaf:MO K zww mApp:=by
 intro F H v u fn vs ds Kd Q s hr G hf;unfold mApp at hf;cases u <;> first|exact hf.elim|skip
 rcases ds with _|⟨d,_|⟨e,r⟩⟩ <;> first|exact hf.elim|skip
 ·obtain⟨y,rfl,B⟩:=all1 G;cases hr with
 |li z I p =>
   have J:=p.dlen;exact⟨_,_,.non,_,.lst (_++[y]),_,hf.2,rfl,rfl,z,.non,.li zq0 I (p.dapp (.cons B .nil)),λq=>⟨_,_,y,rfl,rfl,z,by lia,q⟩⟩
def mExt:FM:=λu ds N=>match u,ds with
|.li xs,[.list es]=>xs.length+es.length<=sizeLine/\N (.li (xs++es)) .none
|_,_=>False
theorem zpm:MO K (zer K) mExt:=by
 walk_at"26";unfold mExt at hf;cases u <;> first|exact hf.elim|skip
 rcases ds with _|⟨d,_|⟨e,r⟩⟩ <;> first|exact hf.elim|(cases d <;> first|exact hf.elim|skip)
 ·obtain⟨y,rfl,G⟩:=all1 I;obtain⟨b,ys,rfl,L,B⟩:=G.list_inv;cases hr with
 |li z J p =>
   have O:=p.dlen;have M:=B.dlen;exact⟨_,_,.non,_,.lst (_++ys),_,hf.2,rfl,rfl,z,.non,.li zq0 J (p.dapp B),λq=>⟨_,b,_,ys,rfl,rfl,z,s.seq L,by lia,q⟩⟩
def mPop:FM:=λu ds N=>match u,ds with
|.li xs,[]=>∃d,xs[xs.length - 1]?=some d/\N (.li xs.dropLast) d
|_,_=>False
theorem zuh{F:Hp}{ds:List D}(h:IsAll K F xs ds):IsAll K F xs.dropLast ds.dropLast:=by
 rw[uaJ,uaJ,h.dlen];exact h.dtake _
theorem za11:MO K rPop mPop:=by
 walk_at"26";unfold mPop at hf;cases u <;> first|exact hf.elim|skip
 cases ds <;> first|exact hf.elim|skip
 ·cases I;cases hr with
 |li B J p =>
   obtain⟨d,M,q⟩:=hf;obtain⟨y,z,G⟩:=p.dget M;have L:=p.dlen;rw[<- L]at z;exact⟨_,_,y,_,.lst _,_,q,rfl,rfl,B,G,.li zq0 J (zuh p),λq=>⟨_,_,y,rfl,rfl,B,z,q⟩⟩
end
section
variable {K:Fg}{te ta ti tv:TE}{de da di dk:DE}{dc:DC}{tt:TT}{dt:DT}{t u tb:TS}{d e db:DS}{tA:TA}{dA:DF}{g:TG}{dg:DG}{n:Nat}{dp:DP}{w:aP}
def keyD:D->Option Key
|.int i=>some (.inl i)
|.str x=>some (.inr x)
|_=>none
theorem zkm{F:Hp}{v:V}{d:D}{k:Key}(h:Is K F v d)(e:keyD d=some k):v=kV k:=by
 cases h <;> simp[keyD]at e <;> subst e <;> rfl
def zxp:List D->Option (List Key)
|[]=>some []
|d :: ds=>match keyD d,zxp ds with
 |some k,some p=>some (k :: p)
 |_,_=>none
def keyT:D->Option (List Key)
|.tuple ds=>zxp ds
|_=>none
theorem zvb{F:Hp}:∀{xs:List V}{ds:List D}{k:List Key},IsAll K F xs ds->zxp ds=some k->xs=k.map kV/\ds.all zz91=true
|_,_,_,.nil,e=>by simp[zxp]at e;subst e;exact⟨rfl,rfl⟩
|_,_,_,.cons (d:=d) h r,e=>by
  unfold zxp at e;split at e
  ·rename_i k G p q
   cases e;obtain⟨B,z⟩:=zvb r q;have:=zkm h p;rw[v9,this,B,zJ,z];refine⟨rfl,?_⟩;cases d <;> simp[keyD]at p <;> rfl
  ·cases e
theorem zhq{F:Hp}{v:V}{d:D}{k:List Key}(h:Is K F v d)(e:keyT d=some k):∃b,v=.ref b/\F b=some (.tup (k.map kV)):=by
 cases h with
|tup z p =>
  obtain⟨G,_⟩:=zvb p e;subst G;exact⟨_,rfl,z⟩
|tuc z p q =>
  obtain⟨_,B⟩:=zvb p e;rw[B]at q;cases q
|_=>simp[keyT]at e
def getA{κ:Type}[DecidableEq κ](kvs:List (κ×D))(k:κ):Option D:=(kvs.find? λkv=>decide (kv.1=k)).map (·.2)
def putD{κ:Type}[DecidableEq κ](kvs:List (κ×D))(k:κ)(d:D):List (κ×D) :=
 if(kvs.any λkv=>decide (kv.1=k))=true then kvs.map (λkv=>if kv.1=k then(kv.1,d)else kv)else kvs++[(k,d)]
theorem KvIs.len{F:Hp}{κ:Type}:∀{r:List (κ×V)}{s:List (κ×D)},KvIs K F r s->r.length=s.length
|_,_,.nil=>rfl
|_,_,.cons _ r=>congrArg (·+1) (KvIs.len r)
theorem KvIs.get{F:Hp}{κ:Type}[DecidableEq κ]{k:κ}:∀{r:List (κ×V)}{s:List (κ×D)},KvIs K F r s->(getA s k=none/\valV r k=none) \/ ∃d v,getA s k=some d/\valV r k=some v/\Is K F v d
|_,_,.nil=>.inl ⟨rfl,rfl⟩
|_,_,.cons (k:=B) (v:=v) (d:=d) h r=>by
  by_cases e:B=k
  ·exact .inr ⟨d,v,by simp[getA,e],by simp[valV,e],h⟩
  ·rcases KvIs.get (k:=k) r with⟨q,p⟩|⟨d',z,q,p,G⟩
   ·exact .inl ⟨by simp[getA,e];simpa[getA]using q,by simp[valV,e];simpa[valV]using p⟩
   ·refine .inr ⟨d',z,?_,?_,G⟩
    ·simp[getA,e];simpa[getA]using q
    ·simp[valV,e];simpa[valV]using p
theorem KvIs.any{F:Hp}{κ:Type}[DecidableEq κ]{k:κ}:∀{r:List (κ×V)}{s:List (κ×D)},KvIs K F r s->(r.any λkv=>decide (kv.1=k))=(s.any λkv=>decide (kv.1=k))
|_,_,.nil=>rfl
|_,_,.cons _ r=>by rw[xY,xY,KvIs.any r]
theorem KvIs.app{F:Hp}{κ:Type}:∀{r p:List (κ×V)}{s s':List (κ×D)},KvIs K F r s->KvIs K F p s'->KvIs K F (r++p) (s++s')
|_,_,_,_,.nil,h=>h
|_,_,_,_,.cons h r,h'=>.cons h (r.app h')
theorem KvIs.map{F:Hp}{κ:Type}[DecidableEq κ]{k:κ}{v:V}{d:D}(p:Is K F v d):∀{r:List (κ×V)}{s:List (κ×D)},KvIs K F r s->KvIs K F (r.map λkv=>if kv.1=k then(kv.1,v)else kv) (s.map λkv=>if kv.1=k then(kv.1,d)else kv)
|_,_,.nil=>.nil
|_,_,.cons (k:=q) h r=>by
  by_cases e:q=k
  ·simp only[v9,e,if_true];exact .cons p (r.map p)
  ·simp only[v9,e,if_false];exact .cons h (r.map p)
theorem KvIs.put{F:Hp}{κ:Type}[DecidableEq κ]{k:κ}{v:V}{d:D}(p:Is K F v d){r:List (κ×V)}{s:List (κ×D)}(h:KvIs K F r s):KvIs K F (putK r k v) (putD s k d):=by
 unfold putK putD;rw[h.any];split
 ·exact h.map p
 ·exact h.app (.cons p .nil)
def fPut(u:T)(k d:D)(N:T->Prop):Prop:=match u with
|.li ds=>match k with
 |.int z=>∃j,ixN ds.length z=some j/\N (.li (ds.set j d))
 |_=>False
|.dk kvs=>∃key,keyD k=some key/\kvs.length < sizeLine/\N (.dk (putD kvs key d))
|.dt kvs=>∃key,keyT k=some key/\kvs.length < sizeLine/\N (.dt (putD kvs key d))
|_=>False
theorem zi71{B:Bs}{F H:Hp}{Y:_2.St}{p:Pth}{v:V}{u:T}{k d:D}{Q:Hp->Prop}(rs:RS K B F H Y U fps)(ha:AtS H Y U i p v u)(hk:Is K F kv k)(hy:Is K F y d)
  (hf:fPut u k d λu2=>mutS U i p u2 N) (q:∀W G H2,RS K B F H2 Y W G->N W->Q H2):znb1 v kv y H Q:=by
 obtain⟨fn,hr⟩:=ha.rt rs.rv;cases hr with
|li L h2 J =>
  simp only[fPut]at hf;split at hf
  ·rename_i z
   obtain⟨j,ej,O⟩:=hf;cases hk.int_inv;have el:=J.dlen;obtain⟨W,G,M,n2,_⟩:=rs.one (o2:=.lst (_)) ha O L (λZ I=>by cases I;rfl) (λS=>.li zq0 S (J.dset hy j));exact .inl ⟨_,_,z,j,rfl,rfl,L,by rw[el];exact ej,q _ _ _ M n2⟩
  ·exact hf.elim
|dk L h2 J =>
  simp only[fPut]at hf;obtain⟨key,ek,hl,O⟩:=hf;have:=zkm hk ek;subst this;have el:=J.len;obtain⟨W,G,M,n2,_⟩:=rs.one (o2:=.dK _) ha O L (λZ I=>by cases I;rfl) (λS=>.dk zq0 S (J.put (k:=key) hy));exact .inr ⟨_,_,rfl,DPut.k L (by lia),q _ _ _ M n2⟩
|fz _=>exact hf.elim
|ls _ _ _=>exact hf.elim
|ob _ _ _ _ _=>exact hf.elim
|tp _ _ _=>exact hf.elim
|dt L h2 J =>
  simp only[fPut]at hf;obtain⟨key,ek,hl,O⟩:=hf;obtain⟨kb,rfl,hb⟩:=zhq hk ek;have el:=J.len;obtain⟨W,G,M,n2,_⟩:=rs.one (o2:=.dT _) ha O L (λZ I=>by cases I;rfl) (λS=>.dt zq0 S (J.put (k:=key) hy));exact .inr ⟨_,_,rfl,DPut.t L (rs.fh _ _ hb) (by lia),q _ _ _ M n2⟩
def dPut(dp:DP)(dk de:DE):DS:=λE U=>de U λd=>dp U λi p u=>dk U λk=>fPut u k d λu2=>mutS U i p u2 E.nx
theorem zkv(he:RfE K te de)(hp:RfP K ta dp)(hk:RfE K ti dk):RfS K (tAsg te (gSub ta ti znb1)) (dPut dp dk de):=by
 walk_at"4";refine he r.fh r.rv h λd hd y F1 H1 e1 i1=>?_;have z:=r.grow e1;refine hp z.fh z.rv hd λi p u hu v F2 H2 L J=>?_;have q:=z.grow L;refine hk q.fh q.rv hu λkd I kv F3 H3 G W=>?_;exact zi71 (q.grow G) (J.mono G.h) W (i1.mono (L.f.trans G.f)) I λU2 M H4 O S=>k.nx O S
def fGet(u:T)(k:D)(Q:D->Prop):Prop:=match u with
|.li ds=>match k with
 |.int z=>0<=z/\∃d,ds[z.toNat]?=some d/\Q d
 |_=>False
|.dk kvs=>∃key d,keyD k=some key/\getA kvs key=some d/\Q d
|.dt kvs=>∃key d,keyT k=some key/\getA kvs key=some d/\Q d
|_=>False
theorem zu81{F H:Hp}{v:V}{u:T}{k:D}{Qd:D->Prop}{Q:VK}(s:Same F H)(hr:Rt K F H v u fn)(L:Is K F kv k)(hf:fGet u k Qd)(q:∀d y,Qd d->Is K F y d->Q y H):znc1 K v kv H Q:=by
 cases hr with
|li J W I =>
  simp only[fGet]at hf;split at hf
  ·rename_i z
   obtain⟨Y,d,p,G⟩:=hf;cases L.int_inv;obtain⟨y,hy,Z⟩:=I.dget p;exact .inl ⟨_,_,z,y,rfl,rfl,Y,SqL.of J,hy,q d y G Z⟩
  ·exact hf.elim
|dk J W I =>
  simp only[fGet]at hf;obtain⟨key,d,S,p,G⟩:=hf;have:=zkm L S;subst this;rcases I.get (k:=key)with⟨B,_⟩|⟨d',y,B,O,M⟩
  ·rw[B]at p;cases p
  ·rw[B]at p;cases p;exact .inr ⟨_,y,rfl,by rw[<- O];exact DGet.k J,q d y G M⟩
|fz _=>exact hf.elim
|ls _ _ _=>exact hf.elim
|ob _ _ _ _ _=>exact hf.elim
|tp _ _ _=>exact hf.elim
|dt J W I =>
  simp only[fGet]at hf;obtain⟨key,d,S,p,G⟩:=hf;obtain⟨kb,rfl,hb⟩:=zhq L S;rcases I.get (k:=key)with⟨B,_⟩|⟨d',y,B,O,M⟩
  ·rw[B]at p;cases p
  ·rw[B]at p;cases p;exact .inr ⟨_,y,rfl,by rw[<- O];exact DGet.t J (s _ _ hb),q d y G M⟩
def fII(f:Int->Int->Int)(x y:D)(Q:D->Prop):Prop:=match x,y with
|.int i,.int j=>Q (.int (f i j))
|_,_=>False
def zg21(f:Int->Int->Int)(dp:DP)(dk de:DE):DS:=λE U=>dp U λi p u=>dk U λk=>fGet u k λx=>de U λy=>fII f x y λz=>fPut u k z λu2=>mutS U i p u2 E.nx
theorem zfh{f:Int->Int->Int}(hp:RfP K ta dp)(hk:RfE K ti dk)(he:RfE K te de):RfS K (zzh1 ta ti te (znc1 K) (ipI f) znb1) (zg21 f dp dk de):=by
 walk_at"4";refine hp r.fh r.rv h λi p u hu v F1 H1 e1 M=>?_;have I:=r.grow e1;refine hk I.fh I.rv hu λkd L kv F2 H2 S O=>?_;have q:=I.grow S;have z:=M.mono S.h;obtain⟨fn,hr⟩:=z.rt q.rv;refine zu81 q.fh hr O L λx xv hx ix=>he q.fh q.rv hx λy G yv F3 H3 J i3=>?_;unfold fII at G;split at G
 ·cases ix.int_inv;cases i3.int_inv;refine⟨_,_,rfl,rfl,?_⟩;exact zi71 (q.grow J) (z.mono J.h) (O.mono J.f) (.int _) G λU2 W H4 r4 n4=>k.nx r4 n4
 ·exact G.elim
def dAug(i:Nat)(f:Int->Int->Int)(de:DE):DS:=λE U=>match U[i]? with
|some (.sh x)=>de U λy=>fII f x y λz=>E.nx (U.set i (.sh z))
|_=>False
theorem zu51{f:Int->Int->Int}(G:RfE K te de):RfS K (tAug i te (ipI f)) (dAug i f de):=by
 walk_at"4";unfold dAug at h;split at h
 ·rename_i x q
  obtain⟨v,J,z⟩:=r.sh i _ q;refine⟨_,zub (F:=F) (H:=H) (U:=U) J,G r.fh r.rv h λd hd L O M I p=>?_⟩;unfold fII at hd;split at hd
  ·cases z.int_inv;cases p.int_inv;exact⟨_,_,rfl,rfl,k.nx ((r.grow I).setS (.int _)) hd⟩
  ·exact hd.elim
 ·exact h.elim
def nGet(dp:DP)(dk:DE):DE:=λU Q=>dp U λ_ _ u=>dk U λk=>fGet u k Q
theorem ztn(Z:RfP K ta dp)(hk:RfE K ti dk):RfE K (tOp (rIxV w K) ta ti) (nGet dp dk):=by
 walk_at"0";refine Z s rv h λi p u W v F1 H1 B I=>hk B.fh (rv.ext B) W λkd G kv F2 H2 J S=>?_;have z:=B.trans J;obtain⟨fn,hr⟩:=(I.mono J.h).rt (rv.ext z);rcases zu81 (Q:=Q) z.fh hr S G λd y L O=>k d L y F2 H2 z O with⟨a,xs,j,y,rfl,rfl,M,h1,h2,q⟩|q
 ·exact .inl (.inl (.inl ⟨a,xs,j,y,rfl,rfl,h1,at_nat' M h2,q⟩))
 ·exact .inr q
theorem zwk{F H:Hp}{p:aE}(s:Same F H)(q:H p=none):Ext F H F (upd H p o) :=
 ⟨zw2 q _,λ_ _ z=>z,λb o z=>zw2 q _ b o (s b o z),λ_ _ z=>z⟩
def fHas(neg:Bool)(u:T)(k:D)(Q:D->Prop):Prop:=match u with
|.dk kvs=>∃key,keyD k=some key/\Q (.bool (if neg then !(getA kvs key).isSome else(getA kvs key).isSome))
|.dt kvs=>∃key,keyT k=some key/\Q (.bool (if neg then !(getA kvs key).isSome else(getA kvs key).isSome))
|_=>False
def nIn(neg:Bool)(dk:DE)(dp:DP):DE:=λU Q=>dk U λk=>dp U λ_ _ u=>fHas neg u k Q
theorem zta1{F H:Hp}{v:V}{u:T}{k:D}{Qd:D->Prop}(s:Same F H)(hr:Rt K F H v u fn)(J:Is K F kv k)(hf:fHas neg u k Qd):∃a o,v=.ref a/\DGet H a kv o/\Qd (.bool (if neg then !o.isSome else o.isSome)):=by
 cases hr with
|dk B M G =>
  obtain⟨key,I,q⟩:=hf;have:=zkm J I;subst this;rcases G.get (k:=key)with⟨z,p⟩|⟨d',y,z,p,O⟩
  ·rw[z]at q;exact⟨_,none,rfl,by rw[<- p];exact DGet.k B,q⟩
  ·rw[z]at q;exact⟨_,some y,rfl,by rw[<- p];exact DGet.k B,q⟩
|fz _=>exact hf.elim
|li _ _ _=>exact hf.elim
|ls _ _ _=>exact hf.elim
|ob _ _ _ _ _=>exact hf.elim
|tp _ _ _=>exact hf.elim
|dt B M G =>
  obtain⟨key,I,q⟩:=hf;obtain⟨S,rfl,L⟩:=zhq J I;rcases G.get (k:=key)with⟨z,p⟩|⟨d',y,z,p,O⟩
  ·rw[z]at q;exact⟨_,none,rfl,by rw[<- p];exact DGet.t B (s _ _ L),q⟩
  ·rw[z]at q;exact⟨_,some y,rfl,by rw[<- p];exact DGet.t B (s _ _ L),q⟩
theorem zef1(S:RfE K ti dk)(O:RfP K ta dp):RfE K (tOp (rInV w K) ti ta) (nIn false dk dp):=by
 walk_at"0";refine S s rv h λW G kv F1 Z B L=>O B.fh (rv.ext B) G λi p u M v F2 H2 J I=>?_;have z:=B.trans J;obtain⟨fn,hr⟩:=I.rt (rv.ext z);obtain⟨a,o,rfl,g,q⟩:=zta1 z.fh hr (L.mono J.f) M;exact .inr ⟨a,o,rfl,g,k _ q _ F2 H2 z (.bl _)⟩
theorem zyx(S:RfE K ti dk)(O:RfP K ta dp):RfE K (tOp (zit w K) ti ta) (nIn true dk dp):=by
 walk_at"0";refine S s rv h λW G kv F1 Z B L=>O B.fh (rv.ext B) G λi p u M v F2 H2 J I=>?_;have z:=B.trans J;obtain⟨fn,hr⟩:=I.rt (rv.ext z);obtain⟨a,o,rfl,g,q⟩:=zta1 z.fh hr (L.mono J.f) M;exact .inr ⟨a,o,rfl,g,k _ q _ F2 H2 z (.bl _)⟩
abbrev DN:=DSt->(T->Prop)->Prop
def RfN(K:Fg)(te:TE)(q:DN):Prop:=∀{F H:Hp}{Y:_2.St}{U:DSt}{Qd:T->Prop}{Q:VK},Same F H->RV K F H Y U->q U Qd->(∀r,Qd r->∀v p H' fp,Ext F H p H'->Rt K p H' v r fp->fp.Nodup->(∀a∈fp,H a=none)->Q v H')->te Y H Q
def nF(df:DF):DN:=λU Q=>df U λds=>Q (.li ds)
theorem RfF.new(h:RfF K te df):RfN K te (nF df):=λs r d k=>h s r d λds q a xs J H' e z I G B=>k _ q (.ref a) J H' [a] e (.li I G B) (by simp) λb p=>by simp at p;subst p;exact z
def cN(p:DN):DC:=λU Q=>p U λr=>Q r U
theorem RfN.c{G:DN}(h:RfN K te G):RfC K te (cN G):=by
 walk_at"12";refine h r.fh r.rv hd λr2 q v Z W fp O hr nd fr=>k _ _ q v Z W fps fp ⟨r.grow O,hr,nd,λa L=>?_,λj s M I b J p=>?_⟩
 ·by_cases z:B.H0 a=none
  ·exact z
  ·exact aL (fr a L) (r.al a z)
 ·obtain⟨x,t,a1,a2,S,a4,a5⟩:=r.rt j s M I;exact(S.dom b J).1 (fr b p)
theorem RtAll.app{F H:Hp}:∀{xs ys:List V}{ts us:List T}{fp fq:List aE},RtAll K F H xs ts fp->RtAll K F H ys us fq->RtAll K F H (xs++ys) (ts++us) (fp++fq)
|_,_,_,_,_,_,.nil,h=>h
|_,_,_,_,_,_,.cons h r,h'=>by rw[wD];exact .cons h (r.app h')
def zqg1(di:DF)(n:Nat)(ix:List Nat)(dg:DG)(p:DN):DN:=λU Q=>di U λitems=>items.length<=sizeLine/\∃R:Nat->T->Prop,
 (∀i d,items[i]?=some d->dg d (cST n ix U) λU'=>p U' λr=>R i r)/\∀rs:List T,rs.length=items.length->(∀(j:Nat) r,rs[j]?=some r->R j r)->Q (.ls rs)
theorem zox{wi:TI}{di:DF}{dn:DN}(hi:RfJ K wi di)(hg:RfG K n g dg)(he:RfN K te dn):RfN K (zmb1 wi n ix g zbe1 te) (zqg1 di n ix dg dn):=by
 walk_at"2";refine hi s rv hd λitems hx J F1 H1 e1 wj D hD=>?_;obtain⟨hz,R,hR,hQ⟩:=hx;have rv1:=zna1 n ix (rv.ext e1);have F1D:F1 D=none:=by
  cases q:F1 D with
 |none=>rfl
 |some o=>rw[e1.fh D o q]at hD;cases hD
 refine⟨λi m acc Y' H'=>m=items.length - i/\i<=items.length/\Y'.length=(compY n ix Y).length/\(∀j,n<=j->Y'.getD j none=(compY n ix Y).getD j none)/\∃(W:Hp)(rs:List T)(B:List aE),Ext F1 H1 W H'/\W D=none/\H' D=some (.lst acc)/\rs.length=i/\(∀(j:Nat) r,rs[j]?=some r->R j r)/\RtAll K W H' acc rs B/\B.Nodup/\(∀a∈B,H1 a=none/\a≠D),
  ⟨items.length,rfl,wU _,rfl,λ_ _=>rfl,F1,[],[],?_,F1D,zq0,rfl,λj o e=>by simp at e,.nil,.nil,λa G=>by simp at G⟩,?_⟩
 ·exact(zx7 (xs:=[]) e1.fh hD).1
 rintro i m acc Y' H' ⟨rfl,hi',hl,hk,W,rs,B,ex,fD,hDD,hrs,hRs,I,ndA,frA⟩;obtain⟨go,stop,yld⟩:=wj W H' ex;by_cases hlt:i < items.length
 ·refine .inr ⟨go i hlt,λO Y2 H2=>i+1<=items.length/\Y2.length=(compY n ix Y).length/\(∀j,n<=j->Y2.getD j none=(compY n ix Y).getD j none)/\∃(W:Hp)(rs:List T)(B:List aE),Ext F1 H1 W H2/\W D=none/\H2 D=some (.lst O)/\rs.length=i+1/\(∀(j:Nat) r,rs[j]?=some r->R j r)/\RtAll K W H2 O rs B/\B.Nodup/\(∀a∈B,H1 a=none/\a≠D),λO Y2 H2 p=>⟨items.length - (i+1),by lia,rfl,p⟩,λx H2 y=>?_⟩;have hit:items[i]?=some items[i]:=u4 hlt;obtain⟨F2,L,ix2⟩:=yld i x H2 _ hit y;have rv2:RV K F2 H2 Y' (cST n ix U):=RV.caps (rv1.ext (ex.trans L)) hl hk;refine hg L.fh ix2 (hR i _ hit) λY2 U2 hd2 u2=>?_;have rv3:=u2.rv rv2;have kp:=u2.keep;have hl2:Y2.length=(compY n ix Y).length:=by rw[kp.1,hl]
  have hk2:∀j,n<=j->Y2.getD j none=(compY n ix Y).getD j none:=λj hj=>by rw[kp.2 j hj,hk j hj]
  show te Y2 H2 _;refine he L.fh rv3 hd2 λr hr v F5 H5 fp e5 i5 nd5 fr5=>?_;have M:=L.trans e5;have hD2:H2 D=some (.lst acc):=L.h _ _ hDD;have hD5:H5 D=some (.lst acc):=M.h _ _ hDD;have fD5:F5 D=none:=M.nw D (by rw[hDD];simp) fD;have hlen:acc.length<=i:=by rw[I.len,hrs];exact u7 _
  have e15:=ex.trans M;have S:RtAll K F5 H5 acc rs B:=I.frame M.f λa G=>by
   obtain⟨d1,d2⟩:=I.dom a G;cases q:H' a with
  |none=>exact aL q d1
  |some o=>exact⟨M.h a o q,M.nw a d1 d2⟩
  have frN:∀a∈fp,H1 a=none/\a≠D:=λa G=>⟨zn2 (ex.trans L) (fr5 a G),λz=>by subst z;rw[fr5 a G]at hD2;cases hD2⟩
  refine⟨hD5,by lia,hlt,hl2,hk2,F5,rs++[r],B++fp,⟨λb o Z=>?_,e15.f,λb o Z=>?_,e15.nw⟩,fD5,zq0,by simp[hrs],λj r' e=>?_,?_,?_,λa G=>?_⟩
  ·have:b≠D:=λz=>by subst z;rw[hD]at Z;cases Z
   rw[zd1 this];exact e15.h b o Z
  ·have:b≠D:=λz=>by subst z;rw[fD5]at Z;cases Z
   rw[zd1 this];exact e15.fh b o Z
  ·rcases uaG j rs.length with h|h|h
   ·rw[wP h]at e;exact hRs j r' e
   ·subst h;rw[wO (u7 _)]at e;simp at e;subst e;rw[hrs];exact hr
   ·rw[wO (yH h)]at e;cases q:j - rs.length with
   |zero=>lia
   |succ z=>rw[q]at e;simp at e
  ·have z1:RtAll K F5 (upd H5 D (.lst (acc++[v]))) acc rs B:=S.frame (λ_ _ z=>z) λa G=>⟨zd1 (frA a G).2,(S.dom a G).2⟩
   have z2:Rt K F5 (upd H5 D (.lst (acc++[v]))) v r fp:=i5.frame (λ_ _ z=>z) λa G=>⟨zd1 (frN a G).2,(i5.dom a G).2⟩
   have:=z1.app (RtAll.cons z2 .nil)
   rwa [wS]at this
  ·refine wV.mpr ⟨ndA,nd5,λa G b Z z=>?_⟩;subst z;have:=(I.dom a G).1;exact this (zn2 L (fr5 a Z))
  ·rcases vX.mp G with z|z
   ·exact frA a z
   ·exact frN a z
 ·have e:i=items.length:=by lia
  refine .inl ⟨by rw[e];exact stop,k _ (hQ rs (by lia) hRs) (.ref D) W H' (D :: B) (e1.trans ex) (.ls hDD fD I) (v5.mpr ⟨λz=>(frA D z).2 rfl,ndA⟩) λa G=>?_⟩;rcases vT.mp G with z|z
  ·rw[z];exact zn2 e1 hD
  ·exact zn2 e1 (frA a z).1
def nSet(f:Str)(u r:T)(N:T->Prop):Prop:=match u with
|.ob C fs=>fs.length < 1000/\N (.ob C (putA f r fs))
|_=>False
theorem Res.grow{B:Bs}{F H p H':Hp}{Y:_2.St}{U:DSt}{fps:Nat->List aE}{v:V}{r:T}{fpr:List aE}(h:Res K B F H Y U fps v r fpr)(e:Ext F H p H'):Res K B p H' Y U fps v r fpr :=
 ⟨h.rs.grow e,h.rt.ext e,h.nd,h.fr,h.dj⟩
theorem zsd1{B:Bs}{F H:Hp}{Y:_2.St}{r:T}{p:Pth}{fs:List (Str×V)}{ts:List (Str×T)}  
  (res:Res K B F H Y U fps y r fpr) (ha:AtS H Y U i p (.ref a) (.ob C ts)) (hH:H a=some (.ins C dx fs)) (hm:mutS U i p (.ob C (putA f r ts)) N):∃U2 I,RS K B F (upd H a (.ins C dx (putF f y fs))) Y U2 I/\N U2:=by
 obtain⟨fn,hr,nd,sub,back⟩:=res.rs.mut ha hm;obtain⟨s,hs,ho⟩:∃s,U[i]?=some s/\s.own=true:=by
  unfold mutS at hm;split at hm
  ·rename_i t q;exact⟨_,q,rfl⟩
  ·rename_i a t q;exact⟨_,q,rfl⟩
  ·exact hm.elim
 have M:∀b∈fn,b ∉ fpr:=λb G=>res.dj i s hs (zs9 ho) b (sub b G);cases hr with
|ob g1 g2 g3 g4 S =>
  rename_i dx' fs' fp
  rw[hH]at g1;cases g1;have J:=v5.mp nd;have nd2:=v5.mp J.2;have na:a ∉ fp:=λz=>J.1 (wC _ z);have nx:dx≠a:=λz=>J.1 (by rw[z];simp);have nxf:dx ∉ fp:=nd2.1;have L:∀b∈fp,b ∉ fpr:=λb G=>M b (by simp[G]);have ra:a ∉ fpr:=M a (by simp);have rx:dx ∉ fpr:=M dx (by simp);have hy:Rt K F (upd H a (.ins C dx (putF f y fs))) y r fpr:=res.rt.frame (λ_ _ z=>z) λb G=>⟨zd1 λz=>by subst z;exact ra G,(res.rt.dom b G).2⟩
  have W:∀b∈fp,upd H a (.ins C dx (putF f y fs)) b=H b/\F b=none:=λb G=>⟨zd1 λz=>by subst z;exact na G,(S.dom b G).2⟩
  obtain⟨fq,hq,ndq,mq⟩:∃fq,RtFs K F (upd H a (.ins C dx (putF f y fs))) (putF f y fs) (putA f r ts) fq/\fq.Nodup/\∀b∈fq,b∈fp \/ b∈fpr:=by
   cases q:ts.lookup f with
  |none =>
    refine⟨fp++fpr,RtFs.add (λ_ _ z=>z) hy S q W,wV.mpr ⟨nd2.2,res.nd,λb G c O z=>?_⟩,λb G=>vX.mp G⟩;subst z;exact L b G O
  |some t0 =>
    obtain⟨x0,ex⟩:=(S.keys f).2.1 t0 q;obtain⟨fA,fj,fB,e,hj,_,rep⟩:=S.split ex q;subst e;obtain⟨ndA,Z,djA⟩:=wV.mp nd2.2;obtain⟨ndj,ndB,djB⟩:=wV.mp Z;refine⟨fA++(fpr++fB),rep (λ_ _ z=>z) (λb G=>W b (by rcases vX.mp G with z|z <;> simp[z])) hy,wV.mpr ⟨ndA,wV.mpr ⟨res.nd,ndB,λb G c O z=>?_⟩,λb G c O z=>?_⟩,λb G=>?_⟩
    ·subst z;exact L b (by simp[O]) G
    ·subst z;rcases vX.mp O with z|z
     ·exact L b (by simp[G]) z
     ·exact djA b G b (by simp[z]) rfl
    ·rcases vX.mp G with z|z
     ·exact .inl (by simp[z])
     ·rcases vX.mp z with z|z
      ·exact .inr z
      ·exact .inl (by simp[z])
  obtain⟨U2,I,r2,n2,_⟩:=back (F2:=F) (H2:=upd H a (.ins C dx (putF f y fs))) (fq:=a :: dx :: fq) (λb o G hbo=>by rw[zd1 (λz=>G (by simp[z]))];exact hbo) (λ_ _ z=>z) (λb o z=>by
    have:b≠a:=λq=>by subst q;rw[g3]at z;cases z
    rw[zd1 this];exact res.rs.fh b o z) (λb _ fb _=>fb) (λb G=>by
    by_cases z:b=a
    ·rw[z,zq0];simp
    ·rw[zd1 z];exact G) (λb G hf=>by
    have:F b=none:=by
     rcases vT.mp G with z|z
     ·rw[z];exact g3
     ·rcases vT.mp z with z|z
      ·rw[z];exact g4
      ·exact(S.dom b z).2
    exact aL this hf) (.ob zq0 (by rw[zd1 nx];exact g2) g3 g4 hq) (v5.mpr ⟨λz=>by
    rcases vT.mp z with y|y
    ·exact nx y.symm
    ·rcases mq a y with y|y
     ·exact na y
     ·exact ra y,v5.mpr ⟨λz=>by
    rcases mq dx z with y|y
    ·exact nxf y
    ·exact rx y,ndq⟩⟩) (λb G=>by
    rcases vT.mp G with z|z
    ·exact .inl (by simp[z])
    ·rcases vT.mp z with z|z
     ·exact .inl (by simp[z])
     ·rcases mq b z with z|z
      ·exact .inl (by simp[z])
      ·exact .inr ⟨res.fr b z,λj s' ej hs' hbj=>res.dj j s' ej hs' b hbj z⟩)
  exact⟨U2,I,r2,n2⟩
def dFld(C:aE)(f:Str)(dc:DC)(dp:DP):DS:=λE U=>dc U λr q=>dp q λi p u=>nCls C u/\nSet f u r λu2=>mutS q i p u2 E.nx
theorem zie(c:Cls K C)(W:NoAttr K C f)(hc:RfC K tv dc)(hp:RfP K ta dp):RfS K (sFld K ta tv f) (dFld C f dc dp):=by
 walk_at"4";refine hc r h λr2 U1 q y F1 H1 O fpr res=>hp res.rs.fh res.rs.rv q λi p u G v F2 H2 e2 I=>?_;have z:=res.grow e2;obtain⟨fn,hr⟩:=I.rt z.rs.rv;cases hr with
|ob L g2 g3 g4 g5 =>
  obtain⟨J,hl,hm⟩:=G;cases (show _=C from J);have len:=(g5.keys f).2.2;obtain⟨U2,M,S,n3⟩:=zsd1 z I L hm;exact⟨_,_,_,_,rfl,L,c,W,by lia,k.nx S n3⟩
|fz _=>exact G.1.elim
|li _ _ _=>exact G.1.elim
|ls _ _ _=>exact G.1.elim
|dk _ _ _=>exact G.1.elim
|dt _ _ _=>exact G.1.elim
|tp _ _ _=>exact G.1.elim
def zex:List T->Option (List (List D))
|[]=>some []
|.li ds :: r=>(zex r).map (ds :: ·)
|_ :: _=>none
def toD:T->Option D
|.fz d=>some d
|.li ds=>some (.list ds)
|.ls ts=>(zex ts).map λp=>.list (p.map wB)
|_=>none
theorem zdy{F H:Hp}(s:Same F H):∀{xs:List V}{ts:List T}{fp:List aE}{G:List (List D)},RtAll K F H xs ts fp->zex ts=some G->fp.Nodup->∃F2,Same F F2/\Same F2 H/\(∀b,b ∉ fp->F2 b=F b)/\IsAll K F2 xs (G.map wB)
|_,_,_,_,.nil,e,_=>by cases e;exact⟨F,λ_ _ z=>z,s,λ_ _=>rfl,.nil⟩
|_,_,_,_,.cons (fp:=fp) (fq:=fq) h r,e,nd=>by
  cases h with
 |li Z Y W =>
   rename_i a p ds0
   unfold zex at e;obtain⟨O,e1,rfl⟩:=xA.mp e;have B:=v5.mp nd;obtain⟨I,s1,s2,s3,S⟩:=zdy s r e1 B.2;have fa:I a=none:=by rw[s3 a B.1];exact Y
   have J:Same I (upd I a (.lst p)):=zw2 fa _;refine⟨upd I a (.lst p),s1.trans J,λb o z=>?_,λb M=>?_,.cons (.lst (SqL.of zq0) (W.mono (s1.trans J))) (S.mono J)⟩
   ·by_cases q:b=a
    ·subst q;rw[zq0]at z;cases z;exact Z
    ·rw[zd1 q]at z;exact s2 b o z
   ·have L:b≠a:=λz=>M (by simp[z]);rw[zd1 L];exact s3 b λz=>M (by simp[z])
 |_=>cases e
theorem zhh1{F H:Hp}(s:Same F H){v:V}{t:T}{d:D}(h:Rt K F H v t fp)(e:toD t=some d)(nd:fp.Nodup):∃F2,Same F F2/\Same F2 H/\(∀b,b ∉ fp->F2 b=F b)/\Is K F2 v d:=by
 cases h with
|fz i=>cases e;exact⟨F,λ_ _ z=>z,s,λ_ _=>rfl,i⟩
|li M L J =>
  cases e
  rename_i a xs ds
  have p:=zw2 (H:=F) L (.lst xs);refine⟨_,p,λb o z=>?_,λb G=>zd1 λq=>G (by simp[q]),.lst (SqL.of zq0) (J.mono p)⟩;by_cases q:b=a
  ·subst q;rw[zq0]at z;cases z;exact M
  ·rw[zd1 q]at z;exact s b o z
|ls M L J =>
  rename_i a xs ts fp
  unfold toD at e;obtain⟨Z,Y,rfl⟩:=xA.mp e;have B:=v5.mp nd;obtain⟨I,s1,s2,s3,S⟩:=zdy s J Y B.2;have W:I a=none:=by rw[s3 a B.1];exact L
  have p:Same I (upd I a (.lst xs)):=zw2 W _;refine⟨upd I a (.lst xs),s1.trans p,λb o z=>?_,λb G=>?_,.lst (SqL.of zq0) (S.mono p)⟩
  ·by_cases q:b=a
   ·subst q;rw[zq0]at z;cases z;exact M
   ·rw[zd1 q]at z;exact s2 b o z
  ·have O:b≠a:=λz=>G (by simp[z]);rw[zd1 O];exact s3 b λz=>G (by simp[z])
|ob _ _ _ _ _=>cases e
|dk _ _ _=>cases e
|dt _ _ _=>cases e
|tp _ _ _=>cases e
def getP:T->Pth->Option T
|t,[]=>some t
|.ls ts,.ix j :: p=>(ts[j]?).bind λt=>getP t p
|.tp ts,.ix j :: p=>(ts[j]?).bind λt=>getP t p
|.ob _ fs,.fl f :: p=>(fs.lookup f).bind λt=>getP t p
|_,_=>none
theorem zue1{F H:Hp}{p:Pth}:∀{x:V}{t u:T}{fp:List aE},Rt K F H x t fp->getP t p=some u->∃v,At H x t p v u:=by
 induction p with
|nil=>intro x t u fp _ e;unfold getP at e;cases e;exact⟨x,.nil⟩
|cons q p O =>
  intro x t u fp h e;cases h with
 |ls J Y G =>
   cases q with
  |ix j =>
    unfold getP at e;obtain⟨M,z,L⟩:=uaK.mp e
    rename_i xs ts S
    have el:=G.len;have hj:j < ts.length:=by
     rcases wZ j ts.length with y|y
     ·exact y
     ·rw[wG y]at z;cases z
    obtain⟨y,B⟩:∃y,xs[j]?=some y:=⟨xs[j]'(by lia),u4 _⟩
    obtain⟨fA,Z,fB,_,hr,_⟩:=G.split B z;obtain⟨v,I⟩:=O hr L;exact⟨v,.ix J B z I⟩
  |fl f=>cases e
 |tp J Y G =>
   cases q with
  |ix j =>
    unfold getP at e;obtain⟨M,z,L⟩:=uaK.mp e
    rename_i xs ts S
    have el:=G.len;have hj:j < ts.length:=by
     rcases wZ j ts.length with y|y
     ·exact y
     ·rw[wG y]at z;cases z
    obtain⟨y,B⟩:∃y,xs[j]?=some y:=⟨xs[j]'(by lia),u4 _⟩
    obtain⟨fA,Z,fB,_,hr,_⟩:=G.split B z;obtain⟨v,I⟩:=O hr L;exact⟨v,.tx J B z I⟩
  |fl f=>cases e
 |ob J Y G h4 W =>
   cases q with
  |fl f =>
    unfold getP at e;obtain⟨M,z,L⟩:=uaK.mp e;obtain⟨y,B⟩:=(W.keys f).2.1 M z;obtain⟨fA,Z,fB,_,hr,_⟩:=W.split B z;obtain⟨v,I⟩:=O hr L;exact⟨v,.fl J B z I⟩
  |ix j=>cases e
 |fz _=>cases q <;> cases e
 |li _ _ _=>cases q <;> cases e
 |dk _ _ _=>cases q <;> cases e
 |dt _ _ _=>cases q <;> cases e
def fzS(U:DSt)(i:Nat)(p:Pth)(N:DSt->Prop):Prop:=match U[i]? with
|some (.ow t)=>∃u d,getP t p=some u/\toD u=some d/\N (U.set i (slot (setP t p (.fz d))))
|some (.sh _)=>N U
|_=>False
def dFrz(i:Nat)(p:Pth)(d:DS):DS:=λE U=>fzS U i p λU'=>d E U'
theorem RS.frz{B:Bs}{F H:Hp}{Y:_2.St}{U:DSt}{fps:Nat->List aE}{i:Nat}{p:Pth}{N:DSt->Prop}(r:RS K B F H Y U fps)(h:fzS U i p N):∃F2 Z G,RS K B F2 H Y Z G/\N Z:=by
 unfold fzS at h;split at h
 ·rename_i t q
  obtain⟨u,d,eg,ed,J⟩:=h;obtain⟨x,t',a1,a2,a3,a4,a5⟩:=r.rt i _ q rfl;cases a2;obtain⟨v,hv⟩:=zue1 a3 eg;obtain⟨fn,t1,h1,h2,h3,h4,back⟩:=r.put q rfl ⟨_,_,x,q,rfl,a1,hv⟩;cases h1;obtain⟨F2,s1,s2,s3,s4⟩:=zhh1 r.fh h2 ed h3;obtain⟨G,I,_⟩:=back (F2:=F2) (H2:=H) (fq:=[]) (λ_ _ _ z=>z) s1 s2 (λb _ fb L=>by rw[s3 b L];exact fb) (λ_ z=>z) (λb L _=>(r.fr i _ q rfl b (h4 b L)).elim id λz=>aL rfl (z.2 t)) (.fz s4) .nil (λb L=>by simp at L);have hw:(Sl.ow t).wth (setP t p (.fz d))=.ow (setP t p (.fz d)):=rfl;rw[hw]at I
  -- a slot whose whole is frozen becomes a plain one
  cases hs:setP t p (.fz d)with
 |fz d' =>
   rw[hs]at I J;obtain⟨x',t'',b1,b2,b3,b4,b5⟩:=I.rt i _ (xN (by
    rcases wZ i U.length with z|z
    ·exact z
    ·rw[wG z]at q;cases q)) rfl
   cases b2;obtain⟨d2,W,hi⟩:=zo71 (Q:=λz=>z=d') b3 rfl;subst W
   ·have S:=I.setS (i:=i) hi;rw[List.set_set]at S;have eY:Y.set i (some x')=Y:=by
     apply yE;intro j;rw[xT];by_cases O:i=j
     ·subst O;have M:i < Y.length:=by
       rw[r.len];rcases wZ i U.length with z|z
       ·exact z
       ·rw[wG z]at q;cases q
      simp[M];have:=zub (F:=F) (H:=H) (U:=U) b1;rw[u4 M]at this;exact(w8.inj this).symm
     ·simp[O]
    rw[eY]at S;exact⟨F2,_,G,S,J⟩
 |li _=>rw[hs]at I J;exact⟨F2,_,G,I,J⟩
 |ls _=>rw[hs]at I J;exact⟨F2,_,G,I,J⟩
 |ob _ _=>rw[hs]at I J;exact⟨F2,_,G,I,J⟩
 |dk _=>rw[hs]at I J;exact⟨F2,_,G,I,J⟩
 |dt _=>rw[hs]at I J;exact⟨F2,_,G,I,J⟩
 |tp _=>rw[hs]at I J;exact⟨F2,_,G,I,J⟩
 ·exact⟨F,U,fps,r,h⟩
 ·exact h.elim
theorem zbd(i:Nat)(p:Pth)(h:RfS K t d):RfS K t (dFrz i p d):=by
 intro B F H Y U fps E Z r hd k;obtain⟨F2,I,q,z,G⟩:=r.frz hd;exact h z G k
end
set_option genInjectivity true in
inductive Arg where
|d (d:D)|b (t:T)|o (t:T)
inductive ArgP where
|d (d:D)|b (i:Nat) (p:Pth) (t:T)|o (i:Nat) (p:Pth) (t:T)
def ArgP.arg:ArgP->Arg
|.d x=>.d x
|.b _ _ x=>.b x
|.o _ _ x=>.o x
inductive ArgsR(K:Fg)(F H:Hp):List V->List Arg->List aE->Option (aE×List aE)->Prop
|nil:ArgsR K F H [] [] [] none
|d {v:V} {d:D} {vs:List V} {as:List Arg} {bf:List aE} {oo:Option (aE×List aE)}:Is K F v d->ArgsR K F H vs as bf oo->ArgsR K F H (v :: vs) (.d d :: as) bf oo
|b {v:V} {t:T} {fp:List aE} {vs:List V} {as:List Arg} {bf:List aE} {oo:Option (aE×List aE)}:Rt K F H v t fp->fp.Nodup->ArgsR K F H vs as bf oo->ArgsR K F H (v :: vs) (.b t :: as) (fp++bf) oo
|o {a:aE} {t:T} {fp:List aE} {vs:List V} {as:List Arg} {bf:List aE}:Rt K F H (.ref a) t fp->fp.Nodup->ArgsR K F H vs as bf none->ArgsR K F H (.ref a :: vs) (.o t :: as) bf (some (a,fp))
def ofp:Option (aE×List aE)->List aE
|none=>[]
|some x=>x.2
structure Post(K:Fg)(F H:Hp)(oo:Option (aE×List aE))(F' H':Hp)(v:V)(r:T)(fpr:List aE)(t':T)(fpo:List aE):Prop where
 hh:∀b o,b ∉ ofp oo->H b=some o->H' b=some o
 ff:Same F F'
 fh:Same F' H'
 nw:∀b,H b≠none->F b=none->F' b=none
 al:∀b,H b≠none->H' b≠none
 rt:Rt K F' H' v r fpr
 nd:fpr.Nodup
 fr:∀a∈fpr,H a=none
 io:∀a fp,oo=some (a,fp)->Rt K F' H' (.ref a) t' fpo/\fpo.Nodup/\(∀b∈fpo,b∈fp \/ H b=none)/\∀b∈fpo,b ∉ fpr
abbrev DSpT:=List Arg->(T->T->Prop)->Prop
def spT(K:Fg)(p:DSpT):Sp:=λvs H Q _=>∃F as bf q Qd,Same F H/\ArgsR K F H vs as bf q/\(∀b∈ofp q,b ∉ bf)/\p as Qd/\∀r t',Qd r t'->∀v z H' fpr u,Post K F H q z H' v r fpr t' u->Q v H'
section
variable {K:Fg}{te ta ti tv:TE}{de da di dk:DE}{dc:DC}{tt:TT}{dt:DT}{t u tb:TS}{d e db:DS}{tA:TA}{dA:DF}{g:TG}{dg:DG}{n:Nat}{dp:DP}{w:aP}
inductive ArgsP(K:Fg)(F H:Hp)(Y:_2.St)(U:DSt):List V->List ArgP->Prop
|nil:ArgsP K F H Y U [] []
|d {v:V} {d:D} {vs:List V} {as:List ArgP}:Is K F v d->ArgsP K F H Y U vs as->ArgsP K F H Y U (v :: vs) (.d d :: as)
|b {v:V} {i:Nat} {p:Pth} {t:T} {vs:List V} {as:List ArgP}:AtS H Y U i p v t->ArgsP K F H Y U vs as->ArgsP K F H Y U (v :: vs) (.b i p t :: as)
|o {v:V} {i:Nat} {p:Pth} {t:T} {vs:List V} {as:List ArgP}:AtS H Y U i p v t->ArgsP K F H Y U vs as->ArgsP K F H Y U (v :: vs) (.o i p t :: as)
abbrev DAT:=DSt->(List ArgP->Prop)->Prop
def RfAT(K:Fg)(ta:TA)(da:DAT):Prop:=∀{F H:Hp}{Y:_2.St}{U:DSt}{Qd:List ArgP->Prop}{Q:List V->Hp->Prop},Same F H->RV K F H Y U->da U Qd->(∀as,Qd as->∀vs p H',Ext F H p H'->ArgsP K p H' Y U vs as->Q vs H')->ta Y H Q
variable {dA':DAT}
def aNil:DAT:=λ_ Q=>Q []
def aD(de:DE)(p:DAT):DAT:=λU Q=>de U λx=>p U λas=>Q (.d x :: as)
def aB(dp:DP)(q:DAT):DAT:=λU Q=>dp U λi p t=>q U λas=>Q (.b i p t :: as)
def aO(dp:DP)(q:DAT):DAT:=λU Q=>dp U λi p t=>q U λas=>Q (.o i p t :: as)
theorem zg9:RfAT K tNil aNil:=λs rv h k=>k _ h _ _ _ (Ext.refl s) .nil
theorem at_d(I:RfE K ta da)(hr:RfAT K tA dA'):RfAT K (zdm ta tA) (aD da dA'):=by
 walk_at"0";refine I s rv h λx G v L J p B=>hr p.fh (rv.ext p) G λas has vs F2 H2 q z=>?_;exact k _ has _ F2 H2 (p.trans q) (.d (B.mono q.f) z)
theorem at_b(J:RfP K ta dp)(hr:RfAT K tA dA'):RfAT K (zdm ta tA) (aB dp dA'):=by
 walk_at"0";refine J s rv h λi p t I v M L q G=>hr q.fh (rv.ext q) I λas has vs F2 H2 z B=>?_;exact k _ has _ F2 H2 (q.trans z) (.b (G.mono z.h) B)
theorem at_o(J:RfP K ta dp)(hr:RfAT K tA dA'):RfAT K (zdm ta tA) (aO dp dA'):=by
 walk_at"0";refine J s rv h λi p t I v M L q G=>hr q.fh (rv.ext q) I λas has vs F2 H2 z B=>?_;exact k _ has _ F2 H2 (q.trans z) (.o (G.mono z.h) B)
def noO:List ArgP->Prop
|[]=>True
|.o _ _ _ :: _=>False
|.d _ :: r=>noO r
|.b _ _ _ :: r=>noO r
def noS(i:Nat):List ArgP->Prop
|[]=>True
|.b j _ _ :: r=>j≠i/\noS i r
|.d _ :: r=>noS i r
|.o _ _ _ :: r=>noS i r
def zst:List ArgP->Option (Nat×Pth×T)
|[]=>none
|.o i p t :: _=>some (i,p,t)
|.d _ :: r=>zst r
|.b _ _ _ :: r=>zst r
def oneO(i:Nat):List ArgP->Prop
|[]=>False
|.o _ _ _ :: r=>noO r/\noS i r
|.d _ :: r=>oneO i r
|.b j _ _ :: r=>j≠i/\oneO i r
def zt51(U:DSt)(i:Nat):Prop:=match U[i]? with
|some (.ow _)=>True
|some (.io _ _)=>True
|_=>False
def zqx:T->Prop
|.fz _=>False
|_=>True
theorem zdl{F H:Hp}{Y:_2.St}{U:DSt}{fps:Nat->List aE}(rt:∀{i:Nat}{p:Pth}{v:V}{u:T},AtS H Y U i p v u->∃fn,Rt K F H v u fn/\fn.Nodup/\∀a∈fn,a∈fps i/\∃s,U[i]?=some s/\s.has=true):∀{vs:List V}{as:List ArgP},ArgsP K F H Y U vs as->noO as->∃bf,ArgsR K F H vs (as.map ArgP.arg) bf none/\∀i,noS i as->∀b∈bf,∃j,j≠i/\b∈fps j/\∃s,U[j]?=some s/\s.has=true
|_,_,.nil,_=>⟨[],.nil,λi _ b q=>by simp at q⟩
|_,_,.d h r,hn=>by
  obtain⟨bf,G,B⟩:=zdl rt r hn;exact⟨bf,.d h G,B⟩
|_,_,.b (i:=J) h r,hn=>by
  obtain⟨bf,G,B⟩:=zdl rt r hn;obtain⟨fn,M,L,I⟩:=rt h;refine⟨fn++bf,.b M L G,λi hi b q=>?_⟩;rcases vX.mp q with z|z
  ·exact⟨J,hi.1,(I b z).1,(I b z).2⟩
  ·exact B i hi.2 b z
|_,_,.o h r,hn=>hn.elim
theorem zii{F H:Hp}{Y:_2.St}{U:DSt}{fps:Nat->List aE}(rt:∀{i:Nat}{p:Pth}{v:V}{u:T},AtS H Y U i p v u->∃fn,Rt K F H v u fn/\fn.Nodup/\∀a∈fn,a∈fps i/\∃s,U[i]?=some s/\s.has=true){i:Nat}{p:Pth}{u:T}:∀{vs:List V}{as:List ArgP},ArgsP K F H Y U vs as->zst as=some (i,p,u)->oneO i as->zqx u ->
  ∃a,AtS H Y U i p (.ref a) u/\∀fn,Rt K F H (.ref a) u fn->fn.Nodup->∃bf,ArgsR K F H vs (as.map ArgP.arg) bf (some (a,fn))/\∀b∈bf,∃j,j≠i/\b∈fps j/\∃s,U[j]?=some s/\s.has=true
|_,_,.nil,e,_,_=>by cases e
|_,_,.d h r,e,G,hf=>by
  obtain⟨a,O,M⟩:=zii rt r e G hf;refine⟨a,O,λfn L S=>?_⟩;obtain⟨bf,B,q⟩:=M fn L S;exact⟨bf,.d h B,q⟩
|_,_,.b (i:=Z) h r,e,G,hf=>by
  obtain⟨a,O,M⟩:=zii rt r e G.2 hf;obtain⟨fb,L,S,W⟩:=rt h;refine⟨a,O,λfn B q=>?_⟩;obtain⟨bf,J,I⟩:=M fn B q;refine⟨fb++bf,.b L S J,λb hb=>?_⟩;rcases vX.mp hb with z|z
  ·exact⟨Z,G.1,(W b z).1,(W b z).2⟩
  ·exact I b z
|_,_,.o h r,e,G,hf=>by
  cases e;obtain⟨bf,J,I⟩:=zdl rt r G.1;obtain⟨fn0,L,_,_⟩:=rt h;cases L with
 |fz _=>exact hf.elim
 |li _ _ _=>exact⟨_,h,λfn B q=>⟨bf,.o B q J,I i G.2⟩⟩
 |ls _ _ _=>exact⟨_,h,λfn B q=>⟨bf,.o B q J,I i G.2⟩⟩
 |ob _ _ _ _ _=>exact⟨_,h,λfn B q=>⟨bf,.o B q J,I i G.2⟩⟩
 |dk _ _ _=>exact⟨_,h,λfn B q=>⟨bf,.o B q J,I i G.2⟩⟩
 |dt _ _ _=>exact⟨_,h,λfn B q=>⟨bf,.o B q J,I i G.2⟩⟩
 |tp _ _ _=>exact⟨_,h,λfn B q=>⟨bf,.o B q J,I i G.2⟩⟩
theorem RS.rtS{B:Bs}{F H:Hp}{Y:_2.St}(r:RS K B F H Y U fps){p:Pth}{v:V}{u:T}(h:AtS H Y U i p v u):∃fn,Rt K F H v u fn/\fn.Nodup/\∀a∈fn,a∈fps i/\∃s,U[i]?=some s/\s.has=true:=by
 obtain⟨s,t,x,I,G,L,J⟩:=h;by_cases q:s.has=true
 ·obtain⟨x',t',S,O,a3,a4,a5⟩:=r.rt i s I q;rw[L]at S;cases S;rw[G]at O;cases O;obtain⟨fn,g1,Z,W,_⟩:=zqd1 J a3 a5;exact⟨fn,g1,W,λa z=>⟨Z a z,s,I,q⟩⟩
 ·cases s with
 |sh d =>
   cases G;obtain⟨y,M,b2⟩:=r.sh i d I;rw[L]at M;cases M;cases J;exact⟨[],.fz b2,.nil,λa z=>by simp at z⟩
 |un=>cases G
 |ow _=>exact aL rfl q
 |bo _=>exact aL rfl q
 |io _ _=>exact aL rfl q
theorem ze51{p:Pth}{u t0:T}{s:Sl}(hi:U[i]?=some s)(q:s.own=true)(z:s.tree=some t0)(h:mutS U i p u N):N (U.set i (s.wth (setP t0 p u))):=by
 unfold mutS at h;rw[hi]at h;cases s with
|ow t=>cases z;exact h
|io a t=>cases z;exact h
|un=>cases q
|sh _=>cases q
|bo _=>cases q
def zs91(p:DSpT)(U:DSt)(as:List ArgP)(Q:T->DSt->Prop):Prop:=match zst as with
|some (i,q,t)=>zt51 U i/\oneO i as/\zqx t/\p (as.map ArgP.arg) λr z=>mutS U i q z λU'=>Q r U'
|none=>noO as/\p (as.map ArgP.arg) λr _=>Q r U
theorem zhx{B:Bs}{F H:Hp}{Y:_2.St}{p:DSpT}{as:List ArgP}{Qd:T->DSt->Prop}{Q:VK}(r:RS K B F H Y U fps)(ha:ArgsP K F H Y U vs as)(hc:zs91 p U as Qd)
  (k:∀r U',Qd r U'->∀v L H' fps' fpr,Res K B L H' Y U' fps' v r fpr->Q v H'):spT K p vs H Q E:=by
 unfold zs91 at hc;split at hc
 ·rename_i i q t0 eo
  obtain⟨ho,h1,hf,hp⟩:=hc;obtain⟨s,hs,I⟩:∃s,U[i]?=some s/\s.own=true:=by
   unfold zt51 at ho;split at ho
   ·rename_i q;exact⟨_,q,rfl⟩
   ·rename_i q;exact⟨_,q,rfl⟩
   ·exact ho.elim
  obtain⟨a,hat,S⟩:=zii (λh=>r.rtS h) ha eo h1 hf;obtain⟨fn,t1,g1,g2,g3,g4,back⟩:=r.put hs I hat;obtain⟨bf,m1,m2⟩:=S fn g2 g3;refine⟨F,_,bf,some (a,fn),_,r.fh,m1,λb G hbf=>?_,hp,λr2 t2 q2 v L H' fpr W post=>?_⟩
  ·obtain⟨j,hj,hbj,sj,e1,hh⟩:=m2 b hbf;exact r.dj i j s sj (λz=>hj z.symm) hs e1 I hh b (g4 b G) hbj
  ·obtain⟨io1,io2,io3,io4⟩:=post.io a fn rfl;obtain⟨Z,r2',e2,e3⟩:=back (F2:=L) (H2:=H') (u2:=t2) (fq:=W) post.hh post.ff post.fh (λb G fb _=>post.nw b G fb) post.al (λb G f=>aL (post.nw b (g2.dom b G).1 (g2.dom b G).2) f) io1 io2 (λb G=>(io3 b G).elim .inl λz=>.inr (r.newOk z));have qd:=ze51 hs I g1 q2;refine k _ _ qd v L H' Z fpr ⟨r2',post.rt,post.nd,λb G=>(r.newOk (post.fr b G)).1,λj s' ej M b G J=>?_⟩;have fresh:=post.fr b J;by_cases O:j=i
   ·subst O;rcases e3 b G with z|z
    ·obtain⟨x',t',a1,a2,a3,a4,a5⟩:=r.rt j s hs (zs9 I);exact(a3.dom b z).1 fresh
    ·exact io4 b z J
   ·rw[e2 j O]at G;rw[xX (λz=>O z.symm)]at ej;exact(r.newOk fresh).2 j s' ej M G
 ·rename_i eo
  obtain⟨hn,hp⟩:=hc;obtain⟨bf,m1,_⟩:=zdl (λh=>r.rtS h) ha hn;refine⟨F,_,bf,none,_,r.fh,m1,λb G=>by simp[ofp]at G,hp,λr2 t2 q2 v L H' fpr W post=>?_⟩;have ex:Ext F H L H':=⟨λb o G=>post.hh b o (by simp[ofp]) G,post.ff,post.fh,post.nw⟩
  exact k _ _ q2 v L H' fps fpr ⟨r.grow ex,post.rt,post.nd,λb G=>(r.newOk (post.fr b G)).1,λj s' ej M b G J=>(r.newOk (post.fr b J)).2 j s' ej M G⟩
def noM(m:Str)(u:T):Prop:=match u with
|.ob _ fs=>fs.lookup m=none
|_=>False
def zgb1(o:Bool)(C:aE)(m:Str)(p:DSpT)(dp:DP)(da:DAT):DC:=λU Q=>dp U λi q u=>nCls C u/\noM m u/\da U λas=>zs91 p U ((if o then .o i q u else .b i q u) :: as) Q
theorem zml{F H:Hp}{v:V}{u:T}(hr:Rt K F H v u fn)(p:nCls C u)(q:noM m u):∃a dx fs,v=.ref a/\H a=some (.ins C dx fs)/\fs.lookup m=none:=by
 cases hr with
|ob B J I G z =>
  cases (show _=C from p);exact⟨_,_,_,rfl,B,(z.keys m).1 q⟩
|fz _=>exact p.elim
|li _ _ _=>exact p.elim
|ls _ _ _=>exact p.elim
|dk _ _ _=>exact p.elim
|dt _ _ _=>exact p.elim
|tp _ _ _=>exact p.elim
theorem zta{p:DSpT}(o:Bool)(O:RfP K ta dp)(h:RfAT K tA dA'):RfC K (zn51 C m (spT K p) [] E ta tA) (zgb1 o C m p dp dA'):=by
 walk_at"12";refine O r.fh r.rv hd λi q u J v F1 H1 Z I=>?_;have z:=r.grow Z;obtain⟨fn,hr⟩:=I.rt z.rv;obtain⟨a,dx,fs,rfl,W,S⟩:=zml hr J.1 J.2.1;refine⟨a,dx,fs,rfl,W,S,h z.fh z.rv J.2.2 λas has vs F2 H2 L M=>?_⟩;rw[wS];have G:=I.mono L.h;cases o with
|true=>exact zhx (z.grow L) (.o G M) has k
|false=>exact zhx (z.grow L) (.b G M) has k
def zp51(p:DSpT)(as:List ArgP)(Q:T->Prop):Prop:=noO as/\p (as.map ArgP.arg) λr _=>Q r
theorem AtS.rtV{F H:Hp}{Y:_2.St}(r:RV K F H Y U){p:Pth}{v:V}{u:T}(h:AtS H Y U i p v u):∃fn,Rt K F H v u fn/\fn.Nodup:=by
 obtain⟨s,t,x,G,B,z,q⟩:=h;obtain⟨y,fp,e,hr,nd⟩:=(r.sl i s G).rt B;rw[z]at e;cases e;obtain⟨fn,J,_,I,_⟩:=zqd1 q hr nd;exact⟨fn,J,I⟩
theorem zsl{F H:Hp}{Y:_2.St}{U:DSt}(r:RV K F H Y U):∀{vs:List V}{as:List ArgP},ArgsP K F H Y U vs as->noO as->∃bf,ArgsR K F H vs (as.map ArgP.arg) bf none
|_,_,.nil,_=>⟨[],.nil⟩
|_,_,.d h q,hn=>by
  obtain⟨bf,p⟩:=zsl r q hn;exact⟨bf,.d h p⟩
|_,_,.b h q,hn=>by
  obtain⟨bf,p⟩:=zsl r q hn;obtain⟨fn,B,z⟩:=h.rtV r;exact⟨fn++bf,.b B z p⟩
|_,_,.o h r,hn=>hn.elim
theorem zsn{F H:Hp}{Y:_2.St}{p:DSpT}{as:List ArgP}{Qd:T->Prop}{Q:VK}(s:Same F H)(r:RV K F H Y U)(J:ArgsP K F H Y U vs as)(B:zp51 p as Qd)
  (k:∀r,Qd r->∀v q H' fp,Ext F H q H'->Rt K q H' v r fp->fp.Nodup->(∀a∈fp,H a=none)->Q v H'):spT K p vs H Q E:=by
 obtain⟨bf,I⟩:=zsl r J B.1;refine⟨F,_,bf,none,_,s,I,λb z=>by simp[ofp]at z,B.2,λO M G v q H' fpr L post=>?_⟩;exact k _ G v q H' fpr ⟨λb o z=>post.hh b o (by simp[ofp]) z,post.ff,post.fh,post.nw⟩ post.rt post.nd post.fr
def zic1(p:DSpT)(da:DAT):DN:=λU Q=>da U λas=>zp51 p as Q
def zah1(C:aE)(m:Str)(p:DSpT)(dp:DP)(da:DAT):DN:=λU Q=>dp U λi q u=>nCls C u/\noM m u/\da U λas=>zp51 p (.b i q u :: as) Q
theorem zt81{p:DSpT}(h:RfAT K tA dA'):RfN K (zq51 (spT K p) [] E tA) (zic1 p dA'):=by
 walk_at"2";refine h s rv hd λas has vs W S z B=>?_;rw[wS];exact zsn z.fh (rv.ext z) B has λr q v O H' fp M L J I=>k r q v O H' fp (z.trans M) L J λa G=>zn2 z (I a G)
theorem zl71{p:DSpT}(W:RfP K ta dp)(h:RfAT K tA dA'):RfN K (zn51 C m (spT K p) [] E ta tA) (zah1 C m p dp dA'):=by
 walk_at"2";refine W s rv hd λi q u I v F1 H1 O G=>?_;have B:=rv.ext O;obtain⟨fn,hr⟩:=G.rt B;obtain⟨a,dx,fs,rfl,L,J⟩:=zml hr I.1 I.2.1;refine⟨a,dx,fs,rfl,L,J,h O.fh B I.2.2 λas has vs F2 H2 M S=>?_⟩;rw[wS];have z:=O.trans M;exact zsn M.fh (rv.ext z) (.b (G.mono M.h) S) has λr q v F' H' fp e3 L J h3=>k r q v F' H' fp (z.trans e3) L J λa Z=>zn2 z (h3 a Z)
def eN(p:DN):DE:=λU Q=>p U λr=>fzT r Q
theorem RfN.ex{p:DN}(h:RfN K te p):RfE K te (eN p):=λs rv hd k=>h s rv hd λr q v I H' fp G B L J=>by
 obtain⟨d,z,i⟩:=zo71 B q;exact k d z v I H' G i
def zh81(C:aE)(p:DSpT)(da:DAT):DN:=λU Q=>da U λas=>noO as/\p (.o (.ob C []) :: as.map ArgP.arg) λr q=>(match r with|.fz .none=>True|_=>False)/\Q q
theorem zel{p:DSpT}(h:RfAT K tA dA'):RfN K (zid1 C (spT K p) [] E tA) (zh81 C p dA'):=by
 walk_at"2";refine h s rv hd λas has vs L I O i1=>?_;intro x dx M B W;obtain⟨bf,m1⟩:=zsl (rv.ext O) i1 has.1;have hH:∀b,b≠x->b≠dx->upd (upd I dx (.own x)) x (.ins C dx []) b=I b:=λb J h2=>by rw[zd1 J,zd1 h2]
 have s2:Same I (upd (upd I dx (.own x)) x (.ins C dx [])):=λb o z=>by
  rw[hH b (λq=>by subst q;rw[M]at z;cases z) (λq=>by subst q;rw[B]at z;cases z)];exact z
 have fx:L x=none:=by
  cases q:L x with
 |none=>rfl
 |some o=>rw[O.fh x o q]at M;cases M
 have fdx:L dx=none:=by
  cases q:L dx with
 |none=>rfl
 |some o=>rw[O.fh dx o q]at B;cases B
 have m2:ArgsR K L (upd (upd I dx (.own x)) x (.ins C dx [])) vs (as.map ArgP.arg) bf none/\∀b∈bf,I b≠none:=by
  have key:∀{vs:List V}{as:List Arg}{bf:List aE}{Z:Option (aE×List aE)},ArgsR K L I vs as bf Z->Z=none->ArgsR K L (upd (upd I dx (.own x)) x (.ins C dx [])) vs as bf none/\∀b∈bf,I b≠none:=λ{vs as bf Z} hh=>by
   induction hh with
  |nil=>intro _;exact⟨.nil,λb G=>by simp at G⟩
  |d J _ S=>intro e;exact⟨.d J (S e).1,(S e).2⟩
  |b J h2 _ S =>
    intro e;refine⟨.b (J.frame (λ_ _ z=>z) λb G=>⟨?_,(J.dom b G).2⟩) h2 (S e).1,λb G=>?_⟩
    ·exact hH b (λq=>by subst q;exact(J.dom b G).1 M) (λq=>by subst q;exact(J.dom b G).1 B)
    ·rcases vX.mp G with z|z
     ·exact(J.dom b z).1
     ·exact(S e).2 b z
  |o _ _ _ _=>intro e;cases e
  exact key m1 rfl
 refine⟨L,_,bf,some (x,[x,dx]),_,O.fh.trans s2,.o (.ob zq0 (by rw[zd1 W,zq0]) fx fdx .nil) (by simp[Ne.symm W]) (by rw[wS];exact m2.1),λb G hbf=>?_,has.2,λr t2 q2 v F' H' fpr fpo post=>?_⟩
 ·have:=m2.2 b hbf;simp[ofp]at G;rcases G with z|z
  ·exact this (by rw[z];exact M)
  ·exact this (by rw[z];exact B)
 ·obtain⟨q0,q1⟩:=q2;obtain⟨io1,io2,io3,io4⟩:=post.io x [x,dx] rfl;refine⟨?_,k _ q1 (.ref x) F' H' fpo (O.trans ⟨λb o z=>?_,post.ff,post.fh,λb G fb=>post.nw b (λz=>?_) fb⟩) io1 io2 λb G=>zn2 O ?_⟩
  ·split at q0
   ·cases post.rt with
   |fz i=>exact i.non_inv
   ·exact q0.elim
  ·refine post.hh b o (λw=>?_) (s2 b o z);simp[ofp]at w;rcases w with w|w
   ·rw[w,M]at z;cases z
   ·rw[w,B]at z;cases z
  ·cases q:I b with
  |none=>exact G q
  |some o=>rw[s2 b o q]at z;cases z
  ·rcases io3 b G with z|z
   ·simp at z;rcases z with z|z
    ·rw[z];exact M
    ·rw[z];exact B
   ·cases q:I b with
   |none=>rfl
   |some o=>rw[s2 b o q]at z;cases z
end
section
variable {P:aN}{w:aP}{K:Fg}{mg:Str->Option aA}{base:aT}
def zac1(a:aE):Arg->Sl
|.d x=>.sh x
|.b x=>.bo x
|.o x=>.io a x
def zqm(N:List Str)(a:aE)(as:List Arg):DSt:=as.map (zac1 a)++vY (N.length - as.length) .un
def oIx:List Arg->Option Nat
|[]=>none
|.o _ :: _=>some 0
|.d _ :: r=>(oIx r).map (·+1)
|.b _ :: r=>(oIx r).map (·+1)
def exA(as:List Arg)(a:aE)(Qd:T->T->Prop)(r:T)(U:DSt):Prop:=match oIx as with
|none=>Qd r (.fz .none)
|some k=>∃t',U[k]?=some (.io a t')/\Qd r t'
def zub1(as:List Arg)(a:aE)(Qd:T->T->Prop):DEnds:={ nx:=exA as a Qd (.fz .none),rt:=exA as a Qd }
theorem zig{F H:Hp}:∀{vs:List V}{as:List Arg}{bf:List aE}{M:Option (aE×List aE)},ArgsR K F H vs as bf M->vs.length=as.length/\∃fl:Nat->List aE,
  (∀(k:Nat) x,as[k]?=some (.d x)->∃v,vs[k]?=some v/\Is K F v x) /\
  (∀(k:Nat) x,as[k]?=some (.b x)->∃v,vs[k]?=some v/\Rt K F H v x (fl k)/\(fl k).Nodup/\∀b∈fl k,b∈bf) /\
  (∀(k:Nat) x,as[k]?=some (.o x)->∃a,vs[k]?=some (.ref a)/\M=some (a,fl k)/\Rt K F H (.ref a) x (fl k)/\(fl k).Nodup/\oIx as=some k)/\(M=none->oIx as=none)/\(∀a fp,M=some (a,fp)->∃k x,as[k]?=some (.o x)/\fl k=fp/\oIx as=some k)
|_,_,_,_,.nil=>⟨rfl,λ_=>[],λk x e=>by simp at e,λk x e=>by simp at e,λk x e=>by simp at e,λ_=>rfl,λa fp e=>by cases e⟩
|_,_,_,_,.d h r=>by
  obtain⟨hl,fl,J,I,G,S,O⟩:=zig r;refine⟨by simp[hl],λk=>fl (k - 1),λk x e=>?_,λk x e=>?_,λk x e=>?_,λe=>?_,λa fp e=>?_⟩
  ·cases k with
  |zero=>simp at e;subst e;exact⟨_,rfl,h⟩
  |succ k=>obtain⟨v,q,p⟩:=J k x (by simpa using e);exact⟨v,by simpa using q,p⟩
  ·cases k with
  |zero=>simp at e
  |succ k=>obtain⟨v,q,p⟩:=I k x (by simpa using e);exact⟨v,by simpa using q,p⟩
  ·cases k with
  |zero=>simp at e
  |succ k=>obtain⟨v,q,p,u,z,W⟩:=G k x (by simpa using e);exact⟨v,by simpa using q,p,u,z,by simp[oIx,W]⟩
  ·simp[oIx,S e]
  ·obtain⟨k,x,q,p,u⟩:=O a fp e;exact⟨k+1,x,by simpa using q,p,by simp[oIx,u]⟩
|_,_,_,_,.b (fp:=fp) (bf:=bf) h nd r=>by
  obtain⟨hl,fl,J,I,G,S,O⟩:=zig r;refine⟨by simp[hl],λk=>if k=0 then fp else fl (k - 1),λk x e=>?_,λk x e=>?_,λk x e=>?_,λe=>?_,λa L e=>?_⟩
  ·cases k with
  |zero=>simp at e
  |succ k=>obtain⟨v,q,p⟩:=J k x (by simpa using e);exact⟨v,by simpa using q,p⟩
  ·cases k with
  |zero=>simp at e;subst e;exact⟨_,rfl,h,nd,λb B=>by simp at B ⊢;exact .inl B⟩
  |succ k=>obtain⟨v,q,p,u,z⟩:=I k x (by simpa using e);exact⟨v,by simpa using q,p,u,λb B=>by have:=z b (by simpa using B);simp[this]⟩
  ·cases k with
  |zero=>simp at e
  |succ k=>obtain⟨v,q,p,u,z,W⟩:=G k x (by simpa using e);exact⟨v,by simpa using q,p,u,z,by simp[oIx,W]⟩
  ·simp[oIx,S e]
  ·obtain⟨k,x,q,p,u⟩:=O a L e;exact⟨k+1,x,by simpa using q,by simpa using p,by simp[oIx,u]⟩
|_,_,_,_,.o (a:=a) (fp:=fp) h nd r=>by
  obtain⟨hl,fl,J,I,G,S,O⟩:=zig r;refine⟨by simp[hl],λk=>if k=0 then fp else fl (k - 1),λk x e=>?_,λk x e=>?_,λk x e=>?_,λe=>(by cases e),λY L e=>?_⟩
  ·cases k with
  |zero=>simp at e
  |succ k=>obtain⟨v,q,p⟩:=J k x (by simpa using e);exact⟨v,by simpa using q,p⟩
  ·cases k with
  |zero=>simp at e
  |succ k=>obtain⟨v,q,p,u,z⟩:=I k x (by simpa using e);exact⟨v,by simpa using q,p,u,λb B=>z b (by simpa using B)⟩
  ·cases k with
  |zero=>simp at e;subst e;exact⟨a,rfl,rfl,h,nd,rfl⟩
  |succ k =>
    obtain⟨v,q,p,u,z,W⟩:=G k x (by simpa using e);cases p
  ·cases e;exact⟨0,_,rfl,rfl,rfl⟩
theorem zu8{N:List Str}{k:Nat}{p:DSpT}
  (body:∀(f:aE)(cdv:aA)(A:a7)(outer:List Env)(s:aG)(H:Hp)(E:XK),Room k (A.deeper (dW qual (zh0 st) s.heap.objs.size f cdv))->∃t d,PSs (cxOf CX0 P w K mg base N qual (zh0 st) f cdv A outer s H E).nox (zm3 st) t/\RfS K t d/\∀as Qd a,p as Qd->d (zub1 as a Qd) (zqm N a as)) :
  zt8 P w K mg base qual st N k (spT K p):=by
 walk_at"14";obtain⟨F,as,bf,Z,Qd,sf,ha,hd,hp,hq⟩:=h;obtain⟨t,d,h1,h2,h3⟩:=body f cdv A outer s H E hr;obtain⟨hl,fl,a1,a2,a3,a4,a5⟩:=zig ha;obtain⟨a,haa⟩:∃a:aE,∀I fp,Z=some (I,fp)->I=a:=by
  cases Z with
 |none=>exact⟨0,λI fp e=>by cases e⟩
 |some x=>exact⟨x.1,λI fp e=>by cases e;rfl⟩
 have slot:∀(i:Nat) sl,(zqm N a as)[i]?=some sl->(sl=.un/\as.length<=i) \/ ∃g,as[i]?=some g/\sl=zac1 a g:=λi sl e=>by
  unfold zqm at e;by_cases hi:i < as.length
  ·rw[wP (by simpa using hi),u8]at e;obtain⟨g,h1,h2⟩:=xA.mp e;exact .inr ⟨g,h1,h2.symm⟩
  ·rw[wO (by simpa using hi),xO]at e;split at e
   ·cases e;exact .inl ⟨rfl,by lia⟩
   ·cases e
 have val:∀(i:Nat) v,vs[i]?=some v->(_2.start N vs).getD i none=some v:=λi v e=>by
  have hi:i < vs.length:=by
   rcases wZ i vs.length with z|z
   ·exact z
   ·rw[wG z]at e;cases e
  unfold _2.start;rw[v4,wP (by simpa using hi),u8,e];rfl
 have rs:RS K ⟨F,H,ofp Z⟩ F H (_2.start N vs) (zqm N a as) fl:=by
  refine⟨λb o _ z=>z,λ_ _ z=>z,sf,λb _ z=>z,λb z=>z,by simp[_2.start,zqm,hl],λi x e=>?_,λi sl e hs=>?_,λi sl e ho b Y=>?_,λi j sl sl' hij W G o1 o2 b Y hb2=>?_⟩
  ·rcases slot i _ e with⟨z,_⟩|⟨g,W,G⟩
   ·cases z
   ·cases g with
   |d B=>cases G;obtain⟨v,S,L⟩:=a1 i x W;exact⟨v,val i v S,L⟩
   |b _=>cases G
   |o _=>cases G
  ·rcases slot i _ e with⟨z,_⟩|⟨g,W,G⟩
   ·rw[z]at hs;cases hs
   ·cases g with
   |d B=>rw[G]at hs;cases hs
   |b B =>
     obtain⟨v,S,L,O,g4⟩:=a2 i B W;rw[G];exact⟨v,B,val i v S,rfl,L,λa u z=>(by cases z),O⟩
   |o B =>
     obtain⟨I,S,L,O,g4,g5⟩:=a3 i B W;have:=haa I _ L;subst this;rw[G];exact⟨_,B,val i _ S,rfl,O,λa u z=>(by cases z;rfl),g4⟩
  ·rcases slot i _ e with⟨z,_⟩|⟨g,W,G⟩
   ·rw[z]at ho;cases ho
   ·cases g with
   |d B=>rw[G]at ho;cases ho
   |b B=>rw[G]at ho;cases ho
   |o B =>
     obtain⟨I,S,L,O,g4,g5⟩:=a3 i B W;refine .inr ⟨?_,λt z=>?_⟩
     ·show b∈ofp Z;rw[L];exact Y
     ·rw[G]at z;cases z
  ·rcases slot i _ W with⟨z,_⟩|⟨g,f1,f2⟩
   ·rw[z]at o1;cases o1
   ·cases g with
   |d B=>rw[f2]at o1;cases o1
   |b B=>rw[f2]at o1;cases o1
   |o B =>
     obtain⟨I,S,L,O,g4,g5⟩:=a3 i B f1;rcases slot j _ G with⟨z,_⟩|⟨g',f1',f2'⟩
     ·rw[z]at o2;cases o2
     ·cases g' with
     |d M=>rw[f2']at o2;cases o2
     |b M =>
       obtain⟨v,k1,k2,k3,k4⟩:=a2 j M f1';exact hd b (by rw[L];exact Y) (k4 b hb2)
     |o M =>
       obtain⟨a'',k1,k2,k3,k4,k5⟩:=a3 j M f1';rw[g5]at k5;exact hij (w8.inj k5)
 have fin:∀{F' H':Hp}{Y':_2.St}{U':DSt}{J:Nat->List aE}{v:V}{r:T}{fpr:List aE},Res K ⟨F,H,ofp Z⟩ F' H' Y' U' J v r fpr->exA as a Qd r U'->Q v H':=λ{F' H' Y' U' J v r fpr} res ex=>by
  unfold exA at ex;split at ex
  ·rename_i eo
   refine hq r (.fz .none) ex v F' H' fpr [] ⟨res.rs.hh,res.rs.ff,res.rs.fh,res.rs.nw,res.rs.al,res.rt,res.nd,res.fr,λI fp e=>?_⟩;obtain⟨k,x,S,L,O⟩:=a5 I fp e;rw[eo]at O;cases O
  ·rename_i ko eo
   obtain⟨t',et,qd⟩:=ex;obtain⟨B,t'',b1,b2,b3,b4,b5⟩:=res.rs.rt ko _ et rfl;cases b2;have:=b4 a t' rfl;subst this;refine hq r t' qd v F' H' fpr (J ko) ⟨res.rs.hh,res.rs.ff,res.rs.fh,res.rs.nw,res.rs.al,res.rt,res.nd,res.fr,λI fp e=>?_⟩;have ea:=haa I fp e;subst ea;refine⟨b3,b5,λb Y=>?_,λb Y=>res.dj ko _ et rfl b Y⟩;rcases res.rs.fr ko _ et rfl b Y with z|⟨z,_⟩
   ·exact .inr z
   ·have:b∈ofp Z:=z;rw[e]at this;exact .inl this
 refine⟨t,h1,h2 rs (h3 as Qd a hp) ⟨λr q=>fin ⟨r,.fz .non,.nil,λa ha=>by simp at ha,λ_ _ _ _ a _ ha=>by simp at ha⟩ q,λ_ z=>z.elim,λ_ z=>z.elim,λres q=>fin res q⟩⟩
theorem zh11{F H:Hp}{as:List Arg}{bf:List aE}{p:Option (aE×List aE)}(h:ArgsR K F H vs as bf p):vs.length=as.length:=(zig h).1
theorem zwj{p:DSpT}(h:∀as Qd,p as Qd->as.length=ps.length):∀vs H Q E,spT K p vs H Q E->vs.length=ps.length:=λvs H Q E z=>by
 obtain⟨F,as,bf,B,Qd,_,u,_,q,_⟩:=z;rw[zh11 u];exact h as Qd q
def zje(N:List Str)(ds:List D):DSt:=ds.map Sl.sh++vY (N.length - ds.length) .un
def rD(Qd:D->Prop)(r:T)(_:DSt):Prop:=match r with
|.fz d=>Qd d
|.li ds=>Qd (.list ds)
|.ls ts=>∃d,toD (.ls ts)=some d/\Qd d
|_=>False
theorem zt61{Qd:D->Prop}{r:T}(h:rD Qd r U):∃d,toD r=some d/\Qd d:=by
 cases r with
|fz d=>exact⟨d,rfl,h⟩
|li ds=>exact⟨_,rfl,h⟩
|ls ts=>exact h
|ob _ _=>exact h.elim
|dk _=>exact h.elim
|dt _=>exact h.elim
|tp _=>exact h.elim
theorem zbp{F H:Hp}{N:List Str}{ds:List D}(s:Same F H)(h:IsAll K F vs ds):RS K ⟨F,H,[]⟩ F H (_2.start N vs) (zje N ds) (λ_=>[]):=by
 have I:=h.dlen;have no:∀(i:Nat) sl,(zje N ds)[i]?=some sl->sl.has=true->False:=λi sl e p=>by
  unfold zje at e;by_cases hi:i < ds.length
  ·rw[wP (by simpa using hi),u8]at e;obtain⟨x,_,z⟩:=xA.mp e;subst z;cases p
  ·rw[wO (by simpa using hi),xO]at e;split at e
   ·cases e;cases p
   ·cases e
 refine⟨λb o _ z=>z,λ_ _ z=>z,s,λb _ z=>z,λb z=>z,by simp[_2.start,zje,I],λi x e=>?_,λi sl e p=>(no i sl e p).elim,λi sl e G=>(no i sl e (zs9 G)).elim,λi j sl J _ e _ o _=>(no i sl e (zs9 o)).elim⟩;unfold zje at e;unfold _2.start;by_cases hi:i < ds.length
 ·rw[wP (by simpa using hi),u8]at e;obtain⟨y,u,z⟩:=xA.mp e;cases z;obtain⟨v,B,q⟩:=h.dget u;refine⟨v,?_,q⟩;rw[v4,wP (by simp;lia),u8,B];rfl
 ·rw[wO (by simpa using hi),xO]at e;split at e <;> cases e
theorem zgg1{u q F H:Hp}{Y:_2.St}{v:V}{r:T}{d:D}(res:Res K ⟨u,q,[]⟩ F H Y U fps v r fpr)(e:toD r=some d):∃B,Ext u q B H/\Is K B v d:=by
 obtain⟨F2,s1,s2,s3,G⟩:=zhh1 res.rs.fh res.rt e res.nd;refine⟨F2,⟨λb o z=>res.rs.hh b o (by simp) z,res.rs.ff.trans s1,s2,λb p I=>?_⟩,G⟩;have:b ∉ fpr:=λz=>p (res.fr b z);rw[s3 b this];exact res.rs.nw b p I
theorem zv2{N:List Str}{k:Nat}{p:DSp}
  (body:∀(f:aE)(cdv:aA)(A:a7)(outer:List Env)(s:aG)(H:Hp)(E:XK),Room k (A.deeper (dW qual (zh0 st) s.heap.objs.size f cdv))->∃t d,PSs (cxOf CX0 P w K mg base N qual (zh0 st) f cdv A outer s H E).nox (zm3 st) t/\RfS K t d/\∀ds Qd,p ds Qd->d { nx:=λ_=>Qd .none,rt:=rD Qd } (zje N ds)) :
  zt8 P w K mg base qual st N k (spD K p):=by
 walk_at"14";obtain⟨F,ds,Qd,B,i,G,u⟩:=h;obtain⟨t,d,L,J,I⟩:=body f cdv A outer s H E hr;refine⟨t,L,J (zbp B i) (I ds Qd G) ⟨λr q=>u _ q _ _ _ ⟨λb o z=>r.hh b o (by simp) z,r.ff,r.fh,r.nw⟩ .non,λ_ z=>z.elim,λ_ z=>z.elim,λres q=>?_⟩⟩;obtain⟨d',O,M⟩:=zt61 (U:=[]) q;obtain⟨S,ex,is⟩:=zgg1 res O;exact u _ M _ _ _ ex is
theorem zw81{F:Hp}{ds:List D}(h:IsAll K F vs ds):vs.length=ds.length:=h.dlen
theorem zy9{p:DSp}(h:∀ds Qd,p ds Qd->ds.length=ps.length):∀vs H Q E,spD K p vs H Q E->vs.length=ps.length:=λvs H Q E z=>by
 obtain⟨F,ds,Qd,_,i,q,_⟩:=z;rw[zw81 i];exact h ds Qd q
theorem zkx{F:Hp}:∀ns:List Int,IsAll K F (ns.map V.int) (ns.map u6)
|[]=>.nil
|n :: r=>.cons (.int n) (zkx r)
theorem zti1{N:List Str}{k:Nat}{B:aE}(M:Md K mg)(T:TopDef K "law" st)(p:mg "law"=some (.ref B))(S:FnScope N ["script"] (zh0 st))(J:zrc "law" "law" st ["script"])
  (body:∀base:aT,K.In base->base.Ns aR mg->∀(f:aE)(cdv:aA)(A:a7)(outer:List Env)(s:aG)(H:Hp)(E:XK),Room k (A.deeper (dW "law" (zh0 st) s.heap.objs.size f cdv)) ->
   ∃t d,PSs (cxOf CX0 P w K mg base N "law" (zh0 st) f cdv A outer s H E).nox (zm3 st) t/\RfS K t d/\∀(ns:List Int)(Qd:D->Prop),ns.length<=63->Qd (.bool true)->d { nx:=λ_=>Qd .none,rt:=rD Qd } (zje N [.list (ns.map .int)])) :
  ∃u:cS,(∀(s:aG)(v:aA),fR s u ⟨[v],[]⟩ [("script",v)])/\∀base:aT,K.In base->base.Ns aR mg->FnOk P w K mg base CX0 (k+1) B u ["script"] (zdb1 K):=by
 refine zpf1 M T p S J (λvs H Q E h=>by obtain⟨a,ns,rfl,_⟩:=h;rfl) λbase G nb=>?_;walk_at"14";obtain⟨a,ns,rfl,L,hl,I⟩:=h;obtain⟨t,d,Y,W,O⟩:=body base G nb f cdv A outer s H E hr;refine⟨t,Y,W (zbp (F:=H) (λ_ _ z=>z) (.cons (.lst L (zkx ns)) .nil)) (O ns (λd=>d=.bool true) hl rfl) ⟨λr q=>(by cases q),λ_ z=>z.elim,λ_ z=>z.elim,λres q=>?_⟩⟩;obtain⟨d',e1,Z⟩:=zt61 (U:=[]) q;obtain⟨F',ex,is⟩:=zgg1 res e1;subst Z;cases is;exact I _
end
variable {E:DEnds}{U:DSt}{a b:DS}{de:DE}{dg:DG}{ix:List Nat}{n:Nat}
theorem e_dF(df:DF)(U:DSt)(Q:D->Prop):dF df U Q=( df U λds=>Q (.list ds)):=rfl
theorem e_dC(d:D)(p:DSt)(Q:D->Prop):dC d p Q=( Q d):=rfl
theorem zmf1(f:D->D->(D->Prop)->Prop)(q p:DE)(U:DSt)(Q:D->Prop):dOp f q p U Q=( q U λx=>p U λy=>f x y Q):=rfl
theorem zk11(df:DF)(p:DE)(U:DSt)(Q:List D->Prop):dRep df p U Q=( df U λds=>p U λy=>fRep ds y Q):=rfl
theorem zqf1(f:D->(D->Prop)->Prop)(p:DE)(U:DSt)(Q:D->Prop):dUn f p U Q=( p U λx=>f x Q):=rfl
theorem zcn(p:DE)(U:DSt)(Q:D->Prop):zbg1 p U Q=( p U λx=>fB x λb=>Q (.bool (!b))):=rfl
theorem zpq(q p:DE)(U:DSt)(Q:D->Prop):zag1 q p U Q=( q U λx=>fB x λb=>if b=true then p U Q else Q (.bool false)):=rfl
theorem zrp(de:DE)(U:DSt)(Q:Bool->Prop):ze8 de U Q=( de U λd=>fB d Q):=rfl
theorem zg31(de:DE)(U:DSt)(Q:Bool->Prop):dTru de U Q=( de U λd=>fTru d Q):=rfl
theorem zu31(dt p:DT)(U:DSt)(Q:Bool->Prop):dAnd dt p U Q=( dt U λb=>if b=true then p U Q else Q false):=rfl
theorem zkc1(dt p:DT)(U:DSt)(Q:Bool->Prop):dOr dt p U Q=( dt U λb=>if b=true then Q true else p U Q):=rfl
theorem zx41(dt:DT)(U:DSt)(Q:Bool->Prop):dNot dt U Q=( dt U λb=>Q (!b)):=rfl
theorem zl41(dt:DT)(q p:DE)(U:DSt)(Q:D->Prop):dIfE dt q p U Q=( dt U λb=>if b=true then q U Q else p U Q):=rfl
theorem zt21(p:DSt)(Q:List D->Prop):dNil p Q=( Q []):=rfl
theorem zbr(q:DE)(p:DF)(U:DSt)(Q:List D->Prop):zw0 q p U Q=( q U λx=>p U λxs=>Q (x :: xs)):=rfl
theorem zxy(p:DF)(U:DSt)(Q:D->Prop):dTup p U Q=( p U λxs=>xs.length<=sizeLine/\Q (.tuple xs)):=rfl
theorem zo01(p:DF)(U:DSt)(Q:List D->Prop):dLst p U Q=( p U λxs=>xs.length<=sizeLine/\Q xs):=rfl
theorem zwr(p:DSp)(q:DF)(U:DSt)(Q:D->Prop):zga p q U Q=( q U λds=>p ds Q):=rfl
theorem zkf1(f:List D->(D->Prop)->Prop)(p:DF)(U:DSt)(Q:D->Prop):dCB f p U Q=( p U λds=>f ds Q):=rfl
theorem zbf1(f:List D->(List D->Prop)->Prop)(p:DF)(U:DSt)(Q:List D->Prop):dCF f p U Q=( p U λds=>f ds Q):=rfl
theorem zre1(T:String)(p:DE)(U:DSt)(Q:D->Prop):dIs T p U Q=( p U λd=>(∀kvs,d≠.dict kvs)/\Q (.bool (isT T d))):=rfl
theorem zff(p:DSt)(Q:Option Int->Prop):ztx p Q=( Q none):=rfl
theorem zjt(de:DE)(U:DSt)(Q:Option Int->Prop):zog1 de U Q=( de U λd=>match d with
|.int i=>Q (some i)
|_=>False):=rfl
theorem zec1(de:DE)(dl p:DO)(U:DSt)(Q:D->Prop):dSl de dl p U Q=( de U λd=>dl U λlo=>p U λhi=>fSl d lo hi Q):=rfl
theorem ze01(de:DE)(dl p dk:DO)(U:DSt)(Q:List D->Prop):dSl3 de dl p dk U Q=( de U λd=>dl U λlo=>p U λhi=>dk U λst=>match d with
|.list ds=>st≠some 0/\Q (zwp ds lo hi st)
|_=>False):=rfl
theorem zge1(de:DE)(U:DSt)(Q:List D->Prop):dIt de U Q=( de U λd=>zh41 d Q):=rfl
theorem zgn(p:DF)(U:DSt)(Q:List D->Prop):zx01 p U Q=( p U λds=>match ds with
|[.int j]=>-(2 ^ 62)<=j/\j < 2 ^ 62/\Q (rngD 0 j.toNat)
|_=>False):=rfl
theorem zyn(p:DF)(U:DSt)(Q:List D->Prop):zyg1 p U Q=( p U λds=>match ds with
|[.int i,.int j]=>(-(2 ^ 62)<=i/\i < 2 ^ 62/\-(2 ^ 62)<=j/\j < 2 ^ 62)/\Q (rngD i (j - i).toNat)
|_=>False):=rfl
theorem zg41(p:DF)(U:DSt)(Q:List D->Prop):dZip p U Q=( p U λds=>fZip ds Q):=rfl
theorem zoo(p:DF)(U:DSt)(Q:List D->Prop):zut p U Q=( p U λds=>match ds with
|[.list a]=>Q (ziu a)
|_=>False):=rfl
theorem e_gN(i:Nat)(d:D)(U:DSt)(G:DSt->Prop):gN i d U G=( G (U.set i (.sh d))):=rfl
theorem zpr(ds:List D)(U:DSt)(G:DSt->Prop):ztm ds U G=( match ds with
|[]=>G U
|_=>False):=rfl
theorem zqh(g:DG)(gs:DGs)(ds:List D)(U:DSt)(G:DSt->Prop):zb5 g gs ds U G=( match ds with
|d :: r=>g d U λU'=>gs r U' G
|[]=>False):=rfl
theorem e_gT(n:Nat)(gs:DGs)(d:D)(U:DSt)(G:DSt->Prop):gT n gs d U G=( match d with
|.tuple ds=>ds.length=n/\gs ds U G
|_=>False):=rfl
theorem zjo(p:DSt)(Q:Bool->Prop):zki p Q=( Q true):=rfl
theorem zw21(C:aE)(f:Str)(q:DP)(U:DSt)(Q:Nat->Pth->T->Prop):pFld C f q U Q=( q U λi p u=>nCls C u/\nFld f u λt=>Q i (p++[.fl f]) t):=rfl
theorem zyb1(q:DP)(di:DE)(U:DSt)(Q:Nat->Pth->T->Prop):pIx q di U Q=( q U λi p u=>di U λk=>nIx u k λj t=>Q i (p++[.ix j]) t):=rfl
theorem zgf1(p:DP)(U:DSt)(Q:D->Prop):dPV p U Q=( p U λ_ _ u=>vwT u Q):=rfl
theorem zgc1(p:DP)(U:DSt)(Q:D->Prop):dPE p U Q=( p U λ_ _ u=>fzT u Q):=rfl
theorem e_cE(de:DE)(U:DSt)(Q:T->DSt->Prop):cE de U Q=( de U λd=>Q (.fz d) U):=rfl
theorem e_cF(df:DF)(U:DSt)(Q:T->DSt->Prop):cF df U Q=( df U λds=>Q (.li ds) U):=rfl
theorem zqo(E:DEnds)(U:DSt):zfe E U=( E.nx U):=rfl
theorem zf21(de:DE)(dg:DG)(E:DEnds)(U:DSt):dAsg de dg E U=( de U λd=>dg d U E.nx):=rfl
theorem zy01(i:Nat)(p:DC)(E:DEnds)(U:DSt):dSet i p E U=( p U λr U'=>E.nx (U'.set i (slot r))):=rfl
theorem zas(p:DC)(E:DEnds)(U:DSt):zxl p E U=( p U λ_ U'=>E.nx U'):=rfl
theorem zh21(p:DC)(E:DEnds)(U:DSt):dRet p E U=( p U E.rt):=rfl
theorem zmo(i:Nat)(E:DEnds)(U:DSt):zwt i E U=( match U[i]? with
|some (.ow t)=>E.rt t (U.set i .un)
|some (.sh d)=>E.rt (.fz d) U
|_=>False):=rfl
theorem zif1(dt:DT)(d e:DS)(E:DEnds)(U:DSt):dIf dt d e E U=( dt U λb=>if b=true then d E U else e E U):=rfl
theorem zvc1(ty:String)(f:FM)(q:DP)(z:DF)(U:DSt)(Q:T->DSt->Prop):cBM ty f q z U Q=( q U λi p u=>tyN ty u/\z U λds=>f u ds λu2 d=>mutS U i p u2 λU'=>Q (.fz d) U'):=rfl
theorem zq41(ty:String)(f:FM)(q:DP)(U:DSt)(Q:T->DSt->Prop):cBM0 ty f q U Q=( q U λi p u=>tyN ty u/\f u [] λu2 d=>mutS U i p u2 λU'=>Q (.fz d) U'):=rfl
theorem zi11(q:DP)(dk de:DE)(E:DEnds)(U:DSt):dPut q dk de E U=( de U λd=>q U λi p u=>dk U λk=>fPut u k d λu2=>mutS U i p u2 E.nx):=rfl
theorem zrr(f:Int->Int->Int)(q:DP)(dk de:DE)(E:DEnds)(U:DSt):zg21 f q dk de E U=( q U λi p u=>dk U λk=>fGet u k λx=>de U λy=>fII f x y λz=>fPut u k z λu2=>mutS U i p u2 E.nx):=rfl
theorem zt31(i:Nat)(f:Int->Int->Int)(de:DE)(E:DEnds)(U:DSt):dAug i f de E U=( match U[i]? with
|some (.sh x)=>de U λy=>fII f x y λz=>E.nx (U.set i (.sh z))
|_=>False):=rfl
theorem za21(p:DP)(dk:DE)(U:DSt)(Q:D->Prop):nGet p dk U Q=( p U λ_ _ u=>dk U λk=>fGet u k Q):=rfl
theorem zte1(neg:Bool)(dk:DE)(p:DP)(U:DSt)(Q:D->Prop):nIn neg dk p U Q=( dk U λk=>p U λ_ _ u=>fHas neg u k Q):=rfl
theorem e_nF(df:DF)(U:DSt)(Q:T->Prop):nF df U Q=( df U λds=>Q (.li ds)):=rfl
theorem e_cN(p:DN)(U:DSt)(Q:T->DSt->Prop):cN p U Q=( p U λr=>Q r U):=rfl
theorem zzz(C:aE)(f:Str)(z:DC)(q:DP)(E:DEnds)(U:DSt):dFld C f z q E U=( z U λr B=>q B λi p u=>nCls C u/\nSet f u r λu2=>mutS B i p u2 E.nx):=rfl
theorem zg01(i:Nat)(p:Pth)(d:DS)(E:DEnds)(U:DSt):dFrz i p d E U=( fzS U i p λU'=>d E U'):=rfl
theorem zbz(p:DSt)(Q:List ArgP->Prop):aNil p Q=( Q []):=rfl
theorem e_aD(de:DE)(p:DAT)(U:DSt)(Q:List ArgP->Prop):aD de p U Q=( de U λx=>p U λas=>Q (.d x :: as)):=rfl
theorem e_aB(u:DP)(q:DAT)(U:DSt)(Q:List ArgP->Prop):aB u q U Q=( u U λi p t=>q U λas=>Q (.b i p t :: as)):=rfl
theorem e_aO(u:DP)(q:DAT)(U:DSt)(Q:List ArgP->Prop):aO u q U Q=( u U λi p t=>q U λas=>Q (.o i p t :: as)):=rfl
theorem zqp(o:Bool)(C:aE)(m:Str)(p:DSpT)(z:DP)(B:DAT)(U:DSt)(Q:T->DSt->Prop):zgb1 o C m p z B U Q=( z U λi q u=>nCls C u/\noM m u/\B U λas=>zs91 p U ((if o then .o i q u else .b i q u) :: as) Q):=rfl
theorem zmp(p:DSpT)(q:DAT)(U:DSt)(Q:T->Prop):zic1 p q U Q=( q U λas=>zp51 p as Q):=rfl
theorem zvp(C:aE)(m:Str)(p:DSpT)(z:DP)(B:DAT)(U:DSt)(Q:T->Prop):zah1 C m p z B U Q=( z U λi q u=>nCls C u/\noM m u/\B U λas=>zp51 p (.b i q u :: as) Q):=rfl
theorem e_eN(p:DN)(U:DSt)(Q:D->Prop):eN p U Q=( p U λr=>fzT r Q):=rfl
theorem zgo(C:aE)(p:DSpT)(q:DAT)(U:DSt)(Q:T->Prop):zh81 C p q U Q=( q U λas=>noO as/\p (.o (.ob C []) :: as.map ArgP.arg) λr u=>(match r with|.fz .none=>True|_=>False)/\Q u):=rfl
theorem zr11(i:Nat)(U:DSt)(Q:D->Prop):dVar i U Q=pAt U i λt=>fzT t Q:=rfl
theorem zfs(i:Nat)(U:DSt)(Q:D->Prop):zx0 i U Q=pAt U i λt=>vwT t Q:=rfl
theorem zqy(i:Nat)(U:DSt)(Q:Nat->Pth->T->Prop):pVar i U Q=pAt U i λt=>Q i [] t:=rfl
theorem zm11(s:Sl)(U:DSt)(N:T->Prop):pAt (s :: U) 0 N=slT s N:=rfl
theorem zb51(i:Nat)(s:Sl)(U:DSt)(N:T->Prop):pAt (s :: U) (i+1) N=pAt U i N:=rfl
theorem zb01(U:DSt)(i:Nat)(p:Pth)(u:T)(N:DSt->Prop):mutS U i p u N=(match U[i]? with
|some (.ow t)=>N (U.set i (.ow (setP t p u)))
|some (.io a t)=>N (U.set i (.io a (setP t p u)))
|_=>False):=rfl
theorem zuc1(U:DSt)(i:Nat)(p:Pth)(N:DSt->Prop):fzS U i p N=(match U[i]? with
|some (.ow t)=>∃u d,getP t p=some u/\toD u=some d/\N (U.set i (slot (setP t p (.fz d))))
|some (.sh _)=>N U
|_=>False):=rfl
theorem zfr(U:DSt)(i:Nat):zt51 U i=(match U[i]? with
|some (.ow _)=>True
|some (.io _ _)=>True
|_=>False):=rfl
theorem zvw(t u:T):setP t [] u=u:=by cases t <;> rfl
theorem zi81(ds:List D):tyN "list" (.li ds)=True:=by simp[tyN]
theorem zfa1(ds:List T):tyN "list" (.ls ds)=True:=by simp[tyN]
theorem zx81(ds:List (Key×D)):tyN "dict" (.dk ds)=True:=by simp[tyN]
theorem zb81(ds:List (List Key×D)):tyN "dict" (.dt ds)=True:=by simp[tyN]
theorem zve1(Qd:D->Prop)(d:D)(U:DSt):rD Qd (.fz d) U=Qd d:=rfl
theorem zcf1(Qd:D->Prop)(d:List D)(U:DSt):rD Qd (.li d) U=Qd (.list d):=rfl
theorem zjf1(Qd:D->Prop)(d:List T)(U:DSt):rD Qd (.ls d) U=∃e,toD (.ls d)=some e/\Qd e:=rfl
theorem zdo(p:DSpT)(U:DSt)(as:List ArgP)(Q:T->DSt->Prop):zs91 p U as Q=(match zst as with
|some (i,q,t)=>zt51 U i/\oneO i as/\zqx t/\p (as.map ArgP.arg) λr u=>mutS U i q u λU'=>Q r U'
|none=>noO as/\p (as.map ArgP.arg) λr _=>Q r U):=rfl
theorem zgq(p:DSpT)(as:List ArgP)(Q:T->Prop):zp51 p as Q=(noO as/\p (as.map ArgP.arg) λr _=>Q r):=rfl
def zv81(items:List D)(n:Nat)(ix:List Nat)(dg:DG)(p:DN)(U:DSt)(Q:T->Prop):Prop:=items.length<=sizeLine/\∃R:Nat->T->Prop,
 (∀i d,items[i]?=some d->dg d (cST n ix U) λU'=>p U' λr=>R i r)/\∀rs:List T,rs.length=items.length->(∀(j:Nat) r,rs[j]?=some r->R j r)->Q (.ls rs)
theorem zen(di:DF)(n:Nat)(ix:List Nat)(dg:DG)(p:DN)(U:DSt)(Q:T->Prop):zqg1 di n ix dg p U Q=di U λitems=>zv81 items n ix dg p U Q:=rfl
theorem zd61{α:Type}{xs:List α}{enc:α->D}(f:α->T){u:DN}{Q:T->Prop}(hz:xs.length<=sizeLine)
  (h:∀x∈xs,dg (enc x) (cST n ix U) λU'=>u U' λr=>r=f x) (q:Q (.ls (xs.map f))):zv81 (xs.map enc) n ix dg u U Q:=by
 refine⟨by rw[u5];exact hz,λi r=>∀x,xs[i]?=some x->r=f x,λi d e=>?_,λrs hl G=>?_⟩
 ·rw[u8]at e;obtain⟨x,z,rfl⟩:=xA.mp e;have p:(λr=>∀y,xs[i]?=some y->r=f y)=λr=>r=f x:=by funext r;rw[z];simp
  show dg (enc x) (cST n ix U) λU'=>u U' λr=>∀y,xs[i]?=some y->r=f y;rw[p];exact h x (wJ z)
 ·rw[u5]at hl;have:rs=xs.map f:=by
   apply yE;intro i;rw[u8];by_cases hi:i < rs.length
   ·have p:rs[i]?=some rs[i]:=u4 hi;have B:xs[i]?=some (xs[i]'(by lia)):=u4 _;rw[p,B,G i _ p _ B];rfl
   ·rw[wG (by lia),wG (by lia)];rfl
  rw[this];exact q
def zsb1(items:List D)(n:Nat)(ix:List Nat)(dg:DG)(dt:DT)(de:DE)(U:DSt)(Q:List D->Prop):Prop:=items.length<=sizeLine/\∃R:Nat->Option D->Prop,
 (∀i d,items[i]?=some d->dg d (cST n ix U) λU'=>dt U' λb=>if b=true then de U' λr=>R i (some r)else R i none) /\
 ∀os:List (Option D),os.length=items.length->(∀(j:Nat) o,os[j]?=some o->R j o)->Q (os.filterMap id)
theorem zd11(di:DF)(n:Nat)(ix:List Nat)(dg:DG)(dt:DT)(de:DE)(U:DSt)(Q:List D->Prop):zxf di n ix dg dt de U Q=di U λitems=>zsb1 items n ix dg dt de U Q:=rfl
def ForB(items:List D)(dg:DG)(p:DS)(E:DEnds)(U:DSt):Prop:=∃W:Nat->DSt->Prop,W 0 U /\
 (∀i d U',items[i]?=some d->W i U'->dg d U' λq=>p { E with nx:=W (i+1),ct:=W (i+1),bk:=E.nx } q)/\∀U',W items.length U'->E.nx U'
theorem zyd1(di:DF)(dg:DG)(p:DS)(E:DEnds)(U:DSt):dFor di dg p E U=di U λitems=>ForB items dg p E U:=rfl
theorem zdu{b:DS}{U:DSt}(h:a { E with nx:=b E } U):dSeq a b E U:=⟨b E,h,λ_ z=>z⟩
theorem zef{b:DS}{U:DSt}(J:DSt->Prop)(h:a { E with nx:=J } U)(p:∀U',J U'->b E U'):dSeq a b E U:=⟨J,h,p⟩
theorem zf0{U:DSt}(h:∀J:DSt->Prop,(∀U',b E U'->J U')->a { E with nx:=J } U):dSeq a b E U:=⟨b E,h (b E) λ_ z=>z,λ_ z=>z⟩
theorem znh1{α:Type}{f:α->Option D}:∀{xs:List α}{os:List (Option D)},os.length=xs.length->(∀(j:Nat) o x,os[j]?=some o->xs[j]?=some x->o=f x)->os.filterMap id=xs.filterMap f
|[],[],_,_=>rfl
|x :: xs,o :: os,hl,h=>by
  have e:o=f x:=h 0 o x rfl rfl;have u:=znh1 (f:=f) (xs:=xs) (os:=os) (by simpa using hl) λj q p B z=>h (j+1) q p (by simpa using B) (by simpa using z);rw[xK,xK,e,u];rfl
theorem zoy{α:Type}{xs:List α}{enc:α->D}(f:α->Option D){dt:DT}{Q:List D->Prop}(hz:xs.length<=sizeLine)
  (h:∀x∈xs,dg (enc x) (cST n ix U) λU'=>dt U' λb=>if b=true then de U' λr=>some r=f x else none=f x) (q:Q (xs.filterMap f)):zsb1 (xs.map enc) n ix dg dt de U Q:=by
 refine⟨by rw[u5];exact hz,λi o=>∀x,xs[i]?=some x->o=f x,λi d e=>?_,λos hl u=>?_⟩
 ·rw[u8]at e;obtain⟨x,p,rfl⟩:=xA.mp e;have:=h x (wJ p);have I:(λr=>∀y,xs[i]?=some y->some r=f y)=λr=>some r=f x:=by
   funext r;rw[p];simp
  have G:(∀y,xs[i]?=some y->(none:Option D)=f y)=(none=f x):=by rw[p];simp
  show dg (enc x) (cST n ix U) λU'=>dt U' λb=>if b=true then de U' λr=>∀y,xs[i]?=some y->some r=f y else ∀y,xs[i]?=some y->(none:Option D)=f y
  rw[I,G];exact this
 ·rw[u5]at hl;rw[znh1 hl λj o x B z=>u j o B x z];exact q
theorem zof{α:Type}{xs:List α}{enc:α->D}(g:α->D){Q:List D->Prop}(hz:xs.length<=sizeLine)
  (h:∀x∈xs,dg (enc x) (cST n ix U) λU'=>de U' λr=>r=g x) (q:Q (xs.map g)):zsb1 (xs.map enc) n ix dg zki de U Q:=by
 refine zoy (λx=>some (g x)) hz (λx p=>?_) ?_
 ·have:=h x p;have e:(λr=>some r=some (g x))=λr=>r=g x:=by funext r;simp
  show dg (enc x) (cST n ix U) λU'=>if true=true then de U' λr=>some r=some (g x)else none=some (g x)
  rw[e];simp only[if_true];exact this
 ·rw[show xs.filterMap (λx=>some (g x))=xs.map g from congrFun List.filterMap_eq_map' xs];exact q
theorem zj2{α:Type}{xs:List α}{enc:α->D}(W:Nat->DSt->Prop){p:DS}(B:W 0 U)
  (u:∀(i:Nat) x U',xs[i]?=some x->W i U'->dg (enc x) U' λG=>p { E with nx:=W (i+1),ct:=W (i+1),bk:=E.nx } G) (z:∀U',W xs.length U'->E.nx U'):ForB (xs.map enc) dg p E U:=by
 refine⟨W,B,λi d U' e w=>?_,λU' w=>z U' (by rw[u5]at w;exact w)⟩;rw[u8]at e;obtain⟨x,q,rfl⟩:=xA.mp e;exact u i x U' q w
theorem two{c:Prop}[Decidable c]{A B:Prop}(q:c->A)(p:¬c->B):if c then A else B:=by
 by_cases h:c
 ·rw[aH h];exact q h
 ·rw[aF h];exact p h
def cutG{α:Type}(xs:List α)(lo hi:Option Int):List α:=(xs.drop (HT.sIx xs.length 0 lo)).take (HT.sIx xs.length xs.length hi - HT.sIx xs.length 0 lo)
theorem zlj{α:Type}(f:α->D)(xs:List α)(lo hi:Option Int):cutD (xs.map f) lo hi=(cutG xs lo hi).map f:=by
 unfold cutD cutG;rw[u5,uaL,List.map_drop]
theorem zlp{α β:Type}(f:α->D)(g:β->D)(xs:List α)(ys:List β):zipD (xs.map f) (ys.map g)=(xs.zip ys).map λp=>.tuple [f p.1,g p.2]:=by
 unfold zipD;rw[List.zipWith_map,List.zip_eq_zipWith,List.map_zipWith]
theorem zv5{α:Type}(f:α->D)(xs:List α):ziu (xs.map f)=(xs.mapIdx λi x=>(i,x)).map λp=>.tuple [.int (p.1:Nat),f p.2]:=by
 unfold ziu;apply yE;intro i;rw[xS,u8,u8,xS];cases xs[i]? <;> rfl
theorem zxc{α:Type}{xs:List α}{i:Int}{x:α}(p:0<=i)(h:xs[i.toNat]?=some x):atI xs i=some x:=by
 have e:((i.toNat:Nat):Int)=i:=by lia
 have:=zcy (xs:=xs) (j:=i.toNat) (v:=x) h
 rwa [e]at this
section
variable (K:Fg)
def RfH(p:TE)(de:DE):Prop:=∀{F H:Hp}{Y:_2.St}{U:DSt}{Qd:D->Prop}{Q:VK},Same F H->RV K F H Y U->de U Qd->(∀d,Qd d->∀v q H',Ext F H q H'->Is K H' v d->Q v H')->p Y H Q
end
section
variable {K:Fg}{te ta tb:TE}{de da db:DE}{tA:TA}{dA:DF}
theorem RfV.h(h:RfV K te de):RfH K te de:=λs r d k=>h s r d λx q v p H' e i=>k x q v p H' e (i.is e.fh)
def R2H(K:Fg)(r:R2)(f:D->D->(D->Prop)->Prop):Prop:=∀{F H:Hp}{x y:V}{d e:D}{Qd:D->Prop}{Q:VK},Same F H->Is K H x d->Is K H y e->f d e Qd->(∀z,Qd z->∀v p H',Ext F H p H'->Is K p v z->Q v H')->r x y H Q
theorem zq2{r:R2}{f:D->D->(D->Prop)->Prop}(hr:R2H K r f)(O:RfH K ta da)(M:RfH K tb db):RfE K (tOp r ta tb) (dOp f da db):=by
 walk_at"0";refine O s rv h λx L v F1 H1 q I=>M q.fh (rv.ext q) L λy J u F2 H2 p G=>?_;exact hr p.fh (I.mono p.h) G J λz hz w Z W S B=>k z hz w Z W ((q.trans p).trans S) B
theorem q_eq:R2H K (rEqU K) fEq:=by
 walk_at"6";unfold fEq at h;split at h
 ·cases q.int_inv;cases p.int_inv;refine .inl ⟨rfl,k _ h _ F H (Ext.refl s) ?_⟩;rw[zpg];exact .bl _
 ·cases q.str_inv;cases p.str_inv;refine .inl ⟨rfl,k _ h _ F H (Ext.refl s) ?_⟩;rw[zbh];exact .bl _
 ·cases q.bl_inv;cases p.bl_inv;refine .inl ⟨rfl,k _ h _ F H (Ext.refl s) ?_⟩;rw[zmt];exact .bl _
 ·exact .inr ⟨_,_,q,p,h.1,h.2.1,k _ h.2.2 _ F H (Ext.refl s) (.bl _)⟩
theorem q_ne:R2H K (rNeU K) fNe:=by
 walk_at"6";unfold fNe at h;split at h
 ·cases q.int_inv;cases p.int_inv;refine .inl ⟨rfl,k _ h _ F H (Ext.refl s) ?_⟩;rw[zpg];exact .bl _
 ·cases q.str_inv;cases p.str_inv;refine .inl ⟨rfl,k _ h _ F H (Ext.refl s) ?_⟩;rw[zbh];exact .bl _
 ·cases q.bl_inv;cases p.bl_inv;refine .inl ⟨rfl,k _ h _ F H (Ext.refl s) ?_⟩;rw[zmt];exact .bl _
 ·exact .inr ⟨_,_,q,p,h.1,h.2.1,k _ h.2.2 _ F H (Ext.refl s) (.bl _)⟩
end
theorem zty(i:Int):isT "int" (.int i)=true:=rfl
theorem zu71(i:Int):isT "bool" (.int i)=false:=by simp[isT,tyD]
theorem zq01(i:List D):isT "list" (.list i)=true:=rfl
theorem zm41(i:List D):isT "tuple" (.tuple i)=true:=rfl
theorem zn21(i:Str):isT "str" (.str i)=true:=rfl
theorem zz81(i:Int):(∀kvs,u6 i≠.dict kvs)=True:=by simp
theorem zzw(i:List D):(∀kvs,wB i≠.dict kvs)=True:=by simp
theorem zf91(i:List D):(∀kvs,xF i≠.dict kvs)=True:=by simp
theorem zza1(i:Str):(∀kvs,wQ i≠.dict kvs)=True:=by simp
theorem zvg1(i:Bool):(∀kvs,wM i≠.dict kvs)=True:=by simp
theorem zb61:(∀kvs,y8≠.dict kvs)=True:=by simp
theorem eqv_refl{d:D}(h:Fit n d):y6 d d=true:=h.eqv
theorem zs61{α:Type}{xs:List α}{f:α->D}(h:∀x∈xs,Fit n (f x)):Fit (n+1) (.list (xs.map f)):=Fit.lst λd hd=>by
 obtain⟨x,p,rfl⟩:=vV.mp hd;exact h x p
end _4
namespace _3
open PySem PySem.Spec PyProof.Rows _2
section
variable {X:Cx}
theorem zbv{C:aE}{m:Str}{k:Nat}{ps:List Str}{sp:Sp}{o:aX}{q:TE}{p pos:Pos}{pl:Sem Bool}(d:MethD X.prog X.w X.K X.mg X.base C m k ps sp)(hr:Room k X.A)(B:PE X o q)
  (z:bA (.Call (.Attribute o m p) [] [] pos) X.env=(do
   let u <- bA o X.env
   eS p.atName
   let (f,first) <- dJ [u] (eW u m pl)
   iI pos f first (b9 pos (aS [] X.env)) (d6 pos (dG [] X.env))):=by rfl) :
  PE X (.Call (.Attribute o m p) [] [] pos) (zn51 C m sp [] E0 q tNil):=by
 obtain⟨f,G,c,M,F,b⟩:=d;exact zu01 B c M F hr b .nil zm51 z
def zmg1(K:Fg)(le:Int->Int->Prop):List V->Hp->VK->Prop:=λvs H Q=>∃(a:aE)(ns:List Int),vs=[.ref a]/\SqL K H a (ns.map V.int)/\ns≠[]/\∀M∈ns,(∀x∈ns,le M x)->Q (.int M) H
theorem zqw{K:Fg}(h:X.K=K)(hc:X.calm=true):CallR X (.builtin "min") (zmg1 K λM x=>M<=x):=by
 subst h;walk_at"3";obtain⟨a,ns,rfl,S,J,q⟩:=h;obtain⟨u,rfl,O⟩:=zwl r;cases O;obtain⟨its,rv,p,hz⟩:=I.list S;have hi:dL its ns:=zx6 rv;obtain⟨ys,L⟩:=hi.allInts.items;have hl:s.heap.IsList a (fS ys):=L ▸ p.isList;have G:ns=ys.toList.map (·.1):=by
  rw[<- iQ,<- L];exact(show numsOf its.toArray.toList=ns from hi.numsOf).symm
 have hsz:0 < ys.size:=by
  rcases uaM ys.size with z|z
  ·exact aL (by rw[G];exact ua2.mpr (zP (by simpa using z))) J
  ·exact z
 refine min_intList (I.ok.hd hc) hl hsz λv h' tk W Z=>?_;obtain⟨t,rfl⟩:=lO W;obtain⟨h1,h2⟩:=argBest_lt (l4 ys) (ys.size - 1);refine⟨.int _,H,I.kept Z,⟨_,rfl⟩,q _ ?_ λx B=>?_⟩
 ·rw[lP,G];exact getD_mem (by rw[u5,wY];lia)
 ·rw[G]at B;obtain⟨j,hj,rfl⟩:=mem_getD B;rw[u5,wY]at hj;rw[<- lP];exact h2 j (by lia)
end
end _3
namespace _4
open PySem PySem.Spec PyProof.Rows _2 _3
section
variable {K:Fg}{te ta ti tv tk tb:TE}{de da di dk db:DE}{dc:DC}{tA:TA}{dA:DF}
abbrev fXor:=fI0 λi j=>.int (fU i j)
theorem zjh1:R2E K (rI0 λi j=>V.int (fU i j)) fXor:=r_I0 λ_ _ _=>.int _
theorem zfy(x:Int):fU x 1=x+1 - 2 * (x % 2):=by
 rw[nQ,nS]
def zlb1:List D->(D->Prop)->Prop
|[.list ds],Q=>∃ns,zpd ds=some ns/\ns≠[]/\∀M∈ns,(∀x∈ns,M<=x)->Q (.int M)
|_,_=>False
theorem zzb1:CB K (zmg1 K λM x=>M<=x) zlb1:=by
 intro F H vs ds Qd Q s G h k;unfold zlb1 at h;split at h
 ·obtain⟨v,rfl,hw⟩:=vw1 G;obtain⟨p,xs,rfl,J,z⟩:=hw.list s;obtain⟨ns,e,u,q⟩:=h;have:=zic z e;subst this;exact⟨p,ns,rfl,J,u,λM I B=>k _ (q M I B) _ F H (Ext.refl s) (.int _)⟩
 ·exact h.elim
def cDK1(dk de:DE):DC:=λU Q=>dk U λk=>de U λv=>∃key,keyD k=some key/\Q (.dk [(key,v)]) U
theorem zx31(dk de:DE)(U:DSt)(Q:T->DSt->Prop):cDK1 dk de U Q=(dk U λk=>de U λv=>∃key,keyD k=some key/\Q (.dk [(key,v)]) U):=rfl
theorem zmd1(hk:RfE K tk dk)(he:RfE K tv de):RfC K (zai1 [(tk,tv)]) (cDK1 dk de):=by
 intro B F H Y U fps Qd Q r hd k p u;have S:=r.grow (zwk (o:=.dK []) r.fh u);have fp:F p=none:=by
  cases e:F p with
 |none=>rfl
 |some o=>rw[r.fh p o e]at u;cases u
 show tk Y _ _;refine hk S.fh S.rv hd λkd hkd kv F1 H1 W i1=>he W.fh (S.grow W).rv hkd λv hv L F2 H2 e2 i2=>?_;obtain⟨key,ek,q⟩:=hv;have:=zkm i1 ek;subst this;have G:=W.trans e2;have Z:H2 p=some (.dK []):=G.h _ _ zq0;have J:F2 p=none:=G.nw p (by rw[zq0];simp) fp;refine⟨Z,[(key,L)],rfl,by simp,?_⟩;have ex:Ext F H F2 (upd H2 p (.dK (zvj [] [(key,L)]))):=by
  have O:=(zwk (o:=.dK []) r.fh u).trans G;refine⟨λb o z=>?_,O.f,λb o z=>?_,O.nw⟩
  ·have:b≠p:=λy=>by subst y;rw[u]at z;cases z
   rw[zd1 this];exact O.h b o z
  ·have:b≠p:=λy=>by subst y;rw[J]at z;cases z
   rw[zd1 this];exact O.fh b o z
 have hm:zvj [] [(key,L)]=[(key,L)]:=rfl;rw[hm]at ex ⊢;refine k _ _ q (.ref p) F2 _ fps [p] ⟨r.grow ex,.dk zq0 J (.cons i2 .nil),by simp,λb M=>?_,λj s ej hs b M I=>?_⟩
 ·simp at M;subst M;exact(r.newOk u).1
 ·simp at I;subst I;exact(r.newOk u).2 j s ej hs M
def zhe1(de:DE)(f:D->D->(D->Prop)->Prop)(dc:DC)(db:DE):DC:=λU Q=>de U λx=>dc U λr p=>fzT r λy=>db p λz=>f y z λw=>fIx x w λd=>Q (.fz d) p
theorem zkp(de:DE)(f:D->D->(D->Prop)->Prop)(dc:DC)(db:DE)(U:DSt)(Q:T->DSt->Prop):zhe1 de f dc db U Q=(de U λx=>dc U λr p=>fzT r λy=>db p λz=>f y z λw=>fIx x w λd=>Q (.fz d) p):=rfl
theorem zla1{w:aP}{r:R2}{f:D->D->(D->Prop)->Prop}(he:RfE K te de)(hr:R2E K r f)(hc:RfC K ta dc)(hb:RfE K tb db):RfC K (tOp (rIxV w K) te (tOp r ta tb)) (zhe1 de f dc db):=by
 walk_at"17";refine he rs.fh rs.rv hd λx hx xv J H1 e1 i1=>?_;have u:=rs.grow e1
 -- what is frozen stays: the base remembers J
 have M:=u.ff;have W:=u.nw;refine hc (u.rem M (λ_ _ z=>z)) hx λt U1 ht yv F2 H2 q fpr res=>?_;obtain⟨y,hy,Z⟩:=zo71 res.rt ht;refine hb res.rs.fh res.rs.rv hy λz hz zv F3 H3 I i3=>?_;refine hr I.fh (.inl (Z.mono I.f)) (.inl i3) hz λwd hw wv F4 H4 O i4=>?_;have p:=I.trans O;have S:Same J F4:=(show Same J F2 from res.rs.ff).trans p.f;refine r_ix (w:=w) O.fh (.inl (i1.mono S)) (.inl i4) hw λd L v F5 H5 e5 i5=>?_;refine k _ _ L v F5 H5 q [] ⟨((res.rs.grow (p.trans e5)).unrem M W),.fz i5,.nil,λa G=>by simp at G,λ_ _ _ _ a _ G=>by simp at G⟩
end
end _4
namespace _3
open PySem PySem.Spec PyProof.Rows _2
section
variable {X:Cx}
def zjy(K:Fg):List V->Hp->VK->Prop:=λvs H Q=>∃(a:aE)(ns:List Int),vs=[.ref a]/\(SqL K H a (ns.map V.int) \/ ∃kvs:List (Key×V),H a=some (.dK kvs)/\kvs.map (·.1)=ns.map w6)/\ns.length < 64 /\
 ∀p:List Int,p.Perm ns->p.Pairwise (·<=·)->∀l,H l=none->Q (.ref l) (upd H l (.lst (p.map V.int)))
theorem zte{P:aN}{w:aP}{i:Int}{v:aA}(h:(zr2 P w).is (.inl i) v=true):∃t,v=.int i t:=by
 have h:yO i v=true:=h;cases v <;> first
 |(simp[yO]at h;subst h;exact⟨_,rfl⟩)
 |(simp[yO]at h)
theorem zcc:∀{vs:List aA}{ns:List Int},vs.length=ns.length->(∀(j:Nat) v i,vs[j]?=some v->ns[j]?=some i->∃t,v=.int i t)->dL vs ns
|[],[],_,_=>.nil
|[],_ :: _,h,_=>by simp at h
|_ :: _,[],h,_=>by simp at h
|v :: vs,i :: ns,h,q=>by
  obtain⟨t,rfl⟩:=q 0 v i rfl rfl;exact .cons i t (zcc (by simpa using h) λj v i a b=>q (j+1) v i (by simpa using a) (by simpa using b))
theorem zxh{K:Fg}(h:X.K=K)(hc:X.calm=true):CallR X (.builtin "sorted") (zjy K):=by
 subst h;walk_at"3";obtain⟨a,ns,rfl,M,hz,q⟩:=h;obtain⟨u,rfl,r1⟩:=zwl r;cases r1;rcases M with M|⟨kvs,M,hk⟩
 ·obtain⟨its,rv,p,hz'⟩:=I.list M;have hi:dL its ns:=zx6 rv;refine sorted_ints p.isList hi (by rw[rv.length.symm,u5];exact hz) λout B a1 O a3=>?_;obtain⟨e,he⟩:=sortedAll_at s.heap its out;refine⟨.ref _,upd H (s.heap.objs.size+1) (.lst (B.map V.int)),I.laid (a:=s.heap.objs.size+1) (t':=s.toks) (λb o=>sortedAll_old) (yQ _) ?_,rfl,q B O a3 _ (I.hok.fresh (yQ _))⟩;refine⟨by rw[u5,O.length_eq,aQ];lia,out.toList,e,zh9 a1,?_⟩
  simpa[l5]using he
 ·obtain⟨z,hd,J,r0,dd⟩:=zcb1 I.hok M;obtain⟨ep,hat⟩:=dd.dictAt;have Z:J.length=ns.length:=by
   have h1:=r0.length;have h2:=congrArg zI hk;rw[u5,u5]at h2;lia
  refine Calls.call_function_entry kind_sorted plain_sorted entry_sorted (args_sorted1 _) ?_;unfold Builtin.«sorted»;refine aC (m:=checkCount "sorted" 1 1 _) (aI ?_);refine aC (iV (A:=X.A.in1) (PySem.W.kdl_dict (knd:=zr2 X.prog X.w) (kvs:=J) (ep:=ep) hd) (I.ok.hd hc) hat (by rw[aQ];lia) λh' tk acc hk' G=>?_);have hl:acc.toList.length=J.length:=by rw[wY];exact G.1
  have hI:dL acc.toList ns:=zcc (by rw[hl,Z]) λj v i e1 e2=>by
   obtain⟨k,x,e3,e4⟩:=G.2 j v (by rw[<- yJ];exact e1);have:k=.inl i:=by
    have e5:(kvs.map (·.1))[j]?=some k:=by
     have kk:∀{l:List (Key×V)}{m:List (Key×aA)}{j:Nat}{k x},KV l m->m[j]?=some (k,x)->(l.map (·.1))[j]?=some k:=by
      intro l m j k x r;unfold KV at r
      induction r generalizing j with
     |nil=>intro e;simp at e
     |cons h t ih =>
       intro e;cases j with
      |zero=>simp at e;simp[h.1,e]
      |succ j=>simp at e ⊢;simpa using ih e
     exact kk r0 e3
    rw[hk,u8,e2]at e5
    simpa using e5.symm
   subst this;exact zte e4
  refine aC (wpAny_newList ?_ (by rw[hl,aQ];lia));have L:(h'.push { cls:=.type "list",data:=.seq acc.toList.toArray }).get? h'.objs.size=some (l5 "list" acc.toList.toArray 0):=v7 _ rfl;refine aC (bL (bT mU ⟨_,L,rfl⟩ mL (mW L hI (by rw[hl];lia) λout B a1 O a3=>⟨_,rfl,?_⟩) (m3 _)));refine aI ⟨_,rfl,?_⟩;obtain⟨e,he⟩:=sortedHeap_at (out:=out) L;have I2:=I.kept (t':=tk) hk';refine⟨.ref _,upd H h'.objs.size (.lst (B.map V.int)),I2.laid (a:=h'.objs.size) (t':=tk) (λb o ho=>?_) (u7 _) ?_,rfl,q B O a3 _ (I2.hok.fresh (u7 _))⟩
  ·have S:=vZ ho;rw[mT (wF S) (by rw[size_push'];exact yW S)];exact vU _ ho
  ·refine⟨by rw[u5,O.length_eq,aQ];lia,out.toList,e,zh9 a1,?_⟩
   simpa[l5]using he
end
end _3
namespace _4
open PySem PySem.Spec PyProof.Rows _2 _3
section
variable {K:Fg}{te ta ti tv tk tb:TE}{de da di dk db:DE}{dc:DC}{dp:DP}{tA:TA}{dA:DF}
theorem zrs{F:Hp}:∀(ns:List Int),IsAll K F (ns.map V.int) (ns.map u6)
|[]=>.nil
|n :: r=>.cons (.int n) (zrs r)
theorem KvIs.keys{F:Hp}:∀{kvs:List (Key×V)}{ds:List (Key×D)},KvIs K F kvs ds->kvs.map (·.1)=ds.map (·.1):=by
 intro kvs ds h
 induction h with
|nil=>rfl
|cons a r p=>simp_all
def zw01(u:T)(Q:List D->Prop):Prop:=match u with
|.dk kvs=>∃ns:List Int,kvs.map (·.1)=ns.map w6/\ns.length < 64/\∀p:List Int,p.Perm ns->p.Pairwise (·<=·)->Q (p.map .int)
|_=>False
def zqa1(dp:DP):DF:=λU Q=>dp U λ_ _ u=>zw01 u Q
theorem zy31(O:RfP K ta dp):RfF K (tCB (zjy K) (zdm ta tNil)) (zqa1 dp):=by
 walk_at"0";refine O s rv h λi p u B v F2 H2 I J=>?_;obtain⟨fn,hr⟩:=J.rt (rv.ext I);cases hr with
|dk Z h2 W =>
  obtain⟨ns,ek,hz,q⟩:=B;refine⟨_,ns,rfl,.inr ⟨_,Z,by rw[<- ek];exact W.keys⟩,hz,λG M L l hl=>?_⟩;obtain⟨ex,fn⟩:=zx7 (xs:=G.map V.int) I.fh hl;have S:H l=none:=by
   cases z:H l with
  |none=>rfl
  |some o=>rw[I.h l o z]at hl;cases hl
  exact k _ (q G M L) l _ F2 _ (I.trans ex) S zq0 fn (zrs G)
|fz _=>exact B.elim
|li _ _ _=>exact B.elim
|ls _ _ _=>exact B.elim
|ob _ _ _ _ _=>exact B.elim
|dt _ _ _=>exact B.elim
|tp _ _ _=>exact B.elim
theorem zzj(dp:DP)(U:DSt)(Q:List D->Prop):zqa1 dp U Q=(dp U λ_ _ u=>zw01 u Q):=rfl
theorem zdi(kvs:List (Key×D))(Q:List D->Prop):zw01 (.dk kvs) Q=∃ns:List Int,kvs.map (·.1)=ns.map w6/\ns.length < 64/\∀p:List Int,p.Perm ns->p.Pairwise (·<=·)->Q (p.map .int):=rfl
end
end _4
namespace _3
open PySem PySem.Spec PyProof.Rows _2
variable {K:Fg}{ps:List Str}{sp:Sp}{st:dR}{x:Str}
structure TopDefN(K:Fg)(x:Str)(st:dR):Prop where
 ex:∃(f T:aE)(oc:aA)(od:Option aE)(kV doc pm:aA)(an:Option aE)(cdv ct:aA)(osl:Array (Option aA))(o:Obj)(n:Nat),aZ K aR x=some (some (.ref f)) /\
  K.lookup f=some ⟨oc,od,.func (bV x x (zn8 st) (zm3 st) (zh0 st) (.ref T) kV doc pm an cdv ct),osl⟩/\dH K cdv x=true/\bK K (.ref f)=true/\K.lookup T=some o/\o.data=.seq #[.none] n
theorem zmq{f T:aE}{B:aA}{z G:Option aE}{p:Array (Option aA)}{kV q u cdv ct:aA}{o:Obj}{n:Nat}(a:aZ K aR x=some (some (.ref f)))
  (l:K.lookup f=some ⟨B,z,.func (bV x x (zn8 st) (zm3 st) (zh0 st) (.ref T) kV q u G cdv ct),p⟩) (c:dH K cdv x=true) (k:bK K (.ref f)=true) (lt:K.lookup T=some o) (hd:o.data=.seq #[.none] n):TopDefN K x st :=
 ⟨f,T,B,z,kV,q,u,G,cdv,ct,p,o,n,a,l,c,k,lt,hd⟩
def DefN(P:aN)(w:aP)(K:Fg)(mg:Str->Option aA)(base:aT)(x:Str)(k:Nat)(ps:List Str)(sp:Sp):Prop :=
 ∃f p,FnOk P w K mg base CX0 k f p ps sp/\Binds K p ps []/\Binds K p ps [.none]/\bK K (.ref f)=true/\mg x=some (.ref f)
theorem DefN.d{P:aN}{w:aP}{mg:Str->Option aA}{base:aT}{k:Nat}(h:DefN P w K mg base x k ps sp):Def P w K mg base x k ps sp:=by
 obtain⟨f,q,F,b,_,p,m⟩:=h;exact⟨f,q,F,b,p,m⟩
abbrev zil(x:Str)(st:dR)(ps:List Str)(ds:List aA)(qs:List Str):Prop :=
 ∀(T:aE)(kV p q:aA)(u:Option aE)(cdv ct:aA)(us:List aA),us.length=qs.length->∃k:Option (Array aA)->Sem (List (Str×aA)),lQ (bV x x (zn8 st) (zm3 st) (zh0 st) (.ref T) kV p q u cdv ct) ⟨us,[]⟩=fX (.ref T) >>= k/\k (some #[.none])=pure (ps.zip (us++ds))
section
variable {P:aN}{w:aP}{K:Fg}{mg:Str->Option aA}{base:aT}
theorem za81{N:List Str}{k:Nat}(M:Md K mg)(T:TopDefN K x st)(S:FnScope N ps (zh0 st)){qs:List Str}(hq:ps.length=qs.length+1)(hb:zil x st ps [] ps)(Z:zil x st ps [.none] qs)(len:∀vs H Q E,sp vs H Q E->vs.length=ps.length)
  (body:zt8 P w K mg base x st N k sp):DefN P w K mg base x (k+1) ps sp:=by
 obtain⟨f,t,oc,od,kV,u,J,L,cdv,ct,osl,o,n,a,O,I,W,lt,hd⟩:=T.ex;refine⟨f,_,zvh1 O I S len λA outer s H vs Q E hr G=>?_,λs us p hl=>?_,λs us p hl=>?_,W,M.got a⟩
 ·obtain⟨t,h,q⟩:=body f cdv A outer s H vs Q E hr G;exact⟨t,PSs.nox h,q⟩
 ·obtain⟨Y,B,z⟩:=hb t kV u J L cdv ct us (by simpa using hl);exact mN p rfl lt hd B z
 ·obtain⟨Y,B,z⟩:=Z t kV u J L cdv ct us (by rw[vW]at hl;simp only[zL]at hl;lia);exact mN p rfl lt hd B z
end
section
variable {X:Cx}{k:Nat}{C:aE}{ps:List Str}{sp:Sp}{x m:Str}{p pos apos:Pos}{e o:aX}{es:List aX}{ta:TE}{t:TA}
theorem zsq(d:DefN X.prog X.w X.K X.mg X.base x k ps sp)(hr:Room k X.A)(B:Gl X x)(I:PA X (e :: es) t)(u:(x == ("__debug__":Str))=false:=by decide)
  (G:aS (e :: es) X.env=(false,bA e X.env) :: aS es X.env:=by rfl) (q:(b9 pos (aS es X.env)).any (·.1)=false:=by rfl):PE X (.Call (.Name x p) (e :: es) [] pos) (zq51 sp [.non] E0 t):=by
 obtain⟨f,J,F,_,b,z,m⟩:=d;exact zay F hr B m z b (.cons rfl .nil) zm51 I u G q
end
end _3
namespace _4
open PySem PySem.Spec PyProof.Rows _2 _3
section
variable {K:Fg}{te ta ti tv tk tb:TE}{de da di dk db:DE}{dc:DC}{dp:DP}{tA:TA}{dA:DF}
def zs21(p:DSp)(dA:DF):DE:=λU Q=>dA U λds=>p (ds++[.none]) Q
theorem zv91{F:Hp}:∀{vs us:List V}{ds es:List D},IsAll K F vs ds->IsAll K F us es->IsAll K F (vs++us) (ds++es)
|_,_,_,_,.nil,h=>h
|_,_,_,_,.cons a r,h=>.cons a (zv91 r h)
theorem zeo{p:DSp}{E:XK}(h:RfA K tA dA):RfE K (zq51 (spD K p) [.non] E tA) (zs21 p dA):=by
 walk_at"2";refine h s rv hd λds G vs J M u B=>?_;exact⟨J,ds++[.none],Qd,u.fh,zv91 B (.cons .non .nil),G,λd q v L H' I z=>k d q v L H' (u.trans I) z⟩
theorem zkj(p:DSp)(dA:DF)(U:DSt)(Q:D->Prop):zs21 p dA U Q=(dA U λds=>p (ds++[.none]) Q):=rfl
end
end _4
namespace _5
open PySem PySem.Spec PyProof.Rows _2 _3 _4
variable {E:aA->aG->Prop}{s:aG}
theorem ar1{α:Type}{us:List α}(h:us.length=1):∃a,us=[a]:=by
 rcases us with _|⟨a,_|⟨b,us⟩⟩
 ·cases h
 ·exact⟨a,rfl⟩
 ·cases h
theorem ars{α:Type}{n:Nat}{us:List α}(h:us.length=n+1):∃a r,us=a :: r/\r.length=n:=by
 rcases us with _|⟨a,us⟩
 ·cases h
 ·exact⟨a,us,rfl,Nat.succ.inj h⟩
theorem ar2{α:Type}{us:List α}(h:us.length=2):∃a b,us=[a,b]:=by
 obtain⟨a,r,rfl,k⟩:=ars h;obtain⟨b,rfl⟩:=ar1 k;exact⟨a,b,rfl⟩
theorem ar3{α:Type}{us:List α}(h:us.length=3):∃a b c,us=[a,b,c]:=by
 obtain⟨a,r,rfl,k⟩:=ars h;obtain⟨b,c,rfl⟩:=ar2 k;exact⟨a,b,c,rfl⟩
theorem ar4{α:Type}{us:List α}(h:us.length=4):∃a b c d,us=[a,b,c,d]:=by
 obtain⟨a,r,rfl,k⟩:=ars h;obtain⟨b,c,d,rfl⟩:=ar3 k;exact⟨a,b,c,d,rfl⟩
theorem ar5{α:Type}{us:List α}(h:us.length=5):∃a b c d e,us=[a,b,c,d,e]:=by
 obtain⟨a,r,rfl,k⟩:=ars h;obtain⟨b,c,d,e,rfl⟩:=ar4 k;exact⟨a,b,c,d,e,rfl⟩
def gL(n:Nat)(gs:DGs):DG:=λd U G=>match d with
|.list ds=>ds.length=n/\gs ds U G
|_=>False
theorem e_gL(n:Nat)(gs:DGs)(d:D)(U:DSt)(G:DSt->Prop):gL n gs d U G=(match d with
|.list ds=>ds.length=n/\gs ds U G
|_=>False):=rfl
section
variable {prog:aN}{w:aP}{A:a7}{R:gJ->aG->Prop}{I:aE}{fp wr:List aE}{n:Nat}{P:Nat->aA->Prop}{St:Nat->aT->Prop}{d:aA}
abbrev mxC(I S:aE)(d:aA):Code:=.builtin "max.loop" ⟨[.ref I,.none,.ref S],[("default",d)]⟩
theorem zib1:(toString "max"++toString ".loop":String) = "max.loop":=by decide
theorem zmi1(W:Walks prog w A.in1 I fp wr n P St)(J:Nat->Nat->Bool)(cm:CmpOf prog w A.in1 .Gt P J)(S:aE)(sf:S ∉ fp) :
  ∀(k j:Nat)(s:aG)(b:aA)(c:Nat),n - (j+1)=k->j+1<=n->St (j+1) s.heap->P (fQ J j) b ->
  s.heap.get? S=some { cls:=.type "list",dict:=none,data:=.seq #[b,b] c,slots:=#[] } ->
  (∀v g t,P (fQ J (n - 1)) v->(∀a o,a ∉ S :: wr->s.heap.get? a=some o->g.get? a=some o)->R (.ok (.ret v)) { s with heap:=g,toks:=t })->cP (aM prog w) A (mxC I S d) R s:=by
 have sw:S ∉ wr:=λh=>sf (W.sub _ h);have ns:∀{a:aE},a ∉ S :: wr->S≠a/\a ∉ wr:=λh=>⟨λz=>h (by rw[z];exact wR),λz=>h (wC _ z)⟩
 intro k
 induction k with
|zero =>
  walk_at"34";have e:j+1=n:=by lia
  refine b6 gQ ?_;rw[bU cI _];show aJ _ _ (fX (.ref S) >>= _) _ _ s;refine aC (bN L rfl ?_);show aJ _ _ (tryCatch (dU (.ref I)) _ >>= _) _ _ s;refine aC (dX (W.done s _ _ (e ▸ st) λg t G=>?_));have p:=G S _ sw L;show aJ _ _ (updateSeq S (λ_=>#[]) >>= _) _ _ _;refine aC (fF p rfl (aC (d4 (aI ?_))));exact q b _ _ (by rw[<- e];exact pb) λa o u z=>(yU _ _ (ns u).1).trans (G a o (ns u).2 z)
|succ k ih =>
  walk_at"34";have lt:j+1 < n:=by lia
  refine b6 gQ ?_;rw[bU cI _];show aJ _ _ (fX (.ref S) >>= _) _ _ s;refine aC (bN L rfl ?_);show aJ _ _ (tryCatch (dU (.ref I)) _ >>= _) _ _ s;refine aC (dX (W.item (j+1) s _ _ lt st λv g t pv M G=>?_));have p:=G S _ sw L;show aJ _ _ (tryCatch (dJ [v,v] (richCompare .Gt v b >>= _)) _ >>= _) _ _ _;refine aC (dX (bL (aC (cm (j+1) (fQ J j) v b _ _ _ pv pb ?_))));refine aC (bL (cZ ?_));refine aC (d4 (aI ?_));cases hb:J (j+1) (fQ J j)with
 |true =>
   rw[aH rfl];refine aC (fF p rfl (aC (d4 ?_)));rw[zib1];refine aI ⟨cU cI _,ih (j+1) _ v _ (by lia) lt (W.frame _ _ _ M λa hf o z=>?_) (by simp only[fQ,hb,if_true];exact pv) (yT _ p rfl) λO g2 Y Z B=>?_⟩
   ·exact(yU _ _ (λh:S=a=>sf (by rw[h];exact hf))).trans z
   ·exact q O g2 Y Z λa o u z=>B a o u ((yU _ _ (ns u).1).trans (G a o (ns u).2 z))
 |false =>
   rw[aF (by simp)];refine aC (d4 ?_);rw[zib1];refine aI ⟨cU cI _,ih (j+1) _ b c (by lia) lt M (by simp only[fQ,hb,yB,if_false];exact pb) p λO g2 Y Z B=>?_⟩;exact q O g2 Y Z λa o u z=>B a o u (G a o (ns u).2 z)
theorem zsi1(W:Walks prog w A.in1 I fp wr n P St)(J:Nat->Nat->Bool)(cm:CmpOf prog w A.in1 .Gt P J)(S:aE)(G:S ∉ fp){c:Nat}(st:St 0 s.heap)
  (O:s.heap.get? S=some { cls:=.type "list",dict:=none,data:=.seq #[] c,slots:=#[] })
  (q:∀v g t,(if n=0 then v=d else P (fQ J (n - 1)) v)->(∀a o,a ∉ S :: wr->s.heap.get? a=some o->g.get? a=some o)->R (.ok (.ret v)) { s with heap:=g,toks:=t }):cP (aM prog w) A (mxC I S d) R s:=by
 have sw:S ∉ wr:=λh=>G (W.sub _ h);have ns:∀{a:aE},a ∉ S :: wr->S≠a/\a ∉ wr:=λh=>⟨λz=>h (by rw[z];exact wR),λz=>h (wC _ z)⟩
 refine b6 gQ ?_;rw[bU cI _];show aJ _ _ (fX (.ref S) >>= _) _ _ s;refine aC (bN O rfl ?_);show aJ _ _ (tryCatch (dU (.ref I)) _ >>= _) _ _ s;rcases uaM n with z|z
 ·refine aC (dX (W.done s _ _ (z ▸ st) λg t B=>?_));refine aC (eB (aI ?_));exact q d g t (by rw[aH z]) λa o p e=>B a o (ns p).2 e
 ·refine aC (dX (W.item 0 s _ _ z st λv g t pv L B=>?_));have u:=B S _ sw O;show aJ _ _ (updateSeq S (λ_=>#[v,v]) >>= _) _ _ _;refine aC (fF u rfl ?_);rw[zib1];refine aI ⟨cU cI _,zmi1 W J cm S G _ 0 _ v _ rfl z (W.frame _ _ _ L λa hf o e=>?_) pv (yT _ u rfl) λY g2 Z p2 M=>?_⟩
  ·exact(yU _ _ (λh:S=a=>G (by rw[h];exact hf))).trans e
  ·exact q Y g2 Z (by rw[aF (by lia)];exact p2) λa o p e=>M a o p ((yU _ _ (ns p).1).trans (B a o (ns p).2 e))
theorem zaa1(a d:aA):gI "max" ⟨[a],[("default",d)]⟩:=by unfold gI;kernel_rfl
theorem zni1{id:String}{b:Builtin}{us:List aA}{p:List (Str×aA)}{Q:aA->aG->Prop}(J:builtinKind id=none)(G:plainId id=true)(B:iH l3 id=some b)(z:gI id ⟨us,p⟩)
  (h:aJ (aM prog w) A.in1 (b ⟨us,p⟩) (λq s'=>match q with
  |.done f=>(match (Except.ok f:gJ)with|.ok (.ret v)=>Q v s'|.ok _=>False|.error e=>E e s')
  |.again c=>c.quiet=true/\cP (aM prog w) A c (λr s'=>match r with|.ok (.ret v)=>Q v s'|.ok _=>False|.error e=>E e s') s') E s):aJ (aM prog w) A (call (.builtin id) us p) Q E s:=by
 refine iJ (iO G B ?_);simp only[lX,J];cases hs:Manifest.signature? id with
|none=>exact aI h
|some u =>
  simp only[gI,hs]at z;show aJ _ _ (Bind.checkArgs id u ⟨us,p⟩) _ _ s;rw[show Bind.checkArgs id u ⟨us,p⟩=pure ()from z];exact aI h
theorem zk81(d:aA):Builtin.Builtins.bindParams "max" ["key", "default"] 0 ⟨[],[("default",d)]⟩=pure [none,some d]:=rfl
theorem zn81{E:aA->aG->Prop}{l:aE}{xs:Array (Int×Nat)}{Q:aA->aG->Prop}(G:A.handled=none)(hl:s.heap.IsList l (fS xs))
  (h:∀v g t,(if xs.size=0 then v=d else(fS xs)[fQ (λi j=>decide (l4 xs i > l4 xs j)) (xs.size - 1)]?=some v)->(∀b o,s.heap.get? b=some o->g.get? b=some o)->Q v { s with heap:=g,toks:=t }) :
  aJ (aM prog w) A (call (.builtin "max") [.ref l] [("default",d)]) Q E s:=by
 refine zni1 F.kind_max F.plain_max F.entry_max (zaa1 _ _) ?_;show aJ _ _ (Builtin.Builtins.bindParams "max" ["key", "default"] 0 ⟨[],[("default",d)]⟩ >>= _) _ _ s;rw[zk81];refine aC (aI (aC (aI ?_)));refine aC (iter_intList hl λs2 e st hf J=>?_);subst e;refine aC (bJ ?_);have q:(s.heap.push { cls:=.type "list_iterator",data:=.fields #[.ref l,.int 0 0] }).objs.size ∉ [s.heap.objs.size,l]:=λz=>xB _ (hf _ z);rw[zib1];have W:=Walks.list (prog:=prog) (w:=w) (A:=A.in1) G s.heap.objs.size l J (fS xs);refine aI ⟨cU cI _,zsi1 W _ (CmpOf.ints_gt (l4 xs) (λ_ _=>lO)) _ q (W.frame 0 _ _ st λb _ o e=>vU _ e) (v7 _ rfl) λv g t B u=>?_⟩;refine h v g t ?_ λb o e=>?_
 ·simpa[fS]using B
 ·have p:b < s.heap.objs.size:=vZ e;refine u b o (λz=>?_) (vU _ (vU _ e));rcases vT.mp z with z|z
  ·rw[z,xH]at p;exact Nat.not_lt_of_le (yQ _) p
  ·simp at z;rw[z]at p;exact xB _ p
end
section
variable {X:Cx}{x:Str}{p pos kp:Pos}{e e2:aX}{te te2:TE}
def rMxD(K:Fg)(v u:V)(H:Hp)(Q:VK):Prop:=∃(a:aE)(ns:List Int),v=.ref a/\SqL K H a (ns.map V.int)/\(ns=[]->Q u H)/\(ns≠[]->∀M∈ns,(∀y∈ns,y<=M)->Q (.int M) H)
def tMxD(K:Fg)(te te2:TE):TE:=λY H Q=>te Y H λv q=>te2 Y q λu H2=>rMxD K v u H2 Q
theorem zdd1{K:Fg}(hK:X.K=K)(hc:X.calm=true)(hg:Gl X x)(hm:X.mg x=none)(hv:a8 x=some (.builtin "max"))(h1:PE X e te)(h2:PE X e2 te2)(hn:x ≠ "__name__":=by decide)(hdb:(x == ("__debug__":Str))=false:=by decide)
  (W:aS [e] X.env=(false,bA e X.env) :: aS [] X.env:=by rfl):PE X (.Call (.Name x p) [e] [⟨some "default",e2,kp⟩] pos) (tMxD K te te2):=by
 subst hK;walk_at"1";refine dP (zkh I hg hm hv ?_ hn hdb);refine nP (thn (za0 h1 zg0 W pos pins s Y H (λvs Z=>match vs with|[v]=>te2 Y Z λu H2=>rMxD X.K v u H2 Q|_=>False) I ?_) λus s1 ⟨vs,Z,I1,r1,S⟩=>?_) (by rw[W];rfl) (by rw[W];rfl) rfl rfl
 ·exact h
 rcases vs with _|⟨v,_|⟨v2,vr⟩⟩
 ·exact False.elim S
 rotate_left
 ·exact False.elim S
 obtain⟨uv,rfl,r5⟩:=zwl r1;refine thn (zk71 (nm:=some "default") (kpos:=kp) h2 zxe1 pos pins s1 Y Z (λM H2=>match M with|[u]=>rMxD X.K v u H2 Q|_=>False) I1 ?_) λws s2 ⟨M,H2,L,rz,O⟩=>?_
 ·exact S
 rcases M with _|⟨u,_|⟨u2,ur⟩⟩
 ·exact False.elim O
 rotate_left
 ·exact False.elim O
 obtain⟨ud,rfl,rd⟩:=zwl rz;obtain⟨a,ns,rfl,hx,qe,qn⟩:=O;cases r5;obtain⟨its,rv,pl,hz⟩:=L.list hx;have hi:dL its ns:=zx6 rv;obtain⟨ys,hy⟩:=hi.allInts.items;have hl:s2.heap.IsList a (fS ys):=hy ▸ pl.isList;have J:ns=ys.toList.map (·.1):=by
  rw[<- iQ,<- hy];exact(show numsOf its.toArray.toList=ns from hi.numsOf).symm
 show aJ _ _ (call (.builtin "max") [.ref a] [("default",ud)]) _ _ s2;refine zn81 (L.ok.hd hc) hl λv g t B hk=>?_;by_cases z:ys.size=0
 ·rw[aH z]at B;subst B;have en:ns=[]:=by rw[J];exact ua2.mpr (zP (by simpa using z))
  exact⟨u,H2,L.kept hk,rd,qe en⟩
 ·rw[aF z]at B;obtain⟨t',rfl⟩:=lO B;obtain⟨h1',h2'⟩:=argBest_gt (l4 ys) (ys.size - 1);have hne:ns≠[]:=λq=>z (by
   have:=congrArg zI J;rw[q,u5,wY]at this
   simpa using this.symm)
  refine⟨.int _,H2,L.kept hk,⟨_,rfl⟩,qn hne _ ?_ λx G=>?_⟩
  ·rw[lP,J];exact getD_mem (by rw[u5,wY];lia)
  ·rw[J]at G;obtain⟨j,hj,rfl⟩:=mem_getD G;rw[u5,wY]at hj;rw[<- lP];exact h2' j (by lia)
end
section
variable {K:Fg}{te te2:TE}{df:DE}{dd:DE}
def dMxD(df dd:DE):DE:=λU Q=>df U λl=>dd U λx=>∃ds ns,l=.list ds/\zpd ds=some ns/\(ns=[]->Q x)/\(ns≠[]->∀M∈ns,(∀y∈ns,y<=M)->Q (.int M))
theorem zvy(df dd:DE)(U:DSt)(Q:D->Prop):dMxD df dd U Q=(df U λl=>dd U λx=>∃ds ns,l=.list ds/\zpd ds=some ns/\(ns=[]->Q x)/\(ns≠[]->∀M∈ns,(∀y∈ns,y<=M)->Q (.int M))):=rfl
theorem zvd1(h1:RfE K te df)(h2:RfE K te2 dd):RfE K (tMxD K te te2) (dMxD df dd):=by
 walk_at"0";refine h1 s rv h λl hl v F1 H1 B S=>h2 B.fh (rv.ext B) hl λx Z u F2 H2 q O=>?_;obtain⟨ds,ns,rfl,hn,J,I⟩:=Z;obtain⟨a,xs,rfl,G,L⟩:=(S.mono q.f).list_inv;have ex:=zic L hn;subst ex;have p:=B.trans q;exact⟨a,ns,rfl,q.fh.seq G,λz=>k _ (J z) _ F2 H2 p O,λz M hM W=>k _ (I z M hM W) _ F2 H2 p (.int M)⟩
end
section
variable {P:aN}{w:aP}{K:Fg}{mg:Str->Option aA}{base:aT}{m:Str}{k:Nat}{ta:TE}{tA:TA}{dn:DN}{dA:DF}
abbrev Tab:=List (aE×DSpT)
def zpy(m:Str)(tab:Tab)(dn:DN)(dA:DF):DN:=λU Q=>dn U λu=>match u with
|.ob C fs=>noM m (.ob C fs)/\∃p,(C,p)∈tab/\dA U λds=>p (.b (.ob C fs) :: ds.map .d) λr _=>Q r
|_=>False
theorem zdj(m:Str)(tab:Tab)(dn:DN)(dA:DF)(U:DSt)(Q:T->Prop):zpy m tab dn dA U Q=(dn U λu=>match u with
|.ob C fs=>noM m (.ob C fs)/\∃p,(C,p)∈tab/\dA U λds=>p (.b (.ob C fs) :: ds.map .d) λr _=>Q r
|_=>False):=rfl
theorem zx51{F H:Hp}:∀{vs:List V}{ds:List D},IsAll K F vs ds->ArgsR K F H vs (ds.map .d) [] none
|_,_,.nil=>.nil
|_,_,.cons h r=>.d h (zx51 r)
theorem zs11{tab:Tab}(ht:∀C p,(C,p)∈tab->∃ps,MethD P w K mg base C m k ps (spT K p))(h1:RfN K ta dn)(h2:RfA K tA dA):RfN K (zj61 P w K mg base m k ta tA) (zpy m tab dn dA):=by
 intro F H Y U Qd Q s rv hd kk;refine h1 s rv hd λu q v F1 H1 fp I Z J fr1=>?_;cases Z with
|ob W g2 g3 g4 S =>
  rename_i a C dx kvs fs M
  obtain⟨nm,p,hp,hq⟩:=q;obtain⟨ps,md⟩:=ht C p hp;refine⟨a,C,dx,kvs,ps,_,rfl,W,(S.keys m).1 nm,md,h2 I.fh (rv.ext I) hq λds L vs F2 H2 G i2=>?_⟩;have O:Rt K F2 H2 (.ref a) (.ob C fs) (a :: dx :: M):=(Rt.ob W g2 g3 g4 S).ext G;have B:=I.trans G;refine⟨F2,_,_,none,_,G.fh,.b O J (zx51 i2),(λb z=>by simp[ofp]at z),L,λO t2 q2 v F' H' fpr fpo post=>?_⟩;exact kk _ q2 v F' H' fpr (B.trans ⟨λb o z=>post.hh b o (by simp[ofp]) z,post.ff,post.fh,post.nw⟩) post.rt post.nd λb z=>zn2 B (post.fr b z)
|fz _=>exact q.elim
|li _ _ _=>exact q.elim
|ls _ _ _=>exact q.elim
|dk _ _ _=>exact q.elim
|dt _ _ _=>exact q.elim
|tp _ _ _=>exact q.elim
theorem tab3{I G B:aE}{z u q:DSpT}(M:∃ps,MethD P w K mg base I m k ps (spT K z))(L:∃ps,MethD P w K mg base G m k ps (spT K u))(J:∃ps,MethD P w K mg base B m k ps (spT K q)) :
  ∀C p,(C,p)∈[(I,z),(G,u),(B,q)]->∃ps,MethD P w K mg base C m k ps (spT K p):=λC p h=>by
 rcases vT.mp h with e|h
 ·cases e;exact M
 rcases vT.mp h with e|h
 ·cases e;exact L
 rcases vT.mp h with e|h
 ·cases e;exact J
 ·simp at h
end
end _5
namespace _4
open PySem PySem.Spec PyProof.Rows _2 _3
section
variable {K:Fg}{ta:TE}{dp:DP}
def kD:Key->D
|.inl i=>.int i
|.inr x=>.str x
end
end _4
namespace _5
variable {E:List Nat}{L:List Int}{S:List (List Nat)}{a m:Nat}{lv:List (Nat×Nat)}
def xr(s:Nat):Nat:=if s % 2=0 then s+1 else s - 1
theorem zlc1(s:Nat):xr (xr s)=s:=by unfold xr;split <;> split <;> lia
theorem zfb1{s:Nat}(h:s < 2 * m):xr s < 2 * m:=by unfold xr;split <;> lia
theorem zne1(s:Nat):xr s≠s:=by unfold xr;split <;> lia
def hd(E:List Nat)(s:Nat):Nat:=E.getD s 0
def tl(E:List Nat)(s:Nat):Nat:=hd E (xr s)
theorem zob1(E:List Nat)(s:Nat):tl E (xr s)=hd E s:=by unfold tl;rw[zlc1]
theorem zw91(E:List Nat)(s:Nat):hd E (xr s)=tl E s:=rfl
def lf(L:List Int)(s:Nat):Int:=L.getD s 0
structure Net(n m:Nat)(E:List Nat)(S:List (List Nat)):Prop where
 lE:E.length=2 * m
 bE:∀s,s < 2 * m->hd E s < n
 lS:S.length=n
 s1:∀(v:Nat) l,S[v]?=some l->∀s∈l,s < 2 * m/\tl E s=v
 s2:∀s,s < 2 * m->∃l,S[tl E s]?=some l/\s∈l
def lkp(lv:List (Nat×Nat))(v:Nat):Option Nat:=(lv.find? λp=>decide (p.1=v)).map (·.2)
theorem zed{u v:Nat}:lkp (lv++[(u,a)]) v=match lkp lv v with
 |some b=>some b
 |none=>if u=v then some a else none:=by
 unfold lkp;rw[List.find?_append];cases h:lv.find? λp=>decide (p.1=v)with
|some x=>simp
|none =>
  by_cases e:u=v
  ·simp[e]
  ·simp[e]
theorem zto{v:Nat}(h:lkp lv v=some a):(v,a)∈lv:=by
 unfold lkp at h;obtain⟨p,u,e⟩:=xA.mp h;have z:=List.mem_of_find?_eq_some u;have q:=List.find?_some u;simp at q;obtain⟨G,B⟩:=p;simp at q e;subst q e;exact z
theorem zci{v:Nat}(h:lkp lv v=none):v ∉ lv.map (·.1):=by
 unfold lkp at h;rw[Option.map_eq_none_iff,List.find?_eq_none]at h;intro u;obtain⟨p,q,e⟩:=vV.mp u;have:=h p q;simp[e]at this
theorem zy0:∀(n:Nat)(l:List Nat),l.Nodup->(∀x∈l,x < n)->l.length<=n
|0,[],_,_=>u7 _
|0,x :: r,_,h=>aL (h x (by simp)) (by lia)
|n+1,l,nd,h=>by
  by_cases z:n∈l
  ·have G:(l.erase n).length=l.length - 1:=List.length_erase_of_mem z;have B:(l.erase n).Nodup:=nd.erase n;have q:∀x∈l.erase n,x < n:=λx p=>by
    have u:=(List.Nodup.mem_erase_iff nd).mp p;have:=h x u.2;lia
   have:=zy0 n _ B q;lia
  ·have q:∀x∈l,x < n:=λx p=>by
    have:=h x p;have:x≠n:=λe=>z (e ▸ p);lia
   have:=zy0 n l nd q;lia
structure Lev(n m:Nat)(E:List Nat)(L:List Int)(src:Nat)(lv:List (Nat×Nat)):Prop where
 nd:(lv.map (·.1)).Nodup
 bd:∀p∈lv,p.1 < n
 l0:lkp lv src=some 0
 z0:∀v,lkp lv v=some 0->v=src
 cl:∀s,s < 2 * m->0 < lf L s->(lkp lv (tl E s)).isSome=true->(lkp lv (hd E s)).isSome=true
 pr:∀v a,lkp lv v=some (a+1)->∃s,s < 2 * m/\0 < lf L s/\hd E s=v/\lkp lv (tl E s)=some a
def Adm(E:List Nat)(L:List Int)(lv:List (Nat×Nat))(s:Nat):Prop:=0 < lf L s/\∃a,lkp lv (tl E s)=some a/\lkp lv (hd E s)=some (a+1)
inductive Rch(m:Nat)(E:List Nat)(L:List Int)(lv:List (Nat×Nat))(t:Nat):Nat->Prop
|here:Rch m E L lv t t
|step {s:Nat}:s < 2 * m->Adm E L lv s->Rch m E L lv t (hd E s)->Rch m E L lv t (tl E s)
theorem zcg{n m:Nat}{E:List Nat}{L:List Int}{src:Nat}{lv:List (Nat×Nat)}(h:Lev n m E L src lv){t:Nat}:∀(a v:Nat),lkp lv v=some a->Rch m E L lv t v->Rch m E L lv t src
|0,v,e,r=>by rw[<- h.z0 v e];exact r
|a+1,v,e,r=>by
  obtain⟨s,z,u,q,p⟩:=h.pr v a e;refine zcg h a (tl E s) p (.step z ⟨u,a,p,by rw[q];exact e⟩ (by rw[q];exact r))
theorem Rch.mono{q:List Int}{t v:Nat}(h:∀s,s < 2 * m->Adm E q lv s->Adm E L lv s)(r:Rch m E q lv t v):Rch m E L lv t v:=by
 induction r with
|here=>exact .here
|step p z _ u=>exact .step p (h _ p z) u
structure Tri(m:Nat)(E:List Nat)(S:List (List Nat))(L:List Int)(lv:List (Nat×Nat))(t:Nat)(TT:List (List Nat)):Prop where
 len:TT.length=S.length
 pre:∀(v:Nat) l,TT[v]?=some l->∃k,S[v]?=some k/\l <+: k
 vain:∀(v:Nat) l k,TT[v]?=some l->S[v]?=some k->∀(j:Nat) s,l.length<=j->k[j]?=some s->¬(Adm E L lv s/\Rch m E L lv t (hd E s))
theorem Tri.mono{m:Nat}{E:List Nat}{S:List (List Nat)}{L u:List Int}{lv:List (Nat×Nat)}{t:Nat}{TT:List (List Nat)}(h:∀s,s < 2 * m->Adm E u lv s->Adm E L lv s)(G:∀(v:Nat) k,S[v]?=some k->∀s∈k,s < 2 * m)(r:Tri m E S L lv t TT):Tri m E S u lv t TT :=
 ⟨r.len,r.pre,λv l k I q j s B p z=>r.vain v l k I q j s B p ⟨h s (G v k q s (wJ p)) z.1,z.2.mono h⟩⟩
theorem Tri.all{t:Nat}:Tri m E S L lv t S :=
 ⟨rfl,λv l h=>⟨l,h,List.prefix_refl _⟩,λv l k z q j s u p=>by
  rw[z]at q;cases q;rw[wG u]at p;cases p⟩
theorem Tri.dead{n:Nat}{t:Nat}{TT:List (List Nat)}(N:Net n m E S)(r:Tri m E S L lv t TT){v:Nat}(h:TT[v]?=some [])(p:v≠t):¬Rch m E L lv t v:=by
 intro z;cases z with
|here=>exact p rfl
|step I G B =>
  obtain⟨l,hl,q⟩:=N.s2 _ I;obtain⟨j,u,e⟩:=zY q;exact r.vain _ [] l h hl j _ (wU _) (by rw[<- e];exact u4 u) ⟨G,B⟩
theorem Tri.cut{t:Nat}{TT:List (List Nat)}(r:Tri m E S L lv t TT){v:Nat}{l:List Nat}(h:TT[v]?=some l){k:Nat}(hk:k<=l.length)
  (Z:∀(j:Nat) s,k<=j->l[j]?=some s->¬(Adm E L lv s/\Rch m E L lv t (hd E s))):Tri m E S L lv t (TT.set v (l.take k)):=by
 have O:v < TT.length:=by
  rcases wZ v TT.length with z|z
  ·exact z
  ·rw[wG z]at h;cases h
 have key:∀(u:Nat) x,(TT.set v (l.take k))[u]?=some x->(u=v/\x=l.take k) \/ (u≠v/\TT[u]?=some x):=λu x e=>by
  rw[xT]at e;by_cases z:v=u
  ·subst z;simp[O]at e;exact .inl ⟨rfl,e.symm⟩
  ·simp[z]at e;exact .inr ⟨λy=>z y.symm,e⟩
 refine⟨by rw[wK];exact r.len,λu x e=>?_,λu x y e q j s Y B=>?_⟩
 ·rcases key u x e with⟨rfl,rfl⟩|⟨_,J⟩
  ·obtain⟨W,I,G⟩:=r.pre u l h;exact⟨W,I,(List.take_prefix _ _).trans G⟩
  ·exact r.pre u x J
 ·rcases key u x e with⟨rfl,rfl⟩|⟨_,J⟩
  ·by_cases p:j < l.length
   ·obtain⟨W,I,G⟩:=r.pre u l h;rw[I]at q;cases q;have M:l[j]?=some s:=by
     rw[<- B];exact(List.prefix_iff_getElem?.mp G j p) ▸ u4 p
    refine Z j s ?_ M;rw[wW]at Y;lia
   ·exact r.vain u l y h q j s (by lia) B
  ·exact r.vain u x y J q j s Y B
def Way(m:Nat)(E:List Nat)(L:List Int)(lv:List (Nat×Nat)):Nat->List Nat->Nat->Prop
|v,[],t=>v=t
|v,s :: p,t=>s < 2 * m/\tl E s=v/\Adm E L lv s/\Way m E L lv (hd E s) p t
theorem Way.snoc{m:Nat}{E:List Nat}{L:List Int}{lv:List (Nat×Nat)}:∀{v:Nat}{p:List Nat}{u s:Nat},Way m E L lv v p u->s < 2 * m->tl E s=u->Adm E L lv s->Way m E L lv v (p++[s]) (hd E s)
|v,[],u,s,h,B,z,q=>⟨B,by rw[z];exact h.symm,q,rfl⟩
|v,x :: p,u,s,h,B,z,q=>⟨h.1,h.2.1,h.2.2.1,Way.snoc h.2.2.2 B z q⟩
theorem Way.unsnoc{m:Nat}{E:List Nat}{L:List Int}{lv:List (Nat×Nat)}:∀{v:Nat}{p:List Nat}{u s:Nat},Way m E L lv v (p++[s]) u->Way m E L lv v p (tl E s)/\hd E s=u/\s < 2 * m/\Adm E L lv s
|v,[],u,s,h=>⟨h.2.1.symm,h.2.2.2,h.1,h.2.2.1⟩
|v,x :: p,u,s,h=>by
  obtain⟨a,b,c,d⟩:=Way.unsnoc h.2.2.2;exact⟨⟨h.1,h.2.1,h.2.2.1,a⟩,b,c,d⟩
theorem Way.level{m:Nat}{E:List Nat}{L:List Int}{lv:List (Nat×Nat)}:∀{v:Nat}{p:List Nat}{u a:Nat},Way m E L lv v p u->lkp lv v=some a->lkp lv u=some (a+p.length)
|v,[],u,a,h,e=>by rw[show v=u from h]at e;exact e
|v,x :: p,u,a,h,e=>by
  obtain⟨I,G,⟨_,b,q,B⟩,z⟩:=h;rw[G,e]at q;cases q;have:=Way.level z B;rw[this];congr 1;simp;lia
theorem Way.tails{m:Nat}{E:List Nat}{L:List Int}{lv:List (Nat×Nat)}:∀{v:Nat}{p:List Nat}{u a:Nat},Way m E L lv v p u->lkp lv v=some a->∀s∈p,∃b,a<=b/\lkp lv (tl E s)=some b/\lkp lv (hd E s)=some (b+1)
|v,[],u,a,_,_,s,q=>by simp at q
|v,x :: p,u,a,h,e,s,q=>by
  obtain⟨Y,I,⟨_,b,G,B⟩,O⟩:=h;rw[I,e]at G;cases G;rcases vT.mp q with z|z
  ·subst z;exact⟨a,u7 _,by rw[I];exact e,B⟩
  ·obtain⟨c,W,M,J⟩:=Way.tails O B s z;exact⟨c,by lia,M,J⟩
theorem Way.nodup{m:Nat}{E:List Nat}{L:List Int}{lv:List (Nat×Nat)}:∀{v:Nat}{p:List Nat}{u a:Nat},Way m E L lv v p u->lkp lv v=some a->p.Nodup/\∀s∈p,xr s ∉ p
|v,[],u,a,_,_=>⟨.nil,λs J=>by simp at J⟩
|v,x :: p,u,a,h,e=>by
  obtain⟨h1,Y,⟨_,b,W,B⟩,I⟩:=h;rw[Y,e]at W;cases W;obtain⟨Z,n2⟩:=Way.nodup I B;have tx:lkp lv (tl E x)=some a:=by rw[Y];exact e
  refine⟨v5.mpr ⟨λz=>?_,Z⟩,λs J O=>?_⟩
  ·obtain⟨c,M,q,_⟩:=Way.tails I B x z;rw[tx]at q;cases q;lia
  ·rcases vT.mp J with z|z
   ·subst z;rcases vT.mp O with y|y
    ·exact zne1 _ y
    ·obtain⟨c,M,q,G⟩:=Way.tails I B _ y;rw[zob1,B]at q;cases q;rw[zw91,tx]at G;injection G with G;lia
   ·rcases vT.mp O with y|y
    ·obtain⟨c,M,q,G⟩:=Way.tails I B s z;have e1:x=xr s:=y.symm;subst e1;rw[zw91,q]at B;cases B;rw[zob1,G]at tx;injection tx with tx;lia
    ·exact n2 s z y
variable {E p:List Nat}{L:List Int}{a:Int}{a0 m s:Nat}{lv:List (Nat×Nat)}
def zth(L:List Int)(s:Nat)(a:Int):List Int:=(L.set s (lf L s - a)).set (xr s) (lf L (xr s)+a)
def zd4(L:List Int)(p:List Nat)(a:Int):List Int:=p.foldl (λL s=>zth L s a) L
theorem zve(L:List Int)(s:Nat)(a:Int):(zth L s a).length=L.length:=by simp[zth]
theorem zfc(a:Int):∀(p:List Nat)(L:List Int),(zd4 L p a).length=L.length
|[],L=>rfl
|s :: p,L=>by show(zd4 (zth L s a) p a).length=_;rw[zfc a p,zve]
theorem zx11{i j:Nat}{x:Int}(h:i < L.length):lf (L.set i x) j=if i=j then x else lf L j:=by
 unfold lf;rw[v4,v4,xT];by_cases e:i=j
 ·subst e;simp[h]
 ·simp[e]
theorem zjk{j:Nat}(hl:L.length=2 * m)(B:s < 2 * m):lf (zth L s a) j=if j=s then lf L s - a else if j=xr s then lf L (xr s)+a else lf L j:=by
 unfold zth;rw[zx11 (by rw[wK,hl];exact zfb1 B),zx11 (by lia)];by_cases u:j=s
 ·subst u;rw[aF (zne1 j),aH rfl,aH rfl]
 ·rw[aF u];by_cases q:j=xr s
  ·rw[aH q.symm,aH q]
  ·rw[aF (λz=>q z.symm),aF q,aF (λz=>u z.symm)]
theorem zoc{m:Nat}{a:Int}:∀{p:List Nat}{L:List Int}{j:Nat},L.length=2 * m->(∀s∈p,s < 2 * m)->p.Nodup->(∀s∈p,xr s ∉ p)->lf (zd4 L p a) j=if j∈p then lf L j - a else if xr j∈p then lf L j+a else lf L j
|[],L,j,_,_,_,_=>by simp[zd4]
|s :: p,L,j,hl,J,nd,nx=>by
  have W:=J s (by simp);have q:=v5.mp nd;have u:xr s ∉ p:=λz=>nx s (by simp) (by simp[z]);have O:=zoc (a:=a) (p:=p) (L:=zth L s a) (j:=j) (by rw[zve];exact hl) (λt B=>J t (by simp[B])) q.2 (λt B z=>nx t (by simp[B]) (by simp[z]));show lf (zd4 (zth L s a) p a) j=_;rw[O,zjk hl W];by_cases I:j=s
  ·subst I;rw[aF q.1,aH rfl,aF u,aH (by simp)]
  ·by_cases G:j=xr s
   ·subst G;have M:xr s ∉ s :: p:=nx s (by simp);rw[aF u,zlc1,aF q.1,aF I,aH rfl,aF M,aH (by simp)]
   ·have Y:xr j≠s:=λz=>G (by rw[<- z,zlc1]);simp only[vT,I,G,Y,if_false,false_or]
def term(E:List Nat)(L:List Int)(v k:Nat):Int:=(if hd E (2 * k)=v then lf L (2 * k+1)else 0) - (if hd E (2 * k+1)=v then lf L (2 * k+1)else 0)
def bal(m:Nat)(E:List Nat)(L:List Int)(v:Nat):Int:=((u3 m).map (term E L v)).sum
theorem zzf{f g:Nat->Int}{d:Int}{k0:Nat}:∀(m:Nat),k0 < m->(∀k,k≠k0->g k=f k)->g k0=f k0+d->((u3 m).map g).sum=((u3 m).map f).sum+d
|0,h,_,_=>by lia
|m+1,h,q,h2=>by
  rw[xZ,wH,wH,y9,y9];by_cases e:k0=m
  ·subst e;have:(u3 k0).map g=(u3 k0).map f:=x6 λk B=>q k (by have:=u9.mp B;lia);rw[this];simp[h2];lia
  ·have u:=zzf m (by lia) q h2;rw[u];simp[q m (λz=>e z.symm)];lia
theorem zc11{v:Nat}(hl:L.length=2 * m)(z:s < 2 * m):bal m E (zth L s a) v=bal m E L v+((if hd E s=v then a else 0) - (if tl E s=v then a else 0)):=by
 unfold bal;refine zzf (k0:=s / 2) m (by lia) (λk I=>?_) ?_
 ·unfold term;have:lf (zth L s a) (2 * k+1)=lf L (2 * k+1):=by
   rw[zjk hl z,aF (by lia),aF (by unfold xr;split <;> lia)]
  rw[this]
 ·unfold term;by_cases e:s % 2=0
  ·have u:2 * (s / 2)=s:=by lia
   have q:xr s=s+1:=by unfold xr;rw[aH e]
   have B:lf (zth L s a) (2 * (s / 2)+1)=lf L (2 * (s / 2)+1)+a:=by
    rw[zjk hl z,u,aF (by lia),aH q.symm,q]
   rw[B,u];have G:tl E s=hd E (s+1):=by unfold tl;rw[q]
   rw[G];split <;> split <;> lia
  ·have u:2 * (s / 2)+1=s:=by lia
   have q:xr s=2 * (s / 2):=by unfold xr;rw[aF e];lia
   have B:lf (zth L s a) (2 * (s / 2)+1)=lf L (2 * (s / 2)+1) - a:=by
    rw[zjk hl z,u,aH rfl]
   rw[B,u];have G:tl E s=hd E (2 * (s / 2)):=by unfold tl;rw[q]
   rw[G];split <;> split <;> lia
theorem zr9{m:Nat}{E:List Nat}{u:List Int}{lv:List (Nat×Nat)}{a:Int}{w:Nat}:∀{p:List Nat}{L:List Int}{v t:Nat},L.length=2 * m->Way m E u lv v p t->bal m E (zd4 L p a) w=bal m E L w+((if t=w then a else 0) - (if v=w then a else 0))
|[],L,v,t,_,h=>by
  rw[show v=t from h];show bal m E L w=_;lia
|s :: p,L,v,t,hl,h=>by
  have q:=zr9 (a:=a) (w:=w) (p:=p) (L:=zth L s a) (by rw[zve];exact hl) h.2.2.2;show bal m E (zd4 (zth L s a) p a) w=_;rw[q,zc11 hl h.1,h.2.1];lia
structure Cap(m:Nat)(most:Nat->Int)(L:List Int):Prop where
 len:L.length=2 * m
 nn:∀s,s < 2 * m->0<=lf L s
 sm:∀k,k < m->lf L (2 * k)+lf L (2 * k+1)=most k
theorem Cap.carry{most:Nat->Int}{v t:Nat}(c:Cap m most L)(h:Way m E L lv v p t)(O:lkp lv v=some a0)(ha:0<=a)(W:∀s∈p,a<=lf L s):Cap m most (zd4 L p a):=by
 obtain⟨nd,nx⟩:=h.nodup O;have I:∀{v p t},Way m E L lv v p t->∀s∈p,s < 2 * m:=λ{v p t} h=>by
  induction p generalizing v with
 |nil=>intro s B;simp at B
 |cons x p M =>
   intro s B;rcases vT.mp B with z|z
   ·subst z;exact h.1
   ·exact M h.2.2.2 s z
 have I:=I h;have G:∀j,lf (zd4 L p a) j=if j∈p then lf L j - a else if xr j∈p then lf L j+a else lf L j:=λj=>zoc c.len I nd nx
 refine⟨by rw[zfc];exact c.len,λs B=>?_,λk Y=>?_⟩
 ·rw[G];have:=c.nn s B;split
  ·rename_i z;have:=W s z;lia
  ·split <;> lia
 ·rw[G,G];have J:xr (2 * k)=2 * k+1:=by unfold xr;rw[aH (by lia)]
  have Z:xr (2 * k+1)=2 * k:=by unfold xr;rw[aF (by lia)];lia
  rw[J,Z];have:=c.sm k Y;by_cases u:2 * k∈p
  ·have q:2 * k+1 ∉ p:=λz=>nx _ u (by rw[J];exact z);rw[aH u,aF q,aH u];lia
  ·by_cases q:2 * k+1∈p
   ·rw[aF u,aH q,aH q];lia
   ·rw[aF u,aF q,aF q,aF u];lia
theorem ztv{v t:Nat}(hl:L.length=2 * m)(h:Way m E L lv v p t)(I:lkp lv v=some a0)(ha:0<=a):∀s,s < 2 * m->Adm E (zd4 L p a) lv s->Adm E L lv s:=by
 intro s u ⟨q,b,M,J⟩;refine⟨?_,b,M,J⟩;obtain⟨nd,nx⟩:=h.nodup I;have Z:∀{v p t},Way m E L lv v p t->∀s∈p,s < 2 * m:=λ{v p t} h=>by
  induction p generalizing v with
 |nil=>intro s u;simp at u
 |cons x p Y =>
   intro s u;rcases vT.mp u with z|z
   ·subst z;exact h.1
   ·exact Y h.2.2.2 s z
 rw[zoc hl (Z h) nd nx]at q;by_cases W:s∈p
 ·rw[aH W]at q;lia
 ·rw[aF W]at q;by_cases O:xr s∈p
  ·-- the step against one of the way leads down
   obtain⟨c,k1,G,B⟩:=h.tails I (xr s) O;rw[zob1,J]at G;rw[zw91,M]at B;injection G with G;injection B with B;lia
  ·rw[aF O]at q;exact q
theorem zfu{v t:Nat}(hl:L.length=2 * m)(h:Way m E L lv v p t)(G:lkp lv v=some a0)
  (cl:∀s,s < 2 * m->0 < lf L s->(lkp lv (tl E s)).isSome=true->(lkp lv (hd E s)).isSome=true) (ha:0<=a):∀s,s < 2 * m->0 < lf (zd4 L p a) s->(lkp lv (tl E s)).isSome=true->(lkp lv (hd E s)).isSome=true:=by
 intro s q u I;obtain⟨nd,nx⟩:=h.nodup G;have Y:∀{v p t},Way m E L lv v p t->∀s∈p,s < 2 * m:=λ{v p t} h=>by
  induction p generalizing v with
 |nil=>intro s q;simp at q
 |cons x p W =>
   intro s q;rcases vT.mp q with z|z
   ·subst z;exact h.1
   ·exact W h.2.2.2 s z
 rw[zoc hl (Y h) nd nx]at u;by_cases M:s∈p
 ·rw[aH M]at u;exact cl s q (by lia) I
 ·rw[aF M]at u;by_cases J:xr s∈p
  ·obtain⟨c,Z,B,O⟩:=h.tails G (xr s) J;rw[zw91]at O;rw[zob1]at B;rw[B];rfl
  ·rw[aF J]at u;exact cl s q u I
def tot(m:Nat)(most:Nat->Int):Int:=((u3 m).map most).sum
theorem zw61{most:Nat->Int}(c:Cap m most L)(v:Nat):bal m E L v<=tot m most:=by
 unfold bal tot;have:∀j,j<=m->((u3 j).map (term E L v)).sum<=((u3 j).map most).sum:=λj=>by
  induction j with
 |zero=>intro _;simp
 |succ j q =>
   intro u;have:=q (by lia);rw[xZ,wH,wH,y9,y9];have I:=c.nn (2 * j) (by lia);have G:=c.nn (2 * j+1) (by lia);have B:=c.sm j (by lia);have z:term E L v j<=most j:=by unfold term;split <;> split <;> lia
   simp;lia
 exact this m (u7 _)
open PySem
abbrev nB(a b:String):Prop:=(xL a==xL b)=false
abbrev nE(a b:String):Prop:=(xL a=xL b)=False
theorem nN{a b:String}(h:nB a b):nE a b:=eq_false (beq_eq_false_iff_ne.mp h)
theorem zy5:nB "ends" "left":=by decide +kernel
theorem zr4:nB "ends" "steps":=by decide +kernel
theorem zb6:nB "left" "ends":=by decide +kernel
theorem zl4:nB "left" "steps":=by decide +kernel
theorem zp4:nB "steps" "ends":=by decide +kernel
theorem zj4:nB "steps" "left":=by decide +kernel
theorem zy4:nB "amounts" "ends":=by decide +kernel
theorem zd5:nB "amounts" "left":=by decide +kernel
theorem zs3:nB "amounts" "steps":=by decide +kernel
theorem zz5:nB "levels" "ends":=by decide +kernel
theorem ze6:nB "levels" "left":=by decide +kernel
theorem zc5:nB "levels" "steps":=by decide +kernel
theorem zy2:nB "row_behind" "ends":=by decide +kernel
theorem zu2:nB "row_behind" "left":=by decide +kernel
theorem zg2:nB "row_behind" "steps":=by decide +kernel
theorem zh5:nB "push_up" "ends":=by decide +kernel
theorem zu4:nB "push_up" "left":=by decide +kernel
theorem za4:nB "push_up" "steps":=by decide +kernel
theorem zh6:nB "way_up" "ends":=by decide +kernel
theorem zi6:nB "way_up" "left":=by decide +kernel
theorem zv4:nB "way_up" "steps":=by decide +kernel
theorem zg5:nB "step_up" "ends":=by decide +kernel
theorem zz4:nB "step_up" "left":=by decide +kernel
theorem zq3:nB "step_up" "steps":=by decide +kernel
theorem za8:nB "carry" "ends":=by decide +kernel
theorem zk7:nB "carry" "left":=by decide +kernel
theorem zd6:nB "carry" "steps":=by decide +kernel
theorem zz8:nE "ends" "left":=nN zy5
theorem zn7:nE "ends" "steps":=nN zr4
theorem zv8:nE "left" "ends":=nN zb6
theorem zg7:nE "left" "steps":=nN zl4
theorem zl7:nE "steps" "ends":=nN zp4
theorem zy6:nE "steps" "left":=nN zj4
theorem zn4:nB "wide" "since":=by decide +kernel
theorem zk4:nB "wide" "other":=by decide +kernel
theorem zc6:nB "wide" "turn":=by decide +kernel
theorem zw7:nB "since" "wide":=by decide +kernel
theorem zc7:nB "other" "wide":=by decide +kernel
theorem zs4:nB "other" "turn":=by decide +kernel
theorem za9:nB "turn" "wide":=by decide +kernel
theorem zp7:nB "turn" "other":=by decide +kernel
theorem zp3:nB "width_at" "wide":=by decide +kernel
theorem zg3:nB "width_at" "since":=by decide +kernel
theorem zh3:nB "width_at" "other":=by decide +kernel
theorem zb4:nB "width_at" "turn":=by decide +kernel
theorem zs7:nE "wide" "since":=nN zn4
theorem zy7:nE "wide" "other":=nN zk4
theorem zx8:nE "wide" "turn":=nN zc6
theorem zv7:nE "other" "turn":=nN zs4
open PySem.Spec PyProof.Rows _2 _3 _4
variable {m s:Nat}
def nI(x:Nat):D:=.int (x:Int)
abbrev dSt(S:List (List Nat)):D:=.list (S.map λl=>.list (l.map nI))
abbrev oS(C:aE)(E:List Nat)(L:List Int)(S:List (List Nat)):T:=.ob C [("ends",.fz (.list (E.map nI))),("left",.li (L.map .int)),("steps",.fz (dSt S))]
def kN(lv:List (Nat×Nat)):List (Key×D):=lv.map λp=>(.inl (p.1:Int),nI p.2)
theorem zb71(p v:Nat):((w6 (p:Int):Key)=w6 (v:Int))=(p=v):=by
 apply propext;constructor
 ·intro z;injection z with z;exact_mod_cast z
 ·intro z;rw[z]
theorem zce(lv:List (Nat×Nat))(v:Nat):getA (kN lv) (.inl (v:Int))=(lkp lv v).map nI:=by
 unfold getA kN lkp
 induction lv with
|nil=>rfl
|cons p r q =>
  by_cases e:p.1=v
  ·simp[e]
  ·have u:¬(w6 (p.1:Int):Key)=w6 (v:Int):=by rw[zb71];exact e
   simp only[v9,yC];simp only[e,u,decide_false];exact q
theorem zw71{lv:List (Nat×Nat)}{v a:Nat}(h:lkp lv v=none):putD (kN lv) (.inl (v:Int)) (nI a)=kN (lv++[(v,a)]):=by
 unfold putD;have:((kN lv).any λkv=>decide (kv.1=(w6 (v:Int):Key)))=false:=by
  rw[List.any_eq_false];intro kv q;unfold kN at q;obtain⟨p,u,rfl⟩:=vV.mp q;have z:=zci h;have:p.1≠v:=λe=>z (by rw[<- e];exact zZ u);simp only[decide_eq_true_eq];rw[zb71];exact this
 rw[this];simp[kN]
theorem zei1{l:List Nat}{i:Nat}(h:l[i]?=some s):atI (l.map nI) (i:Int)=some (nI s):=zxc (by lia) (by rw[v6,u8,h];rfl)
theorem zvb1{E:List Nat}(hl:E.length=2 * m)(q:s < 2 * m):atI (E.map nI) (s:Int)=some (nI (hd E s)):=by
 refine zei1 ?_;unfold hd;rw[v4,u4 (by lia)];rfl
theorem ztd1{L:List Int}(hl:L.length=2 * m)(q:s < 2 * m):atI (L.map u6) (s:Int)=some (.int (lf L s)):=by
 refine zxc (by lia) ?_;rw[v6,u8];unfold lf;rw[v4,u4 (by lia)];rfl
theorem zpi1{S:List (List Nat)}{v:Nat}{l:List Nat}(h:S[v]?=some l):atI (S.map λl=>(wB (l.map nI))) (v:Int)=some (.list (l.map nI)):=zxc (by lia) (by rw[v6,u8,h];rfl)
theorem zp81(s:Nat):(s:Int)+1 - 2 * ((s:Int) % 2)=((xr s:Nat):Int):=by unfold xr;split <;> lia
variable {E beh row:List Nat}{L:List Int}{lv lv1:List (Nat×Nat)}{m n src:Nat}
structure Bfs(n m:Nat)(E:List Nat)(L:List Int)(src:Nat)(lv:List (Nat×Nat))(row:List Nat)(lev:Nat):Prop where
 nd:(lv.map (·.1)).Nodup
 bd:∀p∈lv,p.1 < n
 l0:lkp lv src=some 0
 z0:∀v,lkp lv v=some 0->v=src
 ro:∀v∈row,lkp lv v=some lev
 le:∀v b,lkp lv v=some b->b<=lev/\(b=lev->v∈row)
 cl:∀v b,lkp lv v=some b->b < lev->∀s,s < 2 * m->tl E s=v->0 < lf L s->(lkp lv (hd E s)).isSome=true
 pr:∀v a,lkp lv v=some (a+1)->∃s,s < 2 * m/\0 < lf L s/\hd E s=v/\lkp lv (tl E s)=some a
theorem Bfs.start(h:src < n):Bfs n m E L src [(src,0)] [src] 0:=by
 have e:∀v,lkp [(src,0)] v=if src=v then some 0 else none:=λv=>by
  by_cases z:src=v
  ·simp[lkp,z]
  ·simp[lkp,z]
 refine⟨by simp,λp u=>?_,by rw[e];simp,λv q=>?_,λv q=>?_,λv b q=>?_,λv b _ B=>by lia,λv a q=>?_⟩
 ·simp at u;subst u;exact h
 ·rw[e]at q;split at q
  ·rename_i z;exact z.symm
  ·cases q
 ·simp at q;subst q;rw[e];simp
 ·rw[e]at q;split at q
  ·rename_i z;cases q;exact⟨u7 _,λ_=>by simp[z]⟩
  ·cases q
 ·rw[e]at q;split at q <;> cases q
theorem Bfs.lev{n m:Nat}{E:List Nat}{L:List Int}{src:Nat}{lv:List (Nat×Nat)}{lev:Nat}(h:Bfs n m E L src lv [] lev):Lev n m E L src lv:=by
 refine⟨h.nd,h.bd,h.l0,h.z0,λs G I B=>?_,h.pr⟩;obtain⟨b,u⟩:=xR.mp B;have:=h.le _ b u;have q:b < lev:=by
  rcases wZ b lev with z|z
  ·exact z
  ·have:=this.2 (by lia);simp at this
 exact h.cl _ b u q s G rfl I
structure Mid(n m:Nat)(E:List Nat)(L:List Int)(lv:List (Nat×Nat))(lev:Nat)(lv1:List (Nat×Nat))(beh:List Nat):Prop where
 nd:(lv1.map (·.1)).Nodup
 bd:∀p∈lv1,p.1 < n
 old:∀v b,lkp lv v=some b->lkp lv1 v=some b
 new:∀v b,lkp lv1 v=some b->lkp lv v=some b \/ (b=lev+1/\v∈beh)
 ro:∀v∈beh,lkp lv1 v=some (lev+1)
 pr:∀v a,lkp lv1 v=some (a+1)->∃s,s < 2 * m/\0 < lf L s/\hd E s=v/\lkp lv1 (tl E s)=some a
 len:lv1.length=lv.length+beh.length
theorem Mid.start{lev:Nat}(h:Bfs n m E L src lv row lev):Mid n m E L lv lev lv [] :=
 ⟨h.nd,h.bd,λ_ _ z=>z,λ_ _ z=>.inl z,λv q=>by simp at q,h.pr,by simp⟩
theorem Mid.put{lev:Nat}{s:Nat}(h:Mid n m E L lv lev lv1 beh)(hs:s < 2 * m)(hp:0 < lf L s)(ht:lkp lv1 (tl E s)=some lev)(hn:hd E s < n)(J:lkp lv1 (hd E s)=none):Mid n m E L lv lev (lv1++[(hd E s,lev+1)]) (beh++[hd E s]):=by
 have keep:∀v b,lkp lv1 v=some b->lkp (lv1++[(hd E s,lev+1)]) v=some b:=λv b e=>by rw[zed,e]
 have W:lkp (lv1++[(hd E s,lev+1)]) (hd E s)=some (lev+1):=by rw[zed,J];simp
 have back:∀v b,lkp (lv1++[(hd E s,lev+1)]) v=some b->lkp lv1 v=some b \/ (v=hd E s/\b=lev+1):=λv b e=>by
  rw[zed]at e;cases q:lkp lv1 v with
 |some c=>rw[q]at e;exact .inl e
 |none =>
   rw[q]at e;simp only at e;split at e
   ·rename_i z;cases e;exact .inr ⟨z.symm,rfl⟩
   ·cases e
 refine⟨?_,λp B=>?_,λv b e=>keep v b (h.old v b e),λv b e=>?_,λv hv=>?_,λv a e=>?_,by simp[h.len];lia⟩
 ·rw[wH];refine wV.mpr ⟨h.nd,by simp,λx hx y I z=>?_⟩;simp at I;subst I;subst z;exact zci J hx
 ·rcases vX.mp B with z|z
  ·exact h.bd p z
  ·simp at z;subst z;exact hn
 ·rcases back v b e with z|⟨u,G⟩
  ·rcases h.new v b z with y|⟨O,M⟩
   ·exact .inl y
   ·exact .inr ⟨O,by simp[M]⟩
  ·exact .inr ⟨G,by simp[u]⟩
 ·rcases vX.mp hv with z|z
  ·exact keep v _ (h.ro v z)
  ·simp at z;rw[z];exact W
 ·rcases back v (a+1) e with z|⟨u,G⟩
  ·obtain⟨s',k1,k2,Z,Y⟩:=h.pr v a z;exact⟨s',k1,k2,Z,keep _ _ Y⟩
  ·have:a=lev:=by lia
   subst this;exact⟨s,hs,hp,u.symm,keep _ _ ht⟩
theorem Mid.bfs{S:List (List Nat)}{lev:Nat}(N:Net n m E S)(u:Bfs n m E L src lv row lev)(h:Mid n m E L lv lev lv1 beh)
  (cl:∀v∈row,∀l,S[v]?=some l->∀s∈l,0 < lf L s->(lkp lv1 (hd E s)).isSome=true):Bfs n m E L src lv1 beh (lev+1):=by
 refine⟨h.nd,h.bd,h.old _ _ u.l0,λv q=>?_,h.ro,λv b q=>?_,λv b q Y s G B I=>?_,h.pr⟩
 ·rcases h.new v 0 q with z|⟨z,_⟩
  ·exact u.z0 v z
  ·lia
 ·rcases h.new v b q with z|⟨M,J⟩
  ·have:=u.le v b z;exact⟨by lia,λe=>by lia⟩
  ·exact⟨by lia,λ_=>J⟩
 ·rcases h.new v b q with z|⟨M,_⟩
  ·have le:=u.le v b z;by_cases e:b=lev
   ·have hr:=le.2 e;obtain⟨l,hl,O⟩:=N.s2 s G;rw[B]at hl;exact cl v hr l hl s O I
   ·have:=u.cl v b z (by lia) s G B I;obtain⟨c,W⟩:=xR.mp this;rw[h.old _ c W];rfl
  ·lia
variable {E p:List Nat}{L:List Int}{S:List (List Nat)}{here m n s src:Nat}{lv:List (Nat×Nat)}
structure Go(m:Nat)(E:List Nat)(S:List (List Nat))(L:List Int)(lv:List (Nat×Nat))(t src:Nat)(p:List Nat)(here:Nat)(TT:List (List Nat)):Prop where
 tri:Tri m E S L lv t TT
 way:Way m E L lv src p here
 l0:lkp lv src=some 0
 last:∀s∈p,∃l,TT[tl E s]?=some (l++[s])
def szT(TT:List (List Nat)):Nat:=(TT.map zI).sum
theorem zwb:∀{TT:List (List Nat)}{v:Nat}{l:List Nat}(k:List Nat),TT[v]?=some l->szT (TT.set v k)+l.length=szT TT+k.length
|[],v,l,k,h=>by simp at h
|x :: r,0,l,k,h=>by simp at h;subst h;simp[szT];lia
|x :: r,v+1,l,k,h=>by
  have:=zwb (TT:=r) (v:=v) k (by simpa using h);simp[szT]at this ⊢;lia
theorem Go.lev{t:Nat}{TT:List (List Nat)}(g:Go m E S L lv t src p here TT):lkp lv here=some p.length:=by
 have:=g.way.level g.l0
 rwa [Nat.zero_add]at this
theorem Go.short{t:Nat}{TT:List (List Nat)}(g:Go m E S L lv t src p here TT)(q:∀s∈p,s < 2 * m):p.length<=2 * m :=
 zy0 _ p (g.way.nodup g.l0).1 q
theorem Way.lt{m:Nat}{E:List Nat}{L:List Int}{lv:List (Nat×Nat)}:∀{v:Nat}{p:List Nat}{t:Nat},Way m E L lv v p t->∀s∈p,s < 2 * m
|_,[],_,_,s,q=>by simp at q
|v,x :: p,t,h,s,q=>by
  rcases vT.mp q with z|z
  ·rw[z];exact h.1
  ·exact h.2.2.2.lt s z
theorem Go.tails{t:Nat}{TT:List (List Nat)}(g:Go m E S L lv t src p here TT):∀s∈p,tl E s≠here:=by
 have key:∀{v:Nat}{p:List Nat}{u a:Nat},Way m E L lv v p u->lkp lv v=some a->∀s∈p,∃b,b < a+p.length/\lkp lv (tl E s)=some b:=by
  intro v p
  induction p generalizing v with
 |nil=>intro u a _ _ s q;simp at q
 |cons x r I =>
   intro u a h e s q;obtain⟨O,G,⟨Y,b,B,M⟩,J⟩:=h;have:b=a:=by rw[G,e]at B;injection B with B;exact B.symm
   subst this;rcases vT.mp q with z|z
   ·subst z;exact⟨b,by simp,B⟩
   ·obtain⟨c,Z,W⟩:=I J M s z;exact⟨c,by simp;lia,W⟩
 intro s q e;obtain⟨b,O,G⟩:=key g.way g.l0 s q;rw[e,g.lev]at G;injection G with G;lia
theorem Go.vain{t:Nat}{TT:List (List Nat)}(N:Net n m E S)(g:Go m E S L lv t src p here TT){l:List Nat}{j:Nat}(h:TT[here]?=some l)
  (u:∀(i:Nat) s,j<=i->l[i]?=some s->¬(0 < lf L s/\lkp lv (hd E s)=some (p.length+1))):∀(i:Nat) s,j<=i->l[i]?=some s->¬(Adm E L lv s/\Rch m E L lv t (hd E s)):=λi s hi e z=>by
 obtain⟨k,M,J⟩:=g.tri.pre here l h;obtain⟨_,I⟩:=N.s1 here k M s (J.subset (wJ e));obtain⟨G,a,q,B⟩:=z.1;rw[I,g.lev]at q;injection q with q;subst q;exact u i s hi e ⟨G,B⟩
theorem Go.cut{m:Nat}{E:List Nat}{S:List (List Nat)}{L:List Int}{lv:List (Nat×Nat)}{t src:Nat}{p:List Nat}{here n:Nat}{TT:List (List Nat)}(N:Net n m E S)(g:Go m E S L lv t src p here TT){l:List Nat}{j:Nat}(h:TT[here]?=some l)(G:j<=l.length)
  (q:∀(i:Nat) s,j<=i->l[i]?=some s->¬(0 < lf L s/\lkp lv (hd E s)=some (p.length+1))):Go m E S L lv t src p here (TT.set here (l.take j)) :=
 ⟨g.tri.cut h G (g.vain N h q),g.way,g.l0,λs u=>by
  obtain⟨k,B⟩:=g.last s u;refine⟨k,?_⟩;rw[xX (λz=>g.tails s u z.symm)];exact B⟩
theorem zmg{TT:List (List Nat)}{v:Nat}{l:List Nat}(h:TT[v]?=some l):v < TT.length:=by
 rcases wZ v TT.length with z|z
 ·exact z
 ·rw[wG z]at h;cases h
theorem Go.fwd{t:Nat}{TT:List (List Nat)}(N:Net n m E S)(g:Go m E S L lv t src p here TT){l:List Nat}{j:Nat}(h:TT[here]?=some l)(Z:0 < j)(Y:j<=l.length)
  (B:∀(i:Nat) s,j<=i->l[i]?=some s->¬(0 < lf L s/\lkp lv (hd E s)=some (p.length+1))) (G:l[j - 1]?=some s) (W:0 < lf L s) (hl:lkp lv (hd E s)=some (p.length+1)) :
  Go m E S L lv t src (p++[s]) (hd E s) (TT.set here (l.take j))/\szT (TT.set here (l.take j))<=szT TT/\s < 2 * m:=by
 have I:=g.cut N h Y B;obtain⟨k,M,J⟩:=g.tri.pre here l h;obtain⟨u,q⟩:=N.s1 here k M s (J.subset (wJ G));refine⟨⟨I.tri,g.way.snoc u q ⟨W,_,by rw[q];exact g.lev,hl⟩,g.l0,λx O=>?_⟩,?_,u⟩
 ·rcases vX.mp O with z|z
  ·exact I.last x z
  ·simp at z;subst z;refine⟨l.take (j - 1),?_⟩;rw[q,xN (zmg h)];congr 1;have:j=(j - 1)+1:=by lia
   rw[this,xU,zA,G];rfl
 ·have:=zwb (l.take j) h;rw[wW]at this;lia
theorem Go.back{t:Nat}{TT:List (List Nat)}(N:Net n m E S)(g:Go m E S L lv t src (p++[s]) here TT){l:List Nat}(h:TT[here]?=some l)(ht:here≠t)
  (W:∀(i:Nat) s',0<=i->l[i]?=some s'->¬(0 < lf L s'/\lkp lv (hd E s')=some ((p++[s]).length+1))) :
  s < 2 * m/\∃k,(TT.set here [])[tl E s]?=some (k++[s])/\Go m E S L lv t src p (tl E s) ((TT.set here []).set (tl E s) k)/\szT ((TT.set here []).set (tl E s) k)+1<=szT TT:=by
 have B:=g.cut (j:=0) N h (wU _) W;rw[z5]at B;obtain⟨k,M⟩:=B.last s (by simp);obtain⟨w1,w2,Z,w4⟩:=g.way.unsnoc;have dead:¬Rch m E L lv t here:=B.tri.dead N (v:=here) (by rw[xN (zmg h)]) ht;have u:=B.tri.cut M (k:=k.length) (by simp) (λj x hj e z=>by
  have I:j < (k++[s]).length:=by
   rcases wZ j (k++[s]).length with y|y
   ·exact y
   ·rw[wG y]at e;cases e
  have:j=k.length:=by rw[vW]at I;simp at I;lia
  subst this;rw[List.getElem?_concat_length]at e;injection e with e;subst e;rw[w2]at z;exact dead z.2)
 rw[List.take_left]at u;have O:=zwb (TT:=TT) [] h;have G:=zwb k M;have Y:Go m E S L lv t src p (tl E s) (TT.set here []):=⟨B.tri,w1,g.l0,λx J=>B.last x (by simp[J])⟩
 refine⟨Z,k,M,⟨u,w1,g.l0,λx J=>?_⟩,?_⟩
 ·obtain⟨q,hq⟩:=Y.last x J;refine⟨q,?_⟩;rw[xX (λz=>Y.tails x J z.symm)];exact hq
 ·rw[vW]at G;simp at O G;lia
theorem Go.dead{m:Nat}{E:List Nat}{S:List (List Nat)}{L:List Int}{lv:List (Nat×Nat)}{t src:Nat}{here n:Nat}{TT:List (List Nat)}(N:Net n m E S)(g:Go m E S L lv t src [] here TT){l:List Nat}(h:TT[here]?=some l)(u:here≠t)
  (q:∀(i:Nat) s',0<=i->l[i]?=some s'->¬(0 < lf L s'/\lkp lv (hd E s')=some (([]:List Nat).length+1))):¬Rch m E L lv t src:=by
 have z:=g.cut (j:=0) N h (wU _) q;have e:src=here:=g.way;rw[e];exact z.tri.dead N (v:=here) (by rw[xN (zmg h)];rfl) u
theorem zxk{j:Nat}(h:j < n):ixN n ((j:Nat):Int)=some j:=by
 unfold ixN;rw[aH (by lia),aH (by lia),v6]
structure Up(m:Nat)(most:Nat->Int)(E:List Nat)(L L':List Int)(src snk:Nat):Prop where
 cap:Cap m most L'
 eqb:∀v,v≠src->v≠snk->bal m E L' v=bal m E L v
 out:∀k,k < m->hd E (2 * k+1)=src->lf L (2 * k+1)<=lf L' (2 * k+1)
 inn:∀k,k < m->hd E (2 * k)=snk->lf L (2 * k+1)<=lf L' (2 * k+1)
 bs:bal m E L' src<=bal m E L src
 bt:bal m E L snk<=bal m E L' snk
theorem Up.refl{m:Nat}{most:Nat->Int}{E:List Nat}{L:List Int}{src q:Nat}(c:Cap m most L):Up m most E L L src q :=
 ⟨c,λ_ _ _=>rfl,λ_ _ _=>xP _,λ_ _ _=>xP _,xP _,xP _⟩
theorem Up.trans{m:Nat}{most:Nat->Int}{E:List Nat}{L u _2:List Int}{src q:Nat}(h:Up m most E L u src q)(k:Up m most E u _2 src q):Up m most E L _2 src q :=
 ⟨k.cap,λv a b=>(k.eqb v a b).trans (h.eqb v a b),λi a b=>z6 (h.out i a b) (k.out i a b),λi a b=>z6 (h.inn i a b) (k.inn i a b),z6 k.bs h.bs,z6 h.bt k.bt⟩
theorem Up.carry{m:Nat}{most:Nat->Int}{E:List Nat}{L:List Int}{lv:List (Nat×Nat)}{src q:Nat}{p:List Nat}{a:Int}(c:Cap m most L)(h:Way m E L lv src p q)(B:lkp lv src=some 0)(ha:0<=a)(Z:∀s∈p,a<=lf L s):Up m most E L (zd4 L p a) src q:=by
 obtain⟨nd,nx⟩:=h.nodup B;have lev:=h.level B;have ft:∀{v:Nat}{p:List Nat}{u a:Nat},Way m E L lv v p u->lkp lv v=some a->∀s∈p,∃b,b < a+p.length/\lkp lv (tl E s)=some b:=by
  intro v p
  induction p generalizing v with
 |nil=>intro u a _ _ s M;simp at M
 |cons x r Y =>
   intro u a h e s M;obtain⟨h1,h2,⟨h3,b,G,h5⟩,h6⟩:=h;have:b=a:=by rw[h2,e]at G;injection G with G;exact G.symm
   subst this;rcases vT.mp M with z|z
   ·subst z;exact⟨b,by simp,G⟩
   ·obtain⟨c,c1,c2⟩:=Y h6 h5 s z;exact⟨c,by simp;lia,c2⟩
 have keep:∀j,j ∉ p->lf L j<=lf (zd4 L p a) j:=λj hj=>by
  rw[zoc c.len h.lt nd nx,aF hj];split <;> lia
 refine⟨c.carry h B ha Z,λv W O=>?_,λk hk e=>keep _ λz=>?_,λk hk e=>keep _ λz=>?_,by rw[zr9 c.len h,aH rfl];split <;> lia,by rw[zr9 c.len h,aH rfl];split <;> lia⟩
 ·rw[zr9 c.len h,aF (λz=>O z.symm),aF (λz=>W z.symm)];lia
 ·obtain⟨b,_,_,I⟩:=h.tails B _ z;rw[e,B]at I;injection I with I;lia
 ·obtain⟨b,z1,J⟩:=ft h B _ z;have:tl E (2 * k+1)=q:=by
   unfold tl xr;rw[aF (by lia),zA];exact e
  rw[this,lev]at J;injection J with J;lia
variable {E S side:List Nat}{L f:List Int}{cap x:Nat->Int}{eu ev:Nat->Nat}{i m n s:Nat}{lv:List (Nat×Nat)}
abbrev Ar:=Nat×Nat×Int
def dAr(a:Ar):D:=.tuple [nI a.1,nI a.2.1,.int a.2.2]
def zt6(A:List Ar):List Nat:=A.flatMap λa=>[a.2.1,a.1]
def zra(A:List Ar)(f:List Int):List Int:=(A.zip f).flatMap λx=>[x.1.2.2 - x.2,x.2]
theorem zss(A:List Ar)(a:Ar):zt6 (A++[a])=zt6 A++[a.2.1,a.1]:=by simp[zt6]
theorem zl61{X:List Nat}(h:s < E.length):hd (E++X) s=hd E s:=by
 unfold hd;rw[v4,v4,wP h]
theorem zjj1{x y:Nat}(h:E.length=2 * m):hd (E++[x,y]) (2 * m)=x/\hd (E++[x,y]) (2 * m+1)=y:=by
 unfold hd;constructor
 ·rw[v4,wO (by lia),h];simp
 ·rw[v4,wO (by lia),h];simp
theorem Net.nil(n:Nat):Net n 0 [] (vY n []):=⟨rfl,λs q=>by lia,by simp,(λv l h s q=>by
 rw[xO]at h;split at h
 ·cases h;simp at q
 ·cases h),λs q=>by lia⟩
theorem Net.push{S:List (List Nat)}{u v:Nat}{G J:List Nat}(N:Net n m E S)(O:u < n)(M:v < n)(h1:S[u]?=some G)(Z:(S.set u (G++[2 * m]))[v]?=some J) :
  Net n (m+1) (E++[v,u]) ((S.set u (G++[2 * m])).set v (J++[2 * m+1])):=by
 obtain⟨e1,e2⟩:=zjj1 (x:=v) (y:=u) N.lE;have x1:xr (2 * m)=2 * m+1:=by unfold xr;rw[aH (by lia)]
 have x2:xr (2 * m+1)=2 * m:=by unfold xr;rw[aF (by lia)];lia
 have old:∀s,s < 2 * m->tl (E++[v,u]) s=tl E s:=λs q=>zl61 (by rw[N.lE];exact zfb1 q);have Y:tl (E++[v,u]) (2 * m)=u:=by unfold tl;rw[x1];exact e2
 have W:tl (E++[v,u]) (2 * m+1)=v:=by unfold tl;rw[x2];exact e1
 have A1:∀(w:Nat) l,(S.set u (G++[2 * m]))[w]?=some l->∀s∈l,(s < 2 * m/\tl E s=w) \/ (s=2 * m/\w=u):=λw l h s q=>by
  by_cases z:u=w
  ·subst z;rw[xN (by rw[N.lS];exact O)]at h;cases h;rcases vX.mp q with y|y
   ·exact .inl (N.s1 u G h1 s y)
   ·simp at y;exact .inr ⟨y,rfl⟩
  ·rw[xX z]at h;exact .inl (N.s1 w l h s q)
 have B1:∀s,s < 2 * m->∃l,(S.set u (G++[2 * m]))[tl E s]?=some l/\s∈l:=λs q=>by
  obtain⟨l,B,I⟩:=N.s2 s q;by_cases z:u=tl E s
  ·rw[<- z]at B ⊢;rw[h1]at B;cases B;exact⟨_,xN (by rw[N.lS];exact O),by simp[I]⟩
  ·exact⟨l,by rw[xX z];exact B,I⟩
 have B2:∃l,(S.set u (G++[2 * m]))[u]?=some l/\2 * m∈l:=⟨_,xN (by rw[N.lS];exact O),by simp⟩
 have B3:∀(w s:Nat),(∃l,(S.set u (G++[2 * m]))[w]?=some l/\s∈l)->∃l,((S.set u (G++[2 * m])).set v (J++[2 * m+1]))[w]?=some l/\s∈l:=λw s ⟨l,B,I⟩=>by
  by_cases z:v=w
  ·subst z;rw[Z]at B;cases B;exact⟨_,xN (by rw[wK,N.lS];exact M),by simp[I]⟩
  ·exact⟨l,by rw[xX z];exact B,I⟩
 refine⟨by rw[vW,N.lE];simp;lia,λs q=>?_,by rw[wK,wK];exact N.lS,λw l h s q=>?_,λs q=>?_⟩
 ·by_cases z:s < 2 * m
  ·rw[zl61 (by rw[N.lE];exact z)];exact N.bE s z
  ·have:s=2 * m \/ s=2 * m+1:=by lia
   rcases this with y|y
   ·rw[y,e1];exact M
   ·rw[y,e2];exact O
 ·have key:(s < 2 * m/\tl E s=w) \/ (s=2 * m/\w=u) \/ (s=2 * m+1/\w=v):=by
   by_cases z:v=w
   ·subst z;rw[xN (by rw[wK,N.lS];exact M)]at h;cases h;rcases vX.mp q with y|y
    ·rcases A1 v J Z s y with k|k
     ·exact .inl k
     ·exact .inr (.inl k)
    ·simp at y;exact .inr (.inr ⟨y,rfl⟩)
   ·rw[xX z]at h;rcases A1 w l h s q with k|k
    ·exact .inl k
    ·exact .inr (.inl k)
  rcases key with⟨B,I⟩|⟨rfl,rfl⟩|⟨rfl,rfl⟩
  ·exact⟨by lia,by rw[old s B];exact I⟩
  ·exact⟨by lia,Y⟩
  ·exact⟨by lia,W⟩
 ·by_cases z:s < 2 * m
  ·rw[old s z];exact B3 _ _ (B1 s z)
  ·have:s=2 * m \/ s=2 * m+1:=by lia
   rcases this with y|y
   ·subst y;rw[Y];exact B3 _ _ B2
   ·subst y;rw[W];exact⟨_,xN (by rw[wK,N.lS];exact M),by simp⟩
theorem zcf:∀{A:List Ar}{f:List Int},f.length=A.length->(zra A f).length=2 * A.length
|[],f,h=>by simp[zra]
|a :: r,[],h=>by simp at h
|a :: r,x :: f,h=>by have:=zcf (A:=r) (f:=f) (by simpa using h);simp[zra]at this ⊢;lia
theorem zia:∀{A:List Ar}{f:List Int}{k:Nat}{a:Ar}{x:Int},A[k]?=some a->f[k]?=some x->lf (zra A f) (2 * k)=a.2.2 - x/\lf (zra A f) (2 * k+1)=x
|[],f,k,a,x,h,_=>by simp at h
|b :: r,[],k,a,x,_,h=>by simp at h
|b :: r,y :: f,0,a,x,q,h2=>by simp at q h2;subst q;subst h2;simp[zra,lf]
|b :: r,y :: f,k+1,a,x,q,h2=>by
  have:=zia (A:=r) (f:=f) (k:=k) (by simpa using q) (by simpa using h2);rw[show 2 * (k+1)=2 * k+1+1 by lia];simp[zra,lf]at this ⊢;exact this
theorem zif:∀{A:List Ar}{k:Nat}{a:Ar},A[k]?=some a->hd (zt6 A) (2 * k)=a.2.1/\hd (zt6 A) (2 * k+1)=a.1
|[],k,a,h=>by simp at h
|b :: r,0,a,h=>by simp at h;subst h;simp[zt6,hd]
|b :: r,k+1,a,h=>by
  have:=zif (A:=r) (k:=k) (by simpa using h);rw[show 2 * (k+1)=2 * k+1+1 by lia];simp[zt6,hd]at this ⊢;exact this
def zc9(A:List Ar)(k:Nat):Int:=((A[k]?).map λa=>a.2.2).getD 0
theorem zeu{A:List Ar}(hl:f.length=A.length)(hf:∀(k:Nat) a x,A[k]?=some a->f[k]?=some x->0<=x/\x<=a.2.2):Cap A.length (zc9 A) (zra A f):=by
 have get:∀k,k < A.length->∃a x,A[k]?=some a/\f[k]?=some x:=λk I=>⟨A[k],f[k],u4 _,u4 _⟩
 refine⟨zcf hl,λs J=>?_,λk I=>?_⟩
 ·obtain⟨a,x,q,u⟩:=get (s / 2) (by lia);obtain⟨G,B⟩:=zia q u;have:=hf _ a x q u;rcases Nat.mod_two_eq_zero_or_one s with z|z
  ·rw[show s=2 * (s / 2) by lia,G];lia
  ·rw[show s=2 * (s / 2)+1 by lia,B];lia
 ·obtain⟨a,x,q,u⟩:=get k I;obtain⟨G,B⟩:=zia q u;rw[G,B,zc9,q];simp
theorem zl11(h:L.length=2 * m):zwp (L.map u6) (some 1) none (some 2)=(u3 m).map λk=>.int (lf L (2 * k+1)):=by
 unfold zwp;rw[u5,h];have I:bQ (some 1) none (some 2) (2 * m)=(max 0 (min (1:Int) ((2 * m:Nat):Int)),((2 * m:Nat):Int),2):=by
  unfold bQ;rfl
 rw[I];show uaI _ (gF (max 0 (min (1:Int) ((2 * m:Nat):Int))) ((2 * m:Nat):Int) 2)=_;have G:gF (max 0 (min (1:Int) ((2 * m:Nat):Int))) ((2 * m:Nat):Int) 2=(u3 m).map λk=>2 * k+1:=by
  unfold gF;cases m with
 |zero=>rfl
 |succ m =>
   have B:max 0 (min (1:Int) ((2 * (m+1):Nat):Int))=1:=by lia
   rw[B];have:(if(2:Int) > 0 then(if(1:Int) < ((2 * (m+1):Nat):Int)then(((2 * (m+1):Nat):Int) - 1+2 - 1) / 2 else 0)else(if(1:Int) > ((2 * (m+1):Nat):Int)then(1 - ((2 * (m+1):Nat):Int) - 2 - 1) / (-2)else 0))=((m+1:Nat):Int):=by
    rw[aH (by decide),aH (by lia)];lia
   simp only[this];rw[v6];refine x6 λk q=>?_;lia
 rw[G,uaV];have:∀l:List Nat,(∀k∈l,k < m)->uaI ((λx=>(L.map u6)[x]?) ∘ λk=>2 * k+1) l=l.map λk=>u6 (lf L (2 * k+1)):=by
  intro l
  induction l with
 |nil=>intro _;rfl
 |cons k r u =>
   intro q;have J:=q k (by simp);have e:(L.map u6)[2 * k+1]?=some (.int (lf L (2 * k+1))):=by
    rw[u8];unfold lf;rw[v4,u4 (by lia)];rfl
   rw[xK];simp only[Function.comp];rw[e];simp only[v9];congr 1;exact u λx z=>q x (by simp[z])
 exact this _ λk q=>u9.mp q
theorem zl81{S:List (List Nat)}{v:Nat}{l:List Nat}(h:S[v]?=some l):l.length<=szT S:=by
 have:=zwb [] h;simp at this;lia
theorem zs81(i:Nat):CMul 2 (i:Int):=by
 unfold CMul;exact .inl (by decide)
theorem zpo:∀{A:List Ar}{f:List Int}{a:Ar}{x:Int},f.length=A.length->zra (A++[a]) (f++[x])=zra A f++[a.2.2 - x,x]:=by
 intro A f a x h;unfold zra;rw[zB h.symm,z7];rfl
structure Best(n:Nat)(A:List Ar)(f:List Int)(src snk:Nat)(L:List Int)(side:List Nat):Prop where
 up:Up A.length (zc9 A) (zt6 A) (zra A f) L src snk
 inn:src∈side
 out:snk ∉ side
 bd:∀v∈side,v < n
 ris:side.Pairwise (· < ·)
 cl:∀s,s < 2 * A.length->0 < lf L s->tl (zt6 A) s∈side->hd (zt6 A) s∈side
 rc:∃lv,Lev n A.length (zt6 A) L src lv/\∀v,v∈side ↔ (lkp lv v).isSome=true
theorem zt91{v:Nat}:(lkp lv v).isSome=true ↔ v∈lv.map (·.1):=by
 constructor
 ·intro h;obtain⟨b,q⟩:=xR.mp h;exact zZ (f:=(·.1)) (zto q)
 ·intro h;cases e:lkp lv v with
 |some b=>rfl
 |none=>exact aL h (zci e)
theorem zd91{A:List Ar}{src I:Nat}(up:Up A.length (zc9 A) (zt6 A) (zra A f) L src I)(M:Lev n A.length (zt6 A) L src lv)(ht:(lkp lv I).isSome=false)
  {ns:List Int} (Y:ns.Perm (lv.map λp=>((p.1:Nat):Int))) (hs:ns.Pairwise (·<=·)):∃side:List Nat,ns.map u6=side.map nI/\Best n A f src I L side:=by
 have u:∀x∈ns,∃p∈lv,x=((p.1:Nat):Int):=λx B=>by
  obtain⟨p,G,O⟩:=vV.mp (Y.mem_iff.mp B);exact⟨p,G,O.symm⟩
 refine⟨ns.map Int.toNat,?_,?_⟩
 ·rw[wE];refine x6 λx B=>?_;obtain⟨p,_,rfl⟩:=u x B;simp[nI]
 have q:∀v,v∈ns.map Int.toNat ↔ (lkp lv v).isSome=true:=λv=>by
  rw[zt91];constructor
  ·intro h;obtain⟨x,B,rfl⟩:=vV.mp h;obtain⟨p,J,rfl⟩:=u x B;rw[v6];exact zZ (f:=(·.1)) J
  ·intro h;obtain⟨p,J,rfl⟩:=vV.mp h;refine vV.mpr ⟨((p.1:Nat):Int),Y.mem_iff.mpr (vV.mpr ⟨p,J,rfl⟩),v6 _⟩
 have nd:ns.Nodup:=by
  refine Y.nodup_iff.mpr ?_;have G:=M.nd;have:(lv.map λp=>((p.1:Nat):Int))=(lv.map (·.1)).map λx=>((x:Nat):Int):=by rw[wE];rfl
  rw[this];exact G.map (λx:Nat=>(x:Int)) (λa b hne z=>hne (by exact_mod_cast z))
 refine⟨up,(q _).mpr (by rw[M.l0];rfl),(λz=>by rw[(q _).mp z]at ht;cases ht),λv Z=>?_,?_,λs G O W=>(q _).mpr (M.cl s G O ((q _).mp W)),lv,M,q⟩
 ·obtain⟨b,hb⟩:=xR.mp ((q v).mp Z);exact M.bd _ (zto hb)
 ·have key:∀(l:List Int),l.Pairwise (·<=·)->l.Nodup->(∀x∈l,0<=x)->(l.map Int.toNat).Pairwise (· < ·):=by
   intro l
   induction l with
  |nil=>intros;exact .nil
  |cons x r ih =>
    intro G O W;obtain⟨a1,a2⟩:=z8.mp G;obtain⟨b1,b2⟩:=v5.mp O;refine z8.mpr ⟨λy hy=>?_,ih a2 b2 λz hz=>W z (by simp[hz])⟩;obtain⟨z,hz,rfl⟩:=vV.mp hy;have c1:=a1 z hz;have c2:x≠z:=λe=>b1 (e ▸ hz);have c3:=W x (by simp);lia
  exact key ns hs nd λx B=>by obtain⟨p,_,rfl⟩:=u x B;lia
def sm(m:Nat)(g:Nat->Int):Int:=((u3 m).map g).sum
theorem zo4(m:Nat)(g:Nat->Int):sm (m+1) g=sm m g+g m:=by
 unfold sm;rw[xZ,wH,y9];simp
theorem zc1{g h:Nat->Int}(e:∀k,k < m->g k=h k):sm m g=sm m h:=by
 unfold sm;rw[x6 λk q=>e k (u9.mp q)]
theorem zwv(g h:Nat->Int):∀m,sm m (λk=>g k+h k)=sm m g+sm m h
|0=>rfl
|m+1=>by rw[zo4,zo4,zo4,zwv g h m];lia
theorem zuj(g h:Nat->Int):∀m,sm m (λk=>g k - h k)=sm m g - sm m h
|0=>rfl
|m+1=>by rw[zo4,zo4,zo4,zuj g h m];lia
theorem zs2:∀m,sm m (λ_=>0)=0
|0=>rfl
|m+1=>by rw[zo4,zs2 m];rfl
theorem znw{g h:Nat->Int}:∀{m:Nat},(∀k,k < m->g k<=h k)->sm m g<=sm m h
|0,_=>xP _
|m+1,e=>by
  rw[zo4,zo4];have:=znw (m:=m) λk q=>e k (by lia);have:=e m (by lia);lia
theorem zmd{g h:Nat->Int}:∀{m:Nat},(∀k,k < m->g k<=h k)->sm m g=sm m h->∀k,k < m->g k=h k
|0,_,_,k,u=>by lia
|m+1,e,q,k,u=>by
  rw[zo4,zo4]at q;have a:=znw (m:=m) λk u=>e k (by lia);have b:=e m (by lia);by_cases z:k=m
  ·subst z;lia
  ·exact zmd (m:=m) (λk u=>e k (by lia)) (by lia) k (by lia)
theorem zxv{j:Nat}(d:Int):∀{m:Nat},j < m->sm m (λk=>if k=j then d else 0)=d
|0,h=>by lia
|m+1,h=>by
  rw[zo4];by_cases z:m=j
  ·subst z;rw[aH rfl,zc1 (h:=λ_=>0) λk q=>aF (by lia),zs2];lia
  ·rw[zxv d (m:=m) (by lia),aF z];lia
def trm(u v:Nat)(x:Int)(w:Nat):Int:=(if v=w then x else 0) - (if u=w then x else 0)
def bl(m:Nat)(eu ev:Nat->Nat)(x:Nat->Int)(w:Nat):Int:=sm m λk=>trm (eu k) (ev k) (x k) w
def flux(m:Nat)(eu ev:Nat->Nat)(x:Nat->Int)(side:List Nat):Int:=sm m λk=>(if ev k∈side then x k else 0) - (if eu k∈side then x k else 0)
theorem zda(m:Nat)(eu ev:Nat->Nat)(x:Nat->Int):∀{side:List Nat},side.Nodup->flux m eu ev x side=(side.map (bl m eu ev x)).sum
|[],_=>by
  unfold flux;rw[zc1 (h:=λ_=>0) λk _=>by simp,zs2];rfl
|w :: r,h=>by
  obtain⟨u,q⟩:=v5.mp h;rw[v9,x8,<- zda m eu ev x q];unfold bl flux;rw[<- zwv];refine zc1 λk _=>?_;unfold trm;have a:∀z:Nat,(if z∈w :: r then x k else 0)=(if z=w then x k else 0)+(if z∈r then x k else 0):=λz=>by
   by_cases e:z=w
   ·subst e;simp[u]
   ·simp[e]
  rw[a,a];lia
theorem zgl{g:Nat->Int}{s:Nat}:∀{side:List Nat},side.Nodup->s∈side->(∀w∈side,w≠s->g w=0)->(side.map g).sum=g s
|[],_,h,_=>by simp at h
|w :: r,nd,h,z=>by
  obtain⟨O,M⟩:=v5.mp nd;rw[v9,x8];by_cases e:w=s
  ·subst e;have:∀l:List Nat,(∀y∈l,g y=0)->(l.map g).sum=0:=by
    intro l
    induction l with
   |nil=>intro _;rfl
   |cons y t G=>intro k;rw[v9,x8,k y (by simp),G λu I=>k u (by simp[I])];rfl
   rw[this r λy B=>z y (by simp[B]) λq=>O (q ▸ B)];lia
  ·have J:s∈r:=by
    rcases vT.mp h with q|q
    ·exact aL q.symm e
    ·exact q
   rw[zgl M J λy B=>z y (by simp[B]),z w (by simp) e];lia
theorem zct{t:Nat}(nd:side.Nodup)(z:s∈side)(u:t ∉ side)(h:∀w,w≠s->w≠t->bl m eu ev x w=0):bl m eu ev x s=flux m eu ev x side:=by
 rw[zda m eu ev x nd,zgl nd z λw hw B=>h w B λq=>u (q ▸ hw)]
def tight(m:Nat)(eu ev:Nat->Nat)(cap x:Nat->Int)(side:List Nat):Prop:=∀k,k < m->(eu k∈side->ev k ∉ side->x k=cap k)/\(ev k∈side->eu k ∉ side->x k=0)
def within(m:Nat)(cap x:Nat->Int):Prop:=∀k,k < m->0<=x k/\x k<=cap k
theorem zuw{y:Nat->Int}(G:tight m eu ev cap x side)(B:within m cap y):flux m eu ev x side<=flux m eu ev y side:=by
 refine znw λk z=>?_;obtain⟨a,b⟩:=G k z;obtain⟨c,d⟩:=B k z;by_cases u:ev k∈side
 ·by_cases q:eu k∈side
  ·simp only[aH u,aH q];lia
  ·simp only[aH u,aF q,b u q];lia
 ·by_cases q:eu k∈side
  ·simp only[aF u,aH q,a q u];lia
  ·simp only[aF u,aF q];lia
theorem ztr(z:tight m eu ev cap x side):flux m eu ev x side=- sm m λk=>if eu k∈side/\ev k ∉ side then x k else 0:=by
 have:flux m eu ev x side=sm m λk=>0 - (if eu k∈side/\ev k ∉ side then x k else 0):=by
  refine zc1 λk B=>?_;obtain⟨a,b⟩:=z k B;by_cases u:ev k∈side
  ·by_cases q:eu k∈side
   ·simp[u,q]
   ·simp[u,q,b u q]
  ·by_cases q:eu k∈side
   ·simp[u,q]
   ·simp[u,q]
 rw[this,zuj,zs2];lia
def aU(A:List Ar)(k:Nat):Nat:=((A[k]?).map λa=>a.1).getD 0
def aV(A:List Ar)(k:Nat):Nat:=((A[k]?).map λa=>a.2.1).getD 0
theorem zpv{A:List Ar}(w:Nat):bal A.length (zt6 A) L w=bl A.length (aU A) (aV A) (λk=>lf L (2 * k+1)) w:=by
 show sm _ _=sm _ _;refine zc1 λk q=>?_;have ga:A[k]?=some A[k]:=u4 q;obtain⟨z,u⟩:=zif ga;unfold term trm aU aV;rw[z,u,ga];rfl
theorem zw5{l:List Nat}(h:l.Pairwise (· < ·)):l.Nodup:=h.imp λh=>by lia
theorem Best.tight{n:Nat}{A:List Ar}{f L:List Int}{src B:Nat}{side:List Nat}(b:Best n A f src B L side):tight A.length (aU A) (aV A) (zc9 A) (λk=>lf L (2 * k+1)) side:=λk G=>by
 have ga:A[k]?=some A[k]:=u4 G;obtain⟨J,I⟩:=zif ga;have s1:=b.up.cap.sm k G;have W:=b.up.cap.nn (2 * k) (by lia);have n2:=b.up.cap.nn (2 * k+1) (by lia);have x1:xr (2 * k)=2 * k+1:=by unfold xr;rw[aH (by lia)]
 have x2:xr (2 * k+1)=2 * k:=by unfold xr;rw[aF (by lia)];lia
 have O:aU A k=A[k].1:=by unfold aU;rw[ga];rfl
 have M:aV A k=A[k].2.1:=by unfold aV;rw[ga];rfl
 rw[O,M];refine⟨λu q=>?_,λu q=>?_⟩
 ·by_cases z:0 < lf L (2 * k)
  ·have:=b.cl (2 * k) (by lia) z (by unfold tl;rw[x1,I];exact u);rw[J]at this;exact aL this q
  ·show lf L (2 * k+1)=_;lia
 ·by_cases z:0 < lf L (2 * k+1)
  ·have:=b.cl (2 * k+1) (by lia) z (by unfold tl;rw[x2,J];exact u);rw[I]at this;exact aL this q
  ·show lf L (2 * k+1)=_;lia
theorem Best.within{n:Nat}{A:List Ar}{f L:List Int}{src q:Nat}{side:List Nat}(b:Best n A f src q L side):within A.length (zc9 A) (λk=>lf L (2 * k+1)):=λk u=>by
 have s1:=b.up.cap.sm k u;have z:=b.up.cap.nn (2 * k) (by lia);have n2:=b.up.cap.nn (2 * k+1) (by lia);show 0<=lf L (2 * k+1)/\lf L (2 * k+1)<=_;lia
abbrev Pr:=Nat×Nat
def pU(P:List Pr)(k:Nat):Nat:=((P[k]?).map λa=>a.1).getD 0
def pV(P:List Pr)(k:Nat):Nat:=((P[k]?).map λa=>a.2).getD 0
def fx(f:List Int)(k:Nat):Int:=(f[k]?).getD 0
def nb(P:List Pr)(f:List Int)(w:Nat):Int:=bl P.length (pU P) (pV P) (fx f) w
theorem zt01(u v w:Nat):trm u v 0 w=0:=by unfold trm;simp
theorem zg6{κ:Type}[DecidableEq κ](p:κ×D)(r:List (κ×D))(k:κ):getA (p :: r) k=if p.1=k then some p.2 else getA r k:=by
 unfold getA;rw[yC];by_cases e:p.1=k
 ·simp[e]
 ·simp[e]
theorem zo51(h:∀x∈f,0<=x)(k:Nat):0<=fx f k:=by
 unfold fx;cases e:f[k]? with
|none=>exact xP _
|some x=>exact h x (wJ e)
theorem zrv(v:Nat):∀l:List Nat,(l.map nI).any (λy=>eqF y (nI v))=decide (v∈l)
|[]=>rfl
|x :: r=>by
  rw[v9,xY,zrv v r];have:eqF (nI x) (nI v)=decide (x=v):=by
   show decide ((x:Int)=(v:Int))=decide (x=v);exact decide_eq_decide.mpr (by lia)
  rw[this];by_cases h:x=v
  ·subst h;simp
  ·have:¬v=x:=λy=>h y.symm;simp[h,this]
theorem zzr(l:List Nat):(l.map nI).all zwc=true:=by
 rw[List.all_map];simp[zwc,nI]
theorem zlt{α:Type}(p:α->Prop)[DecidablePred p](x:α->Int):∀l:List α,∃xs,zpd (l.filterMap λa=>if p a then some (.int (x a))else none)=some xs/\xs.sum=(l.map λa=>if p a then x a else 0).sum
|[]=>⟨[],rfl,rfl⟩
|a :: r=>by
  obtain⟨xs,u,q⟩:=zlt p x r;rw[xK,v9,x8];by_cases h:p a
  ·simp only[aH h];refine⟨x a :: xs,?_,by rw[x8,q]⟩;show(zpd _).map (x a :: ·)=_;rw[u];rfl
  ·simp only[aF h];exact⟨xs,u,by rw[q];lia⟩
theorem zwm{A:List Ar}(h:f.length=A.length):A.zip f=(u3 A.length).map λk=>((aU A k,aV A k,zc9 A k),fx f k):=by
 refine yX (by rw[z9,u5,wT];lia) λj z B=>?_;rw[z9]at z;have u:j < A.length:=by lia
 have q:j < f.length:=by lia
 rw[List.getElem_zip,uaN,ua3];unfold aU aV zc9 fx;rw[u4 u,u4 q];rfl
theorem zgz(m:Nat)(eu ev:Nat->Nat)(x:Nat->Int)(w:Nat):bl m eu ev x w=sm m (λk=>if ev k=w then x k else 0) - sm m (λk=>if eu k=w then x k else 0):=by
 unfold bl trm;rw[zuj]
theorem zmr{A:List Ar}(v:Nat):bal A.length (zt6 A) (zra A (vY A.length 0)) v=0:=by
 rw[zpv];unfold bl;rw[zc1 (h:=λ_=>0) λk q=>?_,zs2];have e:=(zia (A:=A) (f:=vY A.length 0) (k:=k) (a:=A[k]) (x:=0) (u4 q) (by rw[xO,aH q])).2;show trm _ _ (lf (zra A (vY A.length 0)) (2 * k+1)) v=0;rw[e,zt01]
theorem Best.bal{n:Nat}{A:List Ar}{f L:List Int}{src q:Nat}{side:List Nat}(b:Best n A f src q L side)(hf:f.length=A.length)(h:∀w,w≠src->w≠q->_5.bl A.length (aU A) (aV A) (fx f) w=0):∀v,v≠src->v≠q->_5.bal A.length (zt6 A) L v=0:=λv z u=>by
 rw[b.up.eqb v z u,zpv];rw[show _5.bl A.length (aU A) (aV A) (λk=>lf (zra A f) (2 * k+1)) v=_5.bl A.length (aU A) (aV A) (fx f) v from zc1 λk G=>?_]
 ·exact h v z u
 ·have ga:A[k]?=some A[k]:=u4 G;have B:f[k]?=some f[k]:=u4 (by lia);have e:=(zia ga B).2;show trm _ _ (lf (zra A f) (2 * k+1)) v=_;rw[e];unfold fx;rw[B];rfl
theorem zo81{A:List Ar}(hf:f.length=A.length){k:Nat}(u:k < A.length):lf (zra A f) (2 * k+1)=fx f k:=by
 have ga:A[k]?=some A[k]:=u4 u;have q:f[k]?=some f[k]:=u4 (by lia);rw[(zia ga q).2];unfold fx;rw[q];rfl
theorem zpi(g:Nat->Int)(a:Nat):∀b,sm (a+b) g=sm a g+sm b λj=>g (a+j)
|0=>by simp[sm]
|b+1=>by rw[<- kP,zo4,zo4,zpi g a b];lia
def tA(fl:List Int)(ps:List (Nat×Nat))(ws:List Int)(W:Int):List Ar :=
 (u3 fl.length).map (λi=>(0,2+i,fx fl i))++ps.map (λp=>(2+p.1,2+p.2,W))++(u3 ws.length).map (λi=>(2+i,1,fx ws i))
theorem zse(fl:List Int)(ps:List (Nat×Nat))(ws:List Int)(W:Int):(tA fl ps ws W).length=fl.length+ps.length+ws.length:=by simp[tA,kP]
section
variable {fl:List Int}{ps:List (Nat×Nat)}{ws:List Int}{W:Int}
theorem tA1(h:i < fl.length):(tA fl ps ws W)[i]?=some (0,2+i,fx fl i):=by
 unfold tA;rw[wD,wP (by simpa using h),u8,xI h];rfl
theorem tA2{j:Nat}{p:Nat×Nat}(h:ps[j]?=some p):(tA fl ps ws W)[fl.length+j]?=some (2+p.1,2+p.2,W):=by
 have q:=(wI.mp h).1;unfold tA;rw[wD,wO (by simp),u5,wT,k6,wP (by simpa using q),u8,h];rfl
theorem tA3(h:i < ws.length):(tA fl ps ws W)[fl.length+ps.length+i]?=some (2+i,1,fx ws i):=by
 unfold tA;rw[wO (by simp),vW,u5,wT,u5,k6,u8,xI h];rfl
theorem zyt{A:List Ar}{k:Nat}{a:Ar}(h:A[k]?=some a):aU A k=a.1/\aV A k=a.2.1/\zc9 A k=a.2.2:=by
 unfold aU aV zc9;rw[h];exact⟨rfl,rfl,rfl⟩
theorem zhg1(hw:ws.length=fl.length)(φ:Nat->Nat->Nat->Int):sm (tA fl ps ws W).length (λk=>φ (aU (tA fl ps ws W) k) (aV (tA fl ps ws W) k) k) =
  sm fl.length (λi=>φ 0 (2+i) i)+sm ps.length (λj=>φ (2+pU ps j) (2+pV ps j) (fl.length+j))+sm fl.length (λi=>φ (2+i) 1 (fl.length+ps.length+i)):=by
 rw[zse,zpi,zpi];congr 1
 ·congr 1
  ·refine zc1 λi hi=>?_;obtain⟨u,q,_⟩:=zyt (tA1 (ps:=ps) (ws:=ws) (W:=W) hi);rw[u,q]
  ·refine zc1 λj z=>?_;obtain⟨u,q,_⟩:=zyt (tA2 (fl:=fl) (ws:=ws) (W:=W) (u4 z));show φ _ _ _=_;rw[u,q];unfold pU pV;rw[u4 z];rfl
 ·rw[hw];refine zc1 λi hi=>?_;obtain⟨u,q,_⟩:=zyt (tA3 (fl:=fl) (ps:=ps) (W:=W) (i:=i) (by lia:i < ws.length));show φ _ _ _=_;rw[u,q]
theorem zh31(g:Nat->Int)(nd:S.Nodup)(q:∀v∈S,v < n):sm n (λi=>if i∈S then g i else 0)=(S.map g).sum:=by
 induction S with
|nil=>simp[zs2]
|cons v r z =>
  obtain⟨I,G⟩:=v5.mp nd;rw[v9,x8,<- z G λu B=>q u (by simp[B]),<- zxv (j:=v) (g v) (q v (by simp)),<- zwv];refine zc1 λi hi=>?_;by_cases e:i=v
  ·subst e;simp[I]
  ·simp[e]
structure Cut(fl:List Int)(ps:List (Nat×Nat))(ws:List Int)(W:Int)(x:Nat->Int):Prop where
 lw:ws.length=fl.length
 bp:∀p∈ps,p.1 < fl.length/\p.2 < fl.length
 wi:within (tA fl ps ws W).length (zc9 (tA fl ps ws W)) x
 b0:∀w,w≠0->w≠1->bl (tA fl ps ws W).length (aU (tA fl ps ws W)) (aV (tA fl ps ws W)) x w=0
variable {x:Nat->Int}
theorem Cut.x1(c:Cut fl ps ws W x)(h:i < fl.length):0<=x i/\x i<=fx fl i:=by
 have:=c.wi i (by rw[zse];lia);rw[(zyt (tA1 h)).2.2]at this;exact this
theorem Cut.x2(c:Cut fl ps ws W x){j:Nat}(h:j < ps.length):0<=x (fl.length+j)/\x (fl.length+j)<=W:=by
 have:=c.wi (fl.length+j) (by rw[zse];lia);rw[(zyt (tA2 (u4 h))).2.2]at this;exact this
theorem Cut.x3(c:Cut fl ps ws W x)(h:i < fl.length):0<=x (fl.length+ps.length+i)/\x (fl.length+ps.length+i)<=fx ws i:=by
 have hl:=c.lw;have:=c.wi (fl.length+ps.length+i) (by rw[zse];lia);rw[(zyt (tA3 (by lia:i < ws.length))).2.2]at this;exact this
theorem Cut.flx(c:Cut fl ps ws W x)(S:List Nat):flux (tA fl ps ws W).length (aU (tA fl ps ws W)) (aV (tA fl ps ws W)) x S =
  sm fl.length (λi=>(if 2+i∈S then x i else 0) - (if 0∈S then x i else 0))+sm ps.length (λj=>(if 2+pV ps j∈S then x (fl.length+j)else 0) - (if 2+pU ps j∈S then x (fl.length+j)else 0)) +
  sm fl.length (λi=>(if 1∈S then x (fl.length+ps.length+i)else 0) - (if 2+i∈S then x (fl.length+ps.length+i)else 0)):=zhg1 c.lw λu v k=>(if v∈S then x k else 0) - (if u∈S then x k else 0)
theorem Cut.worth(c:Cut fl ps ws W x):bl (tA fl ps ws W).length (aU (tA fl ps ws W)) (aV (tA fl ps ws W)) x 0=- sm fl.length x/\bl (tA fl ps ws W).length (aU (tA fl ps ws W)) (aV (tA fl ps ws W)) x 0=- sm fl.length (λi=>x (fl.length+ps.length+i)):=by
 constructor
 ·have nd:[0].Nodup:=by simp
  rw[zct (t:=1) nd (by simp) (by simp) c.b0,c.flx];rw[zc1 (m:=fl.length) (h:=λi=>0 - x i) λi _=>by simp,zc1 (m:=ps.length) (h:=λ_=>0) λi _=>by simp,zs2];rw[zc1 (m:=fl.length) (g:=λi=>(if 1∈[0]then x (fl.length+ps.length+i)else 0) - (if 2+i∈[0]then x (fl.length+ps.length+i)else 0)) (h:=λ_=>0) λi _=>by simp,zs2,zuj,zs2];lia
 ·have nd:(0 :: (u3 fl.length).map (2+·)).Nodup:=by
   refine v5.mpr ⟨by simp,?_⟩;exact yY.map (2+·) (λa b h z=>h (by lia))
  have u:∀i,i < fl.length->2+i∈0 :: (u3 fl.length).map (2+·):=λi hi=>wC _ (vV.mpr ⟨i,u9.mpr hi,rfl⟩);have G:0∈0 :: (u3 fl.length).map (2+·):=wR;have B:1 ∉ 0 :: (u3 fl.length).map (2+·):=by simp;lia
  have mp:∀j,j < ps.length->pU ps j < fl.length/\pV ps j < fl.length:=λj q=>by
   unfold pU pV;rw[u4 q];exact c.bp _ (xE q)
  rw[zct (t:=1) nd G B c.b0,c.flx];rw[zc1 (m:=fl.length) (h:=λ_=>0) λi hi=>by rw[aH (u i hi),aH G];lia,zs2,zc1 (m:=ps.length) (h:=λ_=>0) λj q=>by rw[aH (u _ (mp j q).2),aH (u _ (mp j q).1)];lia,zs2];rw[zc1 (m:=fl.length) (h:=λi=>0 - x (fl.length+ps.length+i)) λi hi=>by rw[aF B,aH (u i hi)],zuj,zs2];lia
theorem zgr(l:List Int):l.sum=sm l.length (fx l):=by
 have:l=(u3 l.length).map (fx l):=by
  apply yE;intro j;rw[u8];by_cases h:j < l.length
  ·rw[xI h,u4 h];show some l[j]=some (fx l j);unfold fx;rw[u4 h];rfl
  ·rw[wG (by lia),wG (by simpa using h)];rfl
 unfold sm;rw[<- this]
theorem Cut.short(c:Cut fl ps ws W x)(q:- bl (tA fl ps ws W).length (aU (tA fl ps ws W)) (aV (tA fl ps ws W)) x 0=ws.sum)(nd:S.Nodup)(M:∀v∈S,v < fl.length)(cl:∀p∈ps,p.2∈S->p.1∈S) :
  (S.map λv=>fx ws v - fx fl v).sum<=0:=by
 have hl:=c.lw;rw[c.worth.2,Int.neg_neg,zgr,hl]at q;have eq:=zmd (m:=fl.length) (λi hi=>(c.x3 hi).2) q;have nd2:(S.map (2+·)).Nodup:=nd.map (2+·) (λa b h z=>h (by lia));have z:flux (tA fl ps ws W).length (aU (tA fl ps ws W)) (aV (tA fl ps ws W)) x (S.map (2+·))=0:=by
  rw[zda _ _ _ _ nd2];have:∀l:List Nat,(∀v∈l,bl (tA fl ps ws W).length (aU (tA fl ps ws W)) (aV (tA fl ps ws W)) x v=0)->(l.map (bl (tA fl ps ws W).length (aU (tA fl ps ws W)) (aV (tA fl ps ws W)) x)).sum=0:=by
   intro l
   induction l with
  |nil=>intro _;rfl
  |cons y r I=>intro k;rw[v9,x8,k y (by simp),I λu J=>k u (by simp[J])];rfl
  refine this _ λv hv=>?_;obtain⟨u,_,rfl⟩:=vV.mp hv;exact c.b0 _ (by lia) (by lia)
 have B:∀v,(2+v∈S.map (2+·)) ↔ v∈S:=λv=>by
  constructor
  ·intro h;obtain⟨u,J,e⟩:=vV.mp h;have:u=v:=by lia
   exact this ▸ J
  ·intro h;exact vV.mpr ⟨v,h,rfl⟩
 have Z:(0:Nat) ∉ S.map (2+·):=λh=>by obtain⟨u,_,e⟩:=vV.mp h;lia
 have Y:(1:Nat) ∉ S.map (2+·):=λh=>by obtain⟨u,_,e⟩:=vV.mp h;lia
 rw[c.flx]at z;have e1:sm fl.length (λi=>(if 2+i∈S.map (2+·)then x i else 0) - (if(0:Nat)∈S.map (2+·)then x i else 0))<=sm fl.length (λi=>if i∈S then fx fl i else 0):=znw λi hi=>by
  have:=c.x1 hi;rw[aF Z];by_cases h:i∈S
  ·rw[aH ((B i).mpr h),aH h];lia
  ·rw[aF (λy=>h ((B i).mp y)),aF h];lia
 have e2:sm ps.length (λj=>(if 2+pV ps j∈S.map (2+·)then x (fl.length+j)else 0) - (if 2+pU ps j∈S.map (2+·)then x (fl.length+j)else 0))<=sm ps.length (λ_=>0):=znw λj G=>by
  have:=c.x2 G;have hc:=cl ps[j] (xE G);have eu:pU ps j=ps[j].1:=by unfold pU;rw[u4 G];rfl
  have ev:pV ps j=ps[j].2:=by unfold pV;rw[u4 G];rfl
  rw[eu,ev];by_cases h:ps[j].2∈S
  ·rw[aH ((B _).mpr h),aH ((B _).mpr (hc h))];lia
  ·rw[aF (λy=>h ((B _).mp y))];split <;> lia
 have O:sm fl.length (λi=>(if(1:Nat)∈S.map (2+·)then x (fl.length+ps.length+i)else 0) - (if 2+i∈S.map (2+·)then x (fl.length+ps.length+i)else 0))=sm fl.length (λi=>0 - (if i∈S then fx ws i else 0)):=zc1 λi hi=>by
  have hq:=eq i hi;rw[aF Y];by_cases h:i∈S
  ·rw[aH ((B i).mpr h),aH h,hq]
  ·rw[aF (λy=>h ((B i).mp y)),aF h]
 rw[zs2]at e2;have O:=O.trans ((zuj (λ_=>0) (λi=>if i∈S then fx ws i else 0) fl.length).trans (by rw[zs2,zh31 _ nd M]));rw[zh31 _ nd M]at e1;have e4:(S.map λv=>fx ws v - fx fl v).sum=(S.map (fx ws)).sum - (S.map (fx fl)).sum:=by
  have:∀l:List Nat,(l.map λv=>fx ws v - fx fl v).sum=(l.map (fx ws)).sum - (l.map (fx fl)).sum:=by
   intro l
   induction l with
  |nil=>rfl
  |cons y r I=>simp only[v9,x8,I];lia
  exact this S
 lia
theorem Cut.beyond(c:Cut fl ps ws W x)(hW:fl.sum < W)(O:tight (tA fl ps ws W).length (aU (tA fl ps ws W)) (aV (tA fl ps ws W)) (zc9 (tA fl ps ws W)) x side)(h0:0∈side)(Z:1 ∉ side)(nds:side.Nodup) :
  (∀p∈ps,2+p.1∈side->2+p.2∈side)/\(- bl (tA fl ps ws W).length (aU (tA fl ps ws W)) (aV (tA fl ps ws W)) x 0≠ws.sum->0 < (((u3 fl.length).filter λv=>decide (2+v ∉ side)).map λv=>fx ws v - fx fl v).sum):=by
 have hl:=c.lw;have w1:=c.worth.1;have w2:=c.worth.2;have le1:sm fl.length x<=fl.sum:=by rw[zgr];exact znw λi hi=>(c.x1 hi).2
 have fc:=ztr O;rw[<- zct nds h0 Z c.b0]at fc;have z:sm (tA fl ps ws W).length (λk=>if aU (tA fl ps ws W) k∈side/\aV (tA fl ps ws W) k ∉ side then x k else 0)=sm fl.length (λi=>if 2+i ∉ side then x i else 0)+sm ps.length (λj=>if 2+pU ps j∈side/\2+pV ps j ∉ side then x (fl.length+j)else 0)+sm fl.length (λi=>if 2+i∈side then x (fl.length+ps.length+i)else 0):=by
  rw[zhg1 c.lw λu v k=>if u∈side/\v ∉ side then x k else 0];congr 1
  ·congr 1;exact zc1 λi hi=>by simp[h0]
  ·exact zc1 λi hi=>by simp[Z]
 rw[z]at fc;have M:∀{g:Nat->Int}{m:Nat},(∀i,i < m->0<=g i)->0<=sm m g:=λ{g m} h=>by
  have:=znw (m:=m) (g:=λ_=>0) (h:=g) h;rw[zs2]at this;exact this
 have p1:0<=sm fl.length (λi=>if 2+i ∉ side then x i else 0):=M λi hi=>by have:=c.x1 hi;split <;> lia
 have p3:0<=sm fl.length (λi=>if 2+i∈side then x (fl.length+ps.length+i)else 0):=M λi hi=>by have:=c.x3 hi;split <;> lia
 have J:∀j,j < ps.length->¬(2+pU ps j∈side/\2+pV ps j ∉ side):=λj q h=>by
  have t:=O (fl.length+j) (by rw[zse];lia);obtain⟨I,G,B⟩:=zyt (tA2 (fl:=fl) (ws:=ws) (W:=W) (u4 q));rw[I,G,B]at t;have eu:pU ps j=ps[j].1:=by unfold pU;rw[u4 q];rfl
  have ev:pV ps j=ps[j].2:=by unfold pV;rw[u4 q];rfl
  have Y:=t.1 (by rw[<- eu];exact h.1) (by rw[<- ev];exact h.2);have Y:x (fl.length+j)=W:=Y;have big:W<=sm ps.length (λj=>if 2+pU ps j∈side/\2+pV ps j ∉ side then x (fl.length+j)else 0):=by
   rw[<- zxv (j:=j) W q];exact znw λi hi=>by
    have:=c.x2 hi;by_cases e:i=j
    ·subst e;rw[aH rfl,aH h,Y];lia
    ·rw[aF e];split <;> lia
  lia
 refine⟨λp hp hu=>?_,λne=>?_⟩
 ·obtain⟨j,q,e⟩:=zY hp;have:=J j q;have eu:pU ps j=p.1:=by unfold pU;rw[u4 q,e];rfl
  have ev:pV ps j=p.2:=by unfold pV;rw[u4 q,e];rfl
  rw[eu,ev]at this;exact Classical.byContradiction λh=>this ⟨hu,h⟩
 ·have z2:sm ps.length (λj=>if 2+pU ps j∈side/\2+pV ps j ∉ side then x (fl.length+j)else 0)=0:=by
   rw[zc1 (h:=λ_=>0) λj q=>aF (J j q),zs2]
  have t1:sm fl.length (λi=>if 2+i ∉ side then x i else 0)=sm fl.length (λi=>if 2+i ∉ side then fx fl i else 0):=zc1 λi hi=>by
   by_cases h:2+i∈side
   ·simp[h]
   ·have t:=O i (by rw[zse];lia);obtain⟨I,G,B⟩:=zyt (tA1 (ps:=ps) (ws:=ws) (W:=W) hi);rw[I,G,B]at t;rw[aH h,aH h];exact t.1 h0 h
  have t3:sm fl.length (λi=>if 2+i∈side then x (fl.length+ps.length+i)else 0)=sm fl.length (λi=>if 2+i∈side then fx ws i else 0):=zc1 λi hi=>by
   by_cases h:2+i∈side
   ·have t:=O (fl.length+ps.length+i) (by rw[zse];lia);obtain⟨I,G,B⟩:=zyt (tA3 (fl:=fl) (ps:=ps) (W:=W) (i:=i) (by lia:i < ws.length));rw[I,G,B]at t;rw[aH h,aH h];exact t.1 h Z
   ·simp[h]
  have le3:sm fl.length (λi=>x (fl.length+ps.length+i))<=ws.sum:=by rw[zgr,hl];exact znw λi hi=>(c.x3 hi).2
  have tot:ws.sum=sm fl.length (λi=>if 2+i∈side then fx ws i else 0)+sm fl.length (λi=>if 2+i ∉ side then fx ws i else 0):=by
   rw[zgr,hl,<- zwv];exact zc1 λi hi=>by by_cases h:2+i∈side <;> simp[h]
  have nd:((u3 fl.length).filter λv=>decide (2+v ∉ side)).Nodup:=yY.filter _;have hb:∀v∈(u3 fl.length).filter λv=>decide (2+v ∉ side),v < fl.length:=λv hv=>u9.mp (xW.mp hv).1;rw[<- zh31 _ nd hb];have:sm fl.length (λi=>if i∈(u3 fl.length).filter λv=>decide (2+v ∉ side)then fx ws i - fx fl i else 0)=sm fl.length (λi=>(if 2+i ∉ side then fx ws i else 0) - (if 2+i ∉ side then fx fl i else 0)):=zc1 λi hi=>by
   by_cases h:2+i∈side
   ·simp[h]
   ·simp[h,hi]
  rw[this,zuj];lia
end
end _5
namespace _4
open PySem PySem.Spec PyProof.Rows _2 _3
abbrev DX:=aE->DSt->Prop
section
variable {X:Cx}{x:Str}{pos pos':Pos}{e a b:aX}{te ta tb:TE}{k j:Nat}{K:Fg}
theorem pset(i:Nat)(z:X.N.Nodup)(u:PE X e te)(hi:X.N[i]?=some x:=by rfl)(p:Loc X.env.scope x:=by walk_at"vi")(q:gY e (some (.Name x pos')) pos.line X.env=pure false:=by rfl)(hf:X.fn x=true \/ X.env.scope.names.lookup x=some .local:=by walk_at"vi"):PS X (.Assign [.Name x pos'] e pos) (tAsg te (zjw i)):=zpe1 z hi p u q hf
theorem pgn(i:Nat)(q:X.N.Nodup)(hi:X.N[i]?=some x:=by rfl)(p:Loc X.env.scope x:=by walk_at"vi")(hf:X.fn x=true \/ X.env.scope.names.lookup x=some .local:=by walk_at"vi"):PG X (.Name x pos) (zjw i):=zp71 q hi p hf
theorem pix(w:aP)(K:Fg)(hr:Room k X.A)(u:PE X a ta)(q:PE X b tb)(hw:X.w=w:=by rfl)(z:X.K=K:=by rfl)(p:zgx b:=by exact λ_ _=>rfl):PE X (.Subscript a b pos) (tOp (rIxV w K) ta tb):=zaj1 (ix_V (Room.units hr) hw z) u q p
theorem nds(l:List Str)(h:l.Nodup:=by decide +kernel):l.Nodup:=h
theorem rvi{i:Int}:RfV K (tC (.int i)) (dC (.int i)):=RfE.v zn1
theorem rgn(i:Nat)(hi:i < 100:=by decide):RfG K 100 (zjw i) (gN i):=zh1 hi
theorem rmn{A:a7}(hr:Room k A)(h:j<=k:=by decide):Room j A:=Room.mono hr h
end
end _4
namespace _5
open PySem PySem.Spec PyProof.Rows _2 _3 _4
variable {n:Nat}{s:aG}
theorem zm71:a8 "dict"=some (.type "dict"):=by decide +kernel
theorem zej:typeLookup (.type "list") "keys"=pure none:=by rw[g7,eX];kernel_rfl
theorem zae:iH l3 "dict.update.loop"=some Builtin.«dict.update.loop»:=entryFor_of_fast (by kernel_rfl)
theorem zf8:plainId "dict.update.loop"=true:=by decide +kernel
section
variable {prog:aN}{w:aP}{A:a7}{E:aA->aG->Prop}
theorem zc91{l:aE}{ob:Obj}{ys:Array aA}{Q:Option aA->aG->Prop}(B:s.heap.get? l=some ob)(z:ob.cls=.type "list")(u:ob.data=.seq ys n)(q:ob.dict=none)(I:A.handled=none)
  (k:∀g tk e,Heap.NewExcOf s.heap g e "AttributeError"->Q none { s with heap:=g,toks:=tk }):aJ (aM prog w) A (getAttr? (.ref l) "keys") Q E s:=by
 obtain⟨c,L,M,sl⟩:=ob;simp only at z u q;subst z;subst u;subst q;obtain⟨G,g,d,tk,os⟩:=s;have p:∀t',(⟨G,g,d,t',os⟩:aG).TypeIs (.ref l) "list":=λ_=>⟨_,B,rfl⟩
 have g1:=sub_AttributeError;have Z:=F.slot_list_getattribute.lookup;have Y:=F.slot_list_getattribute.bind (.ref l);have W:=am_list_getattr_none;unfold getAttr? getAttrBy? getAttrBy
 repeat (any_goals (first|assumption|exact p _|((with_reducible show aJ _ _ (call (Value.builtin "list.__getattribute__") _ _) _ _ _);refine e9 F.slot_list_getattribute (p _) am_entry_list_getattribute (F.args_list_getattribute_2 _ _) (meets_getattribute_miss_list l ys n sl "keys" _ zej (by decide +kernel)) ⟨B,I,λg' J e ne=>?_⟩)|wp_step))
 obtain⟨t',O,S⟩:=ne.there;show aJ _ _ (lA _ _ _ _ _ _ _) _ _ _;unfold lA
 repeat (any_goals (first|assumption|wp_step))
 exact k _ _ _ ne.of
end
section
variable {X:Cx}{pins:List (aE×Obj)}{Y:_2.St}{A:a7}{E:aA->aG->Prop}
theorem zyu{H H':Hp}{a:aE}{y v:V}{u r:aA}{Q:Unit->aG->Prop}(hu:A.units+1 < cM)(I:_2.Inv X pins Y H s)(g:DPut H a y v H')(S:RelV y u)(rv:RelV v r)
  (k:∀g t,bF a s.heap g->_2.Inv X pins Y H' { s with heap:=g,toks:=t }->Q () { s with heap:=g,toks:=t }):aJ (aM X.prog X.w) A.in1 (dictSet a u r) Q E s:=by
 rcases g with⟨kvs,c,e,L,l,M⟩|⟨kvs,c,b,e,L,Z,l,M⟩
 ·subst L;subst M;obtain⟨z,hd,vs,p,O⟩:=zcb1 I.hok e;refine wpAny_dictSet_pairs (hsz:=by rw[<- p.length];exact z) (ztz S) O λg B G=>k g _ G ?_;refine zuf I (by rw[e];exact True.intro) G ?_ (zj21 (by have:=zo3 kvs c v;lia) hd (p.put c rv) B);obtain⟨q,_,_,J,_⟩:=B;exact⟨q,J⟩
 ·subst L;subst M;cases (show u=v3 b from S);obtain⟨z,hd,xs,p,O⟩:=zyh1 I.hok e;refine wpAny_dictSet_heap (hsz:=by rw[<- eR p];exact z) (dQ hu) (ztl I.hok Z) O λg B G=>k g _ G ?_;obtain⟨q,es,ep,J,p2,p3,p4,_,p5⟩:=B;refine zuf I (by rw[e];exact True.intro) G ⟨q,J⟩ ⟨by have:=zo3 kvs c v;lia,hd,_,(p.put c Z rv).keeps λf ys W=>?_,q,es,ep,J,p2,p3,p4,p5⟩;rw[zd1 (zci1 W e (λz=>nomatch z))];exact W
theorem zpw(hA:A.handled=none)(hu:A.units+1 < cM){R:gJ->aG->Prop}{p l it:aE}{ys:List V}{H:Hp}{G:Nat->HO}(hq:SqL X.K H p ys)(hl:H l=none)(nl:it≠l)(L:FpOk X pins H it)
  (hG:∀(i:Nat) y,ys[i]?=some y->∃q k v,y=.ref q/\SqT X.K H q [k,v]/\DPut (upd H l (G i)) l k v (upd H l (G (i+1)))) (hR:∀s',_2.Inv X pins Y (upd H l (G ys.length)) s'->R (.ok (.ret .none)) s') :
  ∀(n i:Nat)(s:aG)(z:Int)(t:Tok),ys.length - i=n->i<=ys.length->_2.Inv X pins Y (upd H l (G i)) s->s.heap.IsListIter it p i->cP (aM X.prog X.w) A (.builtin "dict.update.loop" ⟨[.ref l,.ref it,.int z t,.none],[]⟩) R s:=by
 have W:∀o,upd H l o it=none:=λo=>by rw[zd1 nl];exact L.1
 have u:∀{i:Nat}{s:aG}{g:aT},_2.Inv X pins Y (upd H l (G i)) s->(∀b o,b≠it->s.heap.get? b=some o->g.get? b=some o)->_2.Inv X pins Y (upd H l (G i)) { s with heap:=g }:=λI kp=>I.turned (t':=_) kp (W _) L.2.1 L.2.2.2.1 L.2.2.2.2.1 L.2.2.2.2.2;intro n
 induction n with
|zero =>
  intro i s z t hn hi I O;have ei:i=ys.length:=by lia
  subst ei;obtain⟨its,rv,pl,_⟩:=I.list ((zw2 hl (G ys.length)).seq hq);have B:=rv.length;refine b6 zae ?_;rw[bU zf8 _];show aJ _ A.in1 (dU (.ref it) >>= _) _ _ s;refine aC (iC hA O pl.isList (by simp[B]) λg hx=>?_);show aJ _ _ (Builtin.Dict.addKeywords l [] >>= _) _ _ _;exact aC (aI (aI (hR _ (u I λb o M e=>hx b o M e))))
|succ n ih =>
  intro i s z t hn hi I O;have J:i < ys.length:=by lia
  obtain⟨q,kk,v,ey,sq,dp⟩:=hG i ys[i] (u4 J);obtain⟨its,rv,pl,_⟩:=I.list ((zw2 hl (G i)).seq hq);have B:=rv.length;have hlt2:i < its.length:=by lia
  obtain⟨uq,gq,rq⟩:=rv.get (u4 J);rw[ey]at rq;cases (show uq=v3 q from rq);refine b6 zae ?_;rw[bU zf8 _];show aJ _ A.in1 (dU (.ref it) >>= _) _ _ s;refine aC (hU O pl.isList (x:=.ref q) (by simpa using gq) λg Z hs=>?_);have I2:=u I λb o M e=>(hs.2 b M).trans e;obtain⟨tis,rt,tp,tz⟩:=I2.tuple (zrm (zw2 hl (G i)) sq);obtain⟨u1,u2,rfl,r1,r2⟩:=zhb1 rt;obtain⟨ob,o1,o2,o3,o4⟩:=tp;refine aC (bL ?_);refine aC (dX ?_);unfold Builtin.Dict.pairItems;refine aC (gM (T := "tuple") ⟨ob,o1,o2⟩ ?_);rw[aH (by decide)];refine aC (bN o1 o4 (aI ?_));refine bL (zyu hu I2 dp r1 r2 λg2 t2 S I3=>?_);refine aI ⟨cU zf8 _,ih (i+1) _ _ _ (by lia) J I3 ?_⟩;obtain⟨oi,j1,j2⟩:=Z;exact⟨oi,(S.2 it nl).trans j1,j2⟩
end
def zfh1(K:Fg):List V->Hp->VK->Prop:=λxs H Q=>∃p ys,∃G:Nat->HO,xs=[.ref p]/\SqL K H p ys/\(G 0=.dK [] \/ G 0=.dT []) /\
 (∀l,H l=none->∀(i:Nat) y,ys[i]?=some y->∃q k v,y=.ref q/\SqT K H q [k,v]/\DPut (upd H l (G i)) l k v (upd H l (G (i+1))))/\∀l,H l=none->Q (.ref l) (upd H l (G ys.length))
theorem zns{X:Cx}{K:Fg}(hK:X.K=K)(hc:X.calm=true)(hu:X.A.units+64 < cM):CallR X (.type "dict") (zfh1 K):=by
 subst hK;intro pins s Y H xs us Q I r hw;obtain⟨p,ys,G,rfl,M,h0,hG,q⟩:=hw;obtain⟨u,rfl,W⟩:=zwl r;cases W;have hl:H s.heap.objs.size=none:=I.hok.fresh (u7 _);have O:=I.ok.hd hc;refine callType_codes (Q₁:=λob s'=>ob=.ref s.heap.objs.size/\s'={ s with heap:=s.heap.push { cls:=.type "dict",data:=.dict #[] } }) F.kt_called_dict (F.kt_typeCall_dict_1 _) F.entry_dict_init (kt_code_dict_new _ ⟨rfl,rfl⟩) ?_;rintro ob s' ⟨rfl,rfl⟩;have S:_2.Inv X pins Y (upd H s.heap.objs.size (G 0)) { s with heap:=s.heap.push { cls:=.type "dict",data:=.dict #[] } }:=by
  rcases h0 with e|e
  ·rw[e];exact I.laid (t':=s.toks) (λ_ _ z=>vU _ z) (u7 _) (zrq s.heap I.big)
  ·rw[e];exact I.laid (t':=s.toks) (λ_ _ z=>vU _ z) (u7 _) (zd51 s.heap I.big)
 have tyD:Shared.TypeIs { s with heap:=s.heap.push { cls:=.type "dict",data:=.dict #[] } } (.ref s.heap.objs.size) "dict":=⟨_,v7 _ rfl,rfl⟩
 refine⟨tyD,F.args_dict_init_2 _ _,?_⟩;unfold Builtin.«dict.__init__»;refine aC ?_;unfold Builtin.Dict.selfAndRest;refine aC (wpAny_notOrdered_dict tyD ?_);show aJ _ _ (pure (s.heap.objs.size,[v3 p])) _ _ _;refine aI ?_;show aJ _ _ (Builtin.Dict.updateFrom "dict.__init__" s.heap.objs.size (.ref p) [] .none) _ _ _;obtain⟨its,rv,pl,_⟩:=S.list ((zw2 hl (G 0)).seq M);obtain⟨o,n,B,o2,Z,L⟩:=pl;unfold Builtin.Dict.updateFrom;refine aC (gM (T := "list") ⟨o,B,o2⟩ ?_);rw[aH (by decide)];refine aC (zc91 B o2 L Z O λg tk e ne=>?_);rw[aH (show(none:Option aA).isNone=true from rfl)];refine aC (eB ?_);have J:_2.Inv X pins Y (upd H s.heap.objs.size (G 0)) { s with heap:=g,toks:=tk }:=S.kept ne.keeps;refine aC (dS ⟨o,ne.keeps _ _ B,o2,n,L⟩ ?_);have lt:s.heap.objs.size < g.objs.size:=vZ (ne.keeps _ _ (v7 _ rfl));have fo:FpOk X pins H g.objs.size:=J.fpOk (u7 _) (by have:=J.hok.fresh (a:=g.objs.size) (u7 _);rw[zd1 (y3 lt)]at this;exact this);exact aI ⟨cU zf8 _,zpw (A:=X.A.in1) (R:=wants (λr s₂=>r=xJ/\EP X pins Y Q (v3 s.heap.objs.size) s₂) X.xe) (X:=X) (l:=s.heap.objs.size) (it:=g.objs.size) O (by show X.A.units+1+1 < cM;lia) M hl (y3 lt) fo (hG _ hl) (λs' I'=>⟨rfl,.ref _,_,I',rfl,q _ hl⟩) ys.length 0 _ _ _ (by lia) (wU _)
  (J.kept (t':=tk) λb u z=>vU _ z) ⟨_,v7 _ rfl,rfl,rfl⟩⟩
theorem za61{H:Hp}{l:aE}{a b:HO}:upd (upd H l a) l b=upd H l b:=by funext x;unfold upd;split <;> rfl
section
variable {K:Fg}{te:TE}{de:DE}
theorem zy71(k:Key):keyD (kD k)=some k:=by cases k <;> rfl
def mG{κ:Type}[DecidableEq κ](l:List (κ×V)):List (κ×V):=l.foldl (λa x=>putK a x.1 x.2) []
def mD{κ:Type}[DecidableEq κ](l:List (κ×D)):List (κ×D):=l.foldl (λa x=>putD a x.1 x.2) []
theorem zy51{κ:Type}[DecidableEq κ]{l:List (κ×V)}{i:Nat}{k:κ}{v:V}(h:l[i]?=some (k,v)):mG (l.take (i+1))=putK (mG (l.take i)) k v:=by
 unfold mG;rw[xU,h,uaO];rfl
theorem zmc1{κ:Type}[DecidableEq κ](l:List (κ×V)):(mG l).length<=l.length:=by
 have:∀(l:List (κ×V))(a:List (κ×V)),(l.foldl (λa x=>putK a x.1 x.2) a).length<=a.length+l.length:=by
  intro l
  induction l with
 |nil=>intro a;simp
 |cons x r p=>intro a;have:=p (putK a x.1 x.2);have:=zo3 a x.1 x.2;simp only[zK,xG];lia
 simpa[mG]using this l []
theorem zej1{κ:Type}[DecidableEq κ]{F:Hp}{r:List (κ×V)}{t:List (κ×D)}(h:KvIs K F r t):KvIs K F (mG r) (mD t):=by
 have:∀{r:List (κ×V)}{t:List (κ×D)},KvIs K F r t->∀{a:List (κ×V)}{b:List (κ×D)},KvIs K F a b->KvIs K F (r.foldl (λa x=>putK a x.1 x.2) a) (t.foldl (λa x=>putD a x.1 x.2) b):=by
  intro r t h
  induction h with
 |nil=>intro a b h;exact h
 |cons q _ p=>intro a b h;exact p (h.put q)
 exact this h .nil
theorem zd71{F:Hp}{v:V}{B z:D}(h:Is K F v (.tuple [B,z])):∃q u p,v=.ref q/\SqT K F q [u,p]/\Is K F u B/\Is K F p z:=by
 obtain⟨a,xs,rfl,L,J⟩:=h.tuple_inv;cases J with
|cons I r =>
  cases r with
 |cons G r=>cases r;exact⟨a,_,_,rfl,L,I,G⟩
theorem zv71{F:Hp}:∀{ys:List V}{ps:List (Key×D)},IsAll K F ys (ps.map λp=>.tuple [kD p.1,p.2])->∃u:List (Key×V),KvIs K F u ps/\u.length=ys.length/\∀(i:Nat) y,ys[i]?=some y->∃q k v,y=.ref q/\SqT K F q [kV k,v]/\u[i]?=some (k,v)
|_,[],.nil=>⟨[],.nil,rfl,λi y h=>by simp at h⟩
|_,p :: ps,.cons h r=>by
  obtain⟨u,L,J,I⟩:=zv71 r;obtain⟨q,M,z,rfl,s1,G,B⟩:=zd71 h;have:=zkm G (zy71 p.1);subst this;refine⟨(p.1,z) :: u,.cons B L,by simp[J],λi y e=>?_⟩;cases i with
 |zero=>simp at e;subst e;exact⟨q,p.1,z,rfl,s1,rfl⟩
 |succ i=>exact I i y (by simpa using e)
def zu91(de:DE):DN:=λU Q=>de U λd=>∃ps:List (Key×D),d=.list (ps.map λp=>.tuple [kD p.1,p.2])/\ps.length < sizeLine/\Q (.dk (mD ps))
theorem zrj(de:DE)(U:DSt)(Q:T->Prop):zu91 de U Q=(de U λd=>∃ps:List (Key×D),d=.list (ps.map λp=>.tuple [kD p.1,p.2])/\ps.length < sizeLine/\Q (.dk (mD ps))):=rfl
theorem zzc1{F H:Hp}{l:aE}(s:Same F H)(h:H l=none):F l=none:=by
 cases e:F l with
|none=>rfl
|some o=>rw[s l o e]at h;cases h
theorem zj31(h:RfE K te de):RfN K (tCB (zfh1 K) (zdm te tNil)) (zu91 de):=by
 walk_at"2";refine h s rv hd λd q v J I B i1=>?_;obtain⟨ps,rfl,hz,q⟩:=q;obtain⟨p,ys,rfl,h1,h2⟩:=i1.list_inv;obtain⟨u,M,k2,Z⟩:=zv71 h2;have hl:=M.len;refine⟨p,ys,λi=>.dK (mG (u.take i)),rfl,B.fh.seq h1,.inl rfl,λl G i y ey=>?_,λl G=>?_⟩
 ·obtain⟨q,L,W,rfl,s1,S⟩:=Z i y ey;have hi:=(wI.mp S).1;refine⟨q,kV L,W,rfl,zrm B.fh s1,.inl ⟨mG (u.take i),L,zq0,rfl,?_,?_⟩⟩
  ·have:=zmc1 (u.take i);rw[wW]at this;lia
  ·show upd I l (.dK (mG (u.take (i+1))))=upd (upd I l (.dK (mG (u.take i)))) l _;rw[zy51 S,za61]
 ·have fl:=zzc1 B.fh G;have e2:Ext J I J (upd I l (.dK (mG u))):=zwk B.fh G;show Q (.ref l) (upd I l (.dK (mG (u.take ys.length))));rw[<- k2,xM];refine k _ q (.ref l) J _ [l] (B.trans e2) (.dk zq0 fl (zej1 M)) (by simp) λa O=>?_;simp at O;subst O;cases z:H a with
 |none=>rfl
 |some o=>rw[B.h a o z]at G;cases G
end
section
variable {K:Fg}
def zro:List D->(D->Prop)->Prop
|[.int i,.int j],Q=>0 < j/\j < 1606938044258990275541962092341162602522202993782792835301376/\Q (.tuple [.int (i / j),.int (i % j)])
|_,_=>False
theorem zwe(i j:Int)(Q:D->Prop):zro [.int i,.int j] Q=(0 < j/\j < 1606938044258990275541962092341162602522202993782792835301376/\Q (.tuple [.int (i / j),.int (i % j)])):=rfl
theorem zq11:CB K zmx zro:=by
 intro F H vs ds Qd Q s q h k;unfold zro at h;split at h
 ·obtain⟨v,u,rfl,G,B⟩:=vw2 q;rw[G.int,B.int];refine⟨_,_,rfl,h.1,h.2.1,λp z=>?_⟩;obtain⟨e,i⟩:=zqd (K:=K) s z (.cons (.int _) (.cons (.int _) .nil));exact k _ h.2.2 _ _ _ e i
 ·exact h.elim
end
theorem zri1{α β:Type}{xs:List α}{enc:α->D}(ok:β->Prop)(p:β->D){ix:List Nat}{dg:DG}{de:DE}{U:DSt}{Q:List D->Prop}(hz:xs.length<=sizeLine)
  (h:∀x∈xs,dg (enc x) (cST n ix U) λU'=>de U' λr=>∃b,ok b/\r=p b) (q:∀bs:List β,bs.length=xs.length->(∀b∈bs,ok b)->Q (bs.map p)):zsb1 (xs.map enc) n ix dg zki de U Q:=by
 refine⟨by rw[u5];exact hz,λ_ o=>∃b,ok b/\o=some (p b),λi d e=>?_,λos hl W=>?_⟩
 ·rw[u8]at e;obtain⟨x,L,rfl⟩:=xA.mp e;have:=h x (wJ L);have Z:(λr=>∃b,ok b/\some r=some (p b))=λr=>∃b,ok b/\r=p b:=by funext r;simp
  show dg (enc x) (cST n ix U) λU'=>if true=true then de U' λr=>∃b,ok b/\some r=some (p b)else ∃b,ok b/\none=some (p b)
  rw[Z];simp only[if_true];exact this
 ·have key:∀os:List (Option D),(∀o∈os,∃b,ok b/\o=some (p b))->∃bs:List β,bs.length=os.length/\(∀b∈bs,ok b)/\os.filterMap id=bs.map p:=by
   intro os
   induction os with
  |nil=>intro _;exact⟨[],rfl,(λb S=>by simp at S),rfl⟩
  |cons o r J =>
    intro k;obtain⟨b,Y,rfl⟩:=k o (by simp);obtain⟨bs,I,G,B⟩:=J λo u=>k o (by simp[u]);refine⟨b :: bs,by simp[I],λc O=>?_,by simp[B]⟩;rcases vT.mp O with z|z
    ·rw[z];exact Y
    ·exact G c z
  obtain⟨bs,b1,b2,b3⟩:=key os λo u=>by
   obtain⟨j,M⟩:=List.mem_iff_getElem?.mp u;exact W j o M
  rw[b3];exact q bs (by rw[b1,hl,u5]) b2
variable {A:List Ar}{L f0:List Int}{eu ev:Nat->Nat}{k' m m' n w:Nat}{side:List Nat}{x:Nat->Int}
def su{α:Type}(l:List α)(f:α->Int):Int:=(l.map f).sum
section
variable {α β:Type}
theorem zs6(f:α->Int):su [] f=0:=rfl
theorem zz0(x:α)(l:List α)(f:α->Int):su (x :: l) f=f x+su l f:=by unfold su;simp
theorem zt5(l m:List α)(f:α->Int):su (l++m) f=su l f+su m f:=by unfold su;simp
theorem zm5(l:List β)(p:β->α)(f:α->Int):su (l.map p) f=su l λx=>f (p x):=by unfold su;rw[wE];rfl
theorem zt0{l:List α}{f g:α->Int}(h:∀x∈l,f x=g x):su l f=su l g:=by unfold su;rw[x6 h]
theorem zla(l:List β)(p:β->List α)(f:α->Int):su (l.flatMap p) f=su l λx=>su (p x) f:=by
 induction l with
|nil=>rfl
|cons x r q=>rw[wN,zt5,q,zz0]
theorem zwa(l:List α):su l (λ_=>0)=0:=by
 induction l with
|nil=>rfl
|cons x r p=>rw[zz0,p];rfl
theorem su_zero'{l:List α}{f:α->Int}(h:∀x∈l,f x=0):su l f=0:=by rw[zt0 h,zwa]
theorem zi9(l:List α)(f g:α->Int):su l (λx=>f x+g x)=su l f+su l g:=by
 induction l with
|nil=>rfl
|cons x r p=>rw[zz0,zz0,zz0,p];lia
theorem zjj(l:List α)(f g:α->Int):su l (λx=>f x - g x)=su l f - su l g:=by
 induction l with
|nil=>rfl
|cons x r p=>rw[zz0,zz0,zz0,p];lia
theorem zfv{l:List α}{f g:α->Int}(h:∀x∈l,f x<=g x):su l f<=su l g:=by
 induction l with
|nil=>exact xP _
|cons x r p =>
  have a:=h x wR;have b:=p λy q=>h y (wC _ q);rw[zz0,zz0];lia
theorem zbb{k:Nat}(d:Nat->Int)(h:k < n):su (u3 n) (λj=>if j=k then d j else 0)=d k:=by
 have:=zxv (j:=k) (d k) h;unfold sm at this;refine Eq.trans (zt0 λj _=>?_) this;by_cases e:j=k
 ·subst e;simp
 ·simp[e]
end
theorem zlg{F:List Int}(h:F.length=A.length)(Φ:Nat->Nat->Int->Int->Prop):(∀k,k < A.length->Φ (aU A k) (aV A k) (zc9 A k) (fx F k)) ↔ ∀p∈A.zip F,Φ p.1.1 p.1.2.1 p.1.2.2 p.2:=by
 rw[zwm h];constructor
 ·intro q p z;obtain⟨k,u,rfl⟩:=vV.mp z;exact q k (u9.mp u)
 ·intro q k u;exact q _ (vV.mpr ⟨k,u9.mpr u,rfl⟩)
theorem zau{F:List Int}(h:F.length=A.length)(φ:Nat->Nat->Int->Int):(sm A.length λk=>φ (aU A k) (aV A k) (fx F k))=su (A.zip F) λp=>φ p.1.1 p.1.2.1 p.2:=by
 rw[zwm h,zm5];rfl
structure Nt where
 N:Nat
 n:Nat
 fl:Nat->Int
 rm:Nat->Int
 P:Nat->List Nat
 U:Nat->Nat
 V:Nat->Nat
 Ln:Nat->Nat
 W:Nat->Nat->Int
structure Fm where
 a:Nat->Int
 r:Nat->Nat->Int
 g:Nat->Nat->Int
 t:List (Nat->Int)
def Nt.nd(T:Nt)(m k:Nat):Nat:=2+m * T.N+k
def Nt.arcs(T:Nt)(cs:List (Nat->Int)):List Ar :=
 (u3 T.N).map (λk=>(0,T.nd 0 k,T.fl k))++((u3 T.n).flatMap λm=>(u3 T.N).map (λk=>(T.nd m k,T.nd (m+1) k,T.rm k))++(T.P m).map λi=>(T.nd m (T.U i),T.nd (m+T.Ln i) (T.V i),T.W i m)) ++
  cs.flatMap λc=>(u3 T.N).map λk=>(T.nd T.n k,1,c k)
def Nt.flow(T:Nt)(f:Fm):List Int :=
 (u3 T.N).map f.a++((u3 T.n).flatMap λm=>(u3 T.N).map (f.r m)++(T.P m).map (f.g m))++f.t.flatMap λt=>(u3 T.N).map t
def Nt.both(T:Nt)(cs:List (Nat->Int))(f:Fm):List (Ar×Int) :=
 (u3 T.N).map (λk=>((0,T.nd 0 k,T.fl k),f.a k))++((u3 T.n).flatMap λm=>(u3 T.N).map (λk=>((T.nd m k,T.nd (m+1) k,T.rm k),f.r m k))++(T.P m).map λi=>((T.nd m (T.U i),T.nd (m+T.Ln i) (T.V i),T.W i m),f.g m i)) ++
  (cs.zip f.t).flatMap λc=>(u3 T.N).map λk=>((T.nd T.n k,1,c.1 k),c.2 k)
section
variable {T:Nt}{cs:List (Nat->Int)}{f:Fm}
theorem zjq{α β γ:Type}{p:γ->List α}{q:γ->List β}(l:List γ)(h:∀x,(p x).length=(q x).length):(l.flatMap p).length=(l.flatMap q).length:=by
 induction l with
|nil=>rfl
|cons x r u=>simp only[wN,vW,u,h]
theorem zo21{α β γ:Type}{p:γ->List α}{q:γ->List β}(l:List γ)(h:∀x,(p x).length=(q x).length):(l.flatMap p).zip (l.flatMap q)=l.flatMap λx=>(p x).zip (q x):=by
 induction l with
|nil=>rfl
|cons x r u=>rw[wN,wN,wN,zB (h x),u]
theorem zxw(n:Nat)(e:(Nat->Int)->Nat->Ar):∀(cs ts:List (Nat->Int)),cs.length=ts.length->(cs.flatMap λc=>(u3 n).map (e c)).zip (ts.flatMap λt=>(u3 n).map t)=(cs.zip ts).flatMap λc=>(u3 n).map λk=>(e c.1 k,c.2 k)
|[],[],_=>rfl
|c :: cs,t :: ts,h=>by
  rw[wN,wN,zB (by simp),ua4,wN,zxw n e cs ts (by simpa using h),k7]
theorem zxx(n:Nat)(e:(Nat->Int)->Nat->Ar):∀(cs ts:List (Nat->Int)),cs.length=ts.length->(cs.flatMap λc=>(u3 n).map (e c)).length=(ts.flatMap λt=>(u3 n).map t).length
|[],[],_=>rfl
|c :: cs,t :: ts,h=>by
  rw[wN,wN,vW,vW,zxx n e cs ts (by simpa using h)];simp
theorem Nt.len(h:cs.length=f.t.length):(T.flow f).length=(T.arcs cs).length:=by
 unfold Nt.flow Nt.arcs;rw[vW,vW,vW,vW,zxx T.N _ cs f.t h];congr 1;congr 1
 ·simp
 ·exact zjq _ λm=>by simp
theorem Nt.zip(h:cs.length=f.t.length):(T.arcs cs).zip (T.flow f)=T.both cs f:=by
 unfold Nt.flow Nt.arcs Nt.both;have u:((u3 T.N).map λk=>((0,T.nd 0 k,T.fl k):Ar)).length=((u3 T.N).map f.a).length:=by simp
 have B:=zjq (p:=λm=>(u3 T.N).map (λk=>((T.nd m k,T.nd (m+1) k,T.rm k):Ar))++(T.P m).map λi=>(T.nd m (T.U i),T.nd (m+T.Ln i) (T.V i),T.W i m)) (q:=λm=>(u3 T.N).map (f.r m)++(T.P m).map (f.g m)) (u3 T.n) λm=>by simp
 rw[zB (by rw[vW,vW,u,B]),zB u,zxw T.N _ cs f.t h,k7,zo21 _ λm=>by simp];congr 1;congr 1;refine congrArg (λz=>List.flatMap z (u3 T.n)) (funext λm=>?_);rw[zB (by simp),k7,k7]
theorem zgp{α:Type}[DecidableEq α](d:Int):∀(l:List α)(xs:List Int),l.Nodup->xs.length=l.length->∃g:α->Int,l.map g=xs
|[],[],_,_=>⟨λ_=>d,rfl⟩
|a :: l,x :: xs,nd,h=>by
  obtain⟨u,q⟩:=v5.mp nd;obtain⟨g,e⟩:=zgp d l xs q (by simpa using h);refine⟨λb=>if b=a then x else g b,?_⟩;rw[v9,aH rfl,<- e];congr 1;exact x6 λb p=>aF λ(z:b=a)=>u (by rw[<- z];exact p)
theorem zwg{β:Type}{q:β->Nat}(mk:Nat->List Int->β):∀(n:Nat)(ln:Nat->Nat)(F:List Int),F.length=((u3 n).map ln).sum->∃B:Nat->List Int,(∀m,m < n->(B m).length=ln m)/\F=(u3 n).flatMap B
|0,ln,F,h=>⟨λ_=>[],λm p=>by lia,zP (by simpa using h)⟩
|n+1,ln,F,h=>by
  rw[xZ,wH,y9]at h;simp at h;obtain⟨B,G,z⟩:=zwg (q:=q) mk n ln (F.take ((u3 n).map ln).sum) (by rw[wW];lia);refine⟨λm=>if m=n then F.drop ((u3 n).map ln).sum else B m,λm p=>?_,?_⟩
  ·by_cases e:m=n
   ·subst e;simp only[if_true,yI];lia
   ·simp only[aF e];exact G m (by lia)
  ·rw[xZ,z7];simp only[wN,yK,wS,aH rfl,if_true];have:((u3 n).flatMap λm=>if m=n then F.drop ((u3 n).map ln).sum else B m)=(u3 n).flatMap B:=by
    have:∀l:List Nat,(∀m∈l,m≠n)->(l.flatMap λm=>if m=n then F.drop ((u3 n).map ln).sum else B m)=l.flatMap B:=by
     intro l
     induction l with
    |nil=>intro _;rfl
    |cons x r u=>intro k;rw[wN,wN,u λm p=>k m (by simp[p]),aF (k x (by simp))]
    exact this _ λm p=>by have:=u9.mp p;lia
   rw[this,<- z,zC]
theorem zsk(n:Nat):∀(c:Nat)(F:List Int),F.length=c * n->∃ts:List (Nat->Int),ts.length=c/\F=ts.flatMap λt=>(u3 n).map t
|0,F,h=>⟨[],rfl,zP (by simpa using h)⟩
|c+1,F,h=>by
  rw[yL]at h;obtain⟨ts,u,q⟩:=zsk n c (F.drop n) (by rw[yI];lia);obtain⟨g,p⟩:=zgp 0 (u3 n) (F.take n) yY (by rw[wW,wT];lia);exact⟨g :: ts,by simp[u],by rw[wN,p,<- q,zC]⟩
theorem zo11{α β:Type}(p:β->List α)(l:List β):(l.flatMap p).length=(l.map λx=>(p x).length).sum:=by
 induction l with
|nil=>rfl
|cons x r q=>rw[wN,vW,q,v9,x8]
theorem Nt.split(nd:∀m,(T.P m).Nodup){F:List Int}(h:F.length=(T.arcs cs).length):∃f:Fm,cs.length=f.t.length/\F=T.flow f:=by
 unfold Nt.arcs at h;rw[vW,vW,u5,wT]at h;have Z:(cs.flatMap λc=>(u3 T.N).map λk=>((T.nd T.n k,1,c k):Ar)).length=cs.length * T.N:=by
  have:∀l:List (Nat->Int),(l.flatMap λc=>(u3 T.N).map λk=>((T.nd T.n k,1,c k):Ar)).length=l.length * T.N:=by
   intro l
   induction l with
  |nil=>simp
  |cons c r u=>rw[wN,vW,u,xG,yL];simp;lia
  exact this cs
 rw[Z,zo11]at h;generalize I:((u3 T.n).map λm=>((u3 T.N).map (λk=>((T.nd m k,T.nd (m+1) k,T.rm k):Ar))++(T.P m).map λi=>(T.nd m (T.U i),T.nd (m+T.Ln i) (T.V i),T.W i m)).length).sum=M at h;obtain⟨a,Y⟩:=zgp 0 (u3 T.N) (F.take T.N) yY (by rw[wW,wT];lia);obtain⟨B,J,b2⟩:=zwg (β:=Nat) (q:=id) (λ_ _=>0) T.n (λm=>T.N+(T.P m).length) ((F.drop T.N).take M) (by
  rw[wW,yI,<- I];have:((u3 T.n).map λm=>((u3 T.N).map (λk=>((T.nd m k,T.nd (m+1) k,T.rm k):Ar))++(T.P m).map λi=>(T.nd m (T.U i),T.nd (m+T.Ln i) (T.V i),T.W i m)).length)=(u3 T.n).map λm=>T.N+(T.P m).length:=x6 λm _=>by simp
  rw[this]at I ⊢;lia)
 obtain⟨ts,S,O⟩:=zsk T.N cs.length (F.drop (T.N+M)) (by rw[yI];lia);have hr:∀m,∃g:Nat->Int,m < T.n->(u3 T.N).map g=(B m).take T.N:=λm=>by
  by_cases e:m < T.n
  ·obtain⟨g,p⟩:=zgp 0 (u3 T.N) ((B m).take T.N) yY (by rw[wW,J m e,wT];lia);exact⟨g,λ_=>p⟩
  ·exact⟨λ_=>0,λz=>aL z e⟩
 have p:∀m,∃g:Nat->Int,m < T.n->(T.P m).map g=(B m).drop T.N:=λm=>by
  by_cases e:m < T.n
  ·obtain⟨g,p⟩:=zgp 0 (T.P m) ((B m).drop T.N) (nd m) (by rw[yI,J m e];lia);exact⟨g,λ_=>p⟩
  ·exact⟨λ_=>0,λz=>aL z e⟩
 obtain⟨r,hr⟩:=Classical.axiomOfChoice hr;obtain⟨g,p⟩:=Classical.axiomOfChoice p;refine⟨⟨a,r,g,ts⟩,S.symm,?_⟩;unfold Nt.flow;show F=(u3 T.N).map a++((u3 T.n).flatMap λm=>(u3 T.N).map (r m)++(T.P m).map (g m))++ts.flatMap λt=>(u3 T.N).map t;have e2:((u3 T.n).flatMap λm=>(u3 T.N).map (r m)++(T.P m).map (g m))=(u3 T.n).flatMap B:=by
  have:∀l:List Nat,(∀m∈l,m < T.n)->(l.flatMap λm=>(u3 T.N).map (r m)++(T.P m).map (g m))=l.flatMap B:=by
   intro l
   induction l with
  |nil=>intro _;rfl
  |cons x y u=>intro k;rw[wN,wN,u λm G=>k m (by simp[G]),hr x (k x (by simp)),p x (k x (by simp)),zC]
  exact this _ λm G=>u9.mp G
 rw[e2,Y,<- b2,<- O,wD,<- List.drop_drop];rw[zC,zC]
end
def Nt.inn(T:Nt)(f:Fm)(m k:Nat):Int:=su (u3 T.n) λm'=>su (T.P m') λi=>if m'+T.Ln i=m/\T.V i=k then f.g m' i else 0
def Nt.out(T:Nt)(f:Fm)(m k:Nat):Int:=if m < T.n then su (T.P m) λi=>if T.U i=k then f.g m i else 0 else 0
structure Nt.Ok(T:Nt):Prop where
 nd:∀m,(T.P m).Nodup
 ub:∀m,∀i∈T.P m,T.U i < T.N
 vb:∀m,∀i∈T.P m,T.V i < T.N
 ln:∀m,∀i∈T.P m,1<=T.Ln i/\m+T.Ln i<=T.n
section
variable {T:Nt}{cs:List (Nat->Int)}{f:Fm}
theorem Nt.nd_inj{k:Nat}(h:k < T.N)(h':k' < T.N)(e:T.nd m k=T.nd m' k'):m=m'/\k=k':=by
 unfold Nt.nd at e;rcases uaG m m' with z|z|z
 ·have:=yM T.N (show m+1<=m' from z);rw[yL]at this;lia
 ·subst z;exact⟨rfl,by lia⟩
 ·have:=yM T.N (show m'+1<=m from z);rw[yL]at this;lia
theorem Nt.nd2(m k:Nat):2<=T.nd m k:=by unfold Nt.nd;lia
theorem Nt.is_nd(q:2<=w)(hw:w < T.nd (T.n+1) 0):∃m k,m<=T.n/\k < T.N/\w=T.nd m k:=by
 unfold Nt.nd at hw ⊢;have p:0 < T.N:=by
  rcases uaM T.N with z|z
  ·rw[z]at hw;simp at hw;lia
  ·exact z
 refine⟨(w - 2) / T.N,(w - 2) % T.N,?_,Nat.mod_lt _ p,?_⟩
 ·exact Nat.le_of_lt_succ (Nat.div_lt_of_lt_mul (by rw[j7,Nat.succ_eq_add_one];lia))
 ·have:=Nat.div_add_mod (w - 2) T.N;rw[j7]at this;lia
theorem zp61{q k p:Nat}(h:k < T.N)(h':k' < T.N)(u:p < T.N)(x:Int):trm (T.nd m k) (T.nd m' k') x (T.nd q p)=(if m'=q/\k'=p then x else 0) - (if m=q/\k=p then x else 0):=by
 unfold trm;congr 1
 ·by_cases e:m'=q/\k'=p
  ·obtain⟨rfl,rfl⟩:=e;simp
  ·rw[aF e,aF λz=>e (Nt.nd_inj h' u z)]
 ·by_cases e:m=q/\k=p
  ·obtain⟨rfl,rfl⟩:=e;simp
  ·rw[aF e,aF λz=>e (Nt.nd_inj h u z)]
theorem zql{N k:Nat}{c:Prop}[Decidable c](d:Nat->Int)(h:k < N):su (u3 N) (λj=>if c/\j=k then d j else 0)=if c then d k else 0:=by
 by_cases e:c
 ·rw[aH e,<- zbb d h];exact zt0 λj _=>by simp[e]
 ·rw[aF e];exact su_zero' λj _=>by simp[e]
theorem Nt.bal(ok:T.Ok)(hl:cs.length=f.t.length){k:Nat}(Y:m<=T.n)(B:k < T.N):bl (T.arcs cs).length (aU (T.arcs cs)) (aV (T.arcs cs)) (fx (T.flow f)) (T.nd m k) =
  (if m=0 then f.a k else f.r (m - 1) k)+T.inn f m k - T.out f m k - (if m < T.n then f.r m k else su f.t λt=>t k):=by
 unfold bl;rw[zau (Nt.len hl) λu v x=>trm u v x (T.nd m k),Nt.zip hl];unfold Nt.both;rw[zt5,zt5,zm5,zla,zla];have M:(su (u3 T.N) λj=>trm 0 (T.nd 0 j) (f.a j) (T.nd m k))=if m=0 then f.a k else 0:=by
  rw[<- zql (c:=m=0) f.a B];refine zt0 λj q=>?_;have q:=u9.mp q;unfold trm;have O:=Nt.nd2 (T:=T) m k;rw[aF (show(0:Nat)≠T.nd m k by lia)];by_cases e:m=0/\j=k
  ·obtain⟨rfl,rfl⟩:=e;simp
  ·rw[aF e,aF λz=>e (by have:=Nt.nd_inj q B z;exact⟨this.1.symm,this.2⟩)];rfl
 have I:(su (cs.zip f.t) λx=>su ((u3 T.N).map λj=>(((T.nd T.n j,1,x.1 j):Ar),x.2 j)) λp=>trm p.1.1 p.1.2.1 p.2 (T.nd m k))=- if m=T.n then su f.t (λt=>t k)else 0:=by
  have G:∀x∈cs.zip f.t,(su ((u3 T.N).map λj=>(((T.nd T.n j,1,x.1 j):Ar),x.2 j)) λp=>trm p.1.1 p.1.2.1 p.2 (T.nd m k))=0 - if m=T.n then x.2 k else 0:=λx _=>by
   rw[zm5,<- zql (c:=m=T.n) x.2 B];refine Eq.trans (zt0 (g:=λj=>0 - if m=T.n/\j=k then x.2 j else 0) λj q=>?_) (by rw[zjj,zwa]);have q:=u9.mp q;unfold trm;have O:=Nt.nd2 (T:=T) m k;show(if 1=T.nd m k then x.2 j else 0) - (if T.nd T.n j=T.nd m k then x.2 j else 0)=_;rw[aF (show(1:Nat)≠T.nd m k by lia)];by_cases e:m=T.n/\j=k
   ·obtain⟨rfl,rfl⟩:=e;simp
   ·rw[aF e,aF λz=>e (by have:=Nt.nd_inj q B z;exact⟨this.1.symm,this.2⟩)]
  rw[zt0 G,zjj,zwa];have S:(su (cs.zip f.t) λx=>if m=T.n then x.2 k else 0)=if m=T.n then su f.t (λt=>t k)else 0:=by
   by_cases e:m=T.n
   ·simp only[aH e];have:f.t=(cs.zip f.t).map (·.2):=by rw[List.map_snd_zip (by lia)]
    conv=>rhs;rw[this]
    rw[zm5]
   ·simp only[aF e];exact zwa _
  rw[S];lia
 have J:(su (u3 T.n) λm'=>su ((u3 T.N).map (λj=>(((T.nd m' j,T.nd (m'+1) j,T.rm j):Ar),f.r m' j))++(T.P m').map λi=>((T.nd m' (T.U i),T.nd (m'+T.Ln i) (T.V i),T.W i m'),f.g m' i)) λp=>trm p.1.1 p.1.2.1 p.2 (T.nd m k)) =
   (if m=0 then 0 else f.r (m - 1) k) - (if m < T.n then f.r m k else 0)+(T.inn f m k - T.out f m k):=by
  have G:∀m'∈u3 T.n,(su ((u3 T.N).map (λj=>(((T.nd m' j,T.nd (m'+1) j,T.rm j):Ar),f.r m' j))++(T.P m').map λi=>((T.nd m' (T.U i),T.nd (m'+T.Ln i) (T.V i),T.W i m'),f.g m' i)) λp=>trm p.1.1 p.1.2.1 p.2 (T.nd m k)) =
    ((if m'+1=m then f.r m' k else 0) - (if m'=m then f.r m' k else 0))+((su (T.P m') λi=>if m'+T.Ln i=m/\T.V i=k then f.g m' i else 0) - (if m'=m then su (T.P m') λi=>if T.U i=k then f.g m' i else 0 else 0)):=λm' _=>by
   rw[zt5,zm5,zm5];congr 1
   ·rw[<- zql (c:=m'+1=m) (f.r m') B,<- zql (c:=m'=m) (f.r m') B,<- zjj];exact zt0 λj q=>zp61 (u9.mp q) (u9.mp q) B _
   ·have:(if m'=m then su (T.P m') λi=>if T.U i=k then f.g m' i else 0 else 0)=su (T.P m') λi=>if m'=m/\T.U i=k then f.g m' i else 0:=by
     by_cases e:m'=m
     ·rw[aH e];exact zt0 λi _=>by simp[e]
     ·rw[aF e];exact(su_zero' λi _=>by simp[e]).symm
    rw[this,<- zjj];exact zt0 λi hi=>zp61 (ok.ub m' i hi) (ok.vb m' i hi) B _
  rw[zt0 G,zi9,zjj,zjj];congr 1
  ·congr 1
   ·by_cases e:m=0
    ·rw[aH e];exact su_zero' λj _=>aF (by lia)
    ·rw[aF e,<- zbb (λj=>f.r j k) (show m - 1 < T.n by lia)];refine zt0 λj _=>?_;by_cases z:j=m - 1
     ·rw[aH z,aH (by lia)]
     ·rw[aF z,aF (by lia)]
   ·by_cases e:m < T.n
    ·rw[aH e,<- zbb (λj=>f.r j k) e]
    ·rw[aF e];exact su_zero' λj q=>aF (by have:=u9.mp q;lia)
  ·congr 1;unfold Nt.out;by_cases e:m < T.n
   ·rw[aH e,<- zbb (λj=>su (T.P j) λi=>if T.U i=k then f.g j i else 0) e]
   ·rw[aF e];exact su_zero' λj q=>aF (by have:=u9.mp q;lia)
 rw[M,J,I];have Z:¬m < T.n ↔ m=T.n:=by lia
 by_cases e:m=0
 ·rw[aH e,aH e,aH e];by_cases z:m < T.n
  ·rw[aH z,aH z,aF (by lia)];lia
  ·rw[aF z,aF z,aH (by lia)];lia
 ·rw[aF e,aF e,aF e];by_cases z:m < T.n
  ·rw[aH z,aH z,aF (by lia)];lia
  ·rw[aF z,aF z,aH (by lia)];lia
theorem Nt.worth(hl:cs.length=f.t.length):bl (T.arcs cs).length (aU (T.arcs cs)) (aV (T.arcs cs)) (fx (T.flow f)) 0=- su (u3 T.N) f.a:=by
 unfold bl;rw[zau (Nt.len hl) λu v x=>trm u v x 0,Nt.zip hl];unfold Nt.both;rw[zt5,zt5,zm5,zla,zla];have z:∀u v x,2<=u->1<=v->trm u v x 0=0:=λu v x q p=>by
  unfold trm;rw[aF (by lia),aF (by lia)];rfl
 rw[su_zero' (l:=u3 T.n) λm _=>?_,su_zero' (l:=cs.zip f.t) λx _=>?_,zt0 (g:=λk=>0 - f.a k) λk _=>?_,zjj,zwa]
 ·lia
 ·have p:=Nt.nd2 (T:=T) 0 k;unfold trm;show(if T.nd 0 k=0 then f.a k else 0) - (if 0=0 then f.a k else 0)=_;rw[aF (by lia),aH rfl]
 ·rw[zm5];exact su_zero' λk _=>z _ _ _ (Nt.nd2 _ _) (by show 1<=1;lia)
 ·rw[zt5,zm5,zm5,su_zero' λk _=>z _ _ _ (Nt.nd2 _ _) (by have:=Nt.nd2 (T:=T) (m+1) k;show 1<=T.nd (m+1) k;lia),su_zero' λi _=>z _ _ _ (Nt.nd2 _ _) (by have:=Nt.nd2 (T:=T) (m+T.Ln i) (T.V i);show 1<=T.nd (m+T.Ln i) (T.V i);lia)];rfl
structure Nt.Fl(T:Nt)(cs:List (Nat->Int))(f:Fm):Prop where
 t:cs.length=f.t.length
 a:∀k,k < T.N->0<=f.a k/\f.a k<=T.fl k
 r:∀m k,m < T.n->k < T.N->0<=f.r m k/\f.r m k<=T.rm k
 g:∀m i,m < T.n->i∈T.P m->0<=f.g m i/\f.g m i<=T.W i m
 s:∀c∈cs.zip f.t,∀k,k < T.N->0<=c.2 k/\c.2 k<=c.1 k
 b:∀m k,m<=T.n->k < T.N->(if m=0 then f.a k else f.r (m - 1) k)+T.inn f m k=T.out f m k+(if m < T.n then f.r m k else su f.t λt=>t k)
theorem Nt.both_iff(hl:cs.length=f.t.length)(Φ:Nat->Nat->Int->Int->Prop):(∀p∈T.both cs f,Φ p.1.1 p.1.2.1 p.1.2.2 p.2) ↔ (∀k,k < T.N->Φ 0 (T.nd 0 k) (T.fl k) (f.a k))/\(∀m k,m < T.n->k < T.N->Φ (T.nd m k) (T.nd (m+1) k) (T.rm k) (f.r m k)) /\
  (∀m i,m < T.n->i∈T.P m->Φ (T.nd m (T.U i)) (T.nd (m+T.Ln i) (T.V i)) (T.W i m) (f.g m i))/\∀c∈cs.zip f.t,∀k,k < T.N->Φ (T.nd T.n k) 1 (c.1 k) (c.2 k):=by
 constructor
 ·intro h;unfold Nt.both at h;refine⟨λk u=>?_,λm k z u=>?_,λm i z hi=>?_,λc B k u=>?_⟩
  ·exact h _ (xQ _ (xQ _ (vV.mpr ⟨k,u9.mpr u,rfl⟩)))
  ·exact h _ (xQ _ (xC _ (yZ.mpr ⟨m,u9.mpr z,xQ _ (vV.mpr ⟨k,u9.mpr u,rfl⟩)⟩)))
  ·exact h _ (xQ _ (xC _ (yZ.mpr ⟨m,u9.mpr z,xC _ (vV.mpr ⟨i,hi,rfl⟩)⟩)))
  ·exact h _ (xC _ (yZ.mpr ⟨c,B,vV.mpr ⟨k,u9.mpr u,rfl⟩⟩))
 ·rintro⟨M,J,I,G⟩ p q;unfold Nt.both at q;rcases vX.mp q with q|q
  ·rcases vX.mp q with q|q
   ·obtain⟨k,u,rfl⟩:=vV.mp q;exact M k (u9.mp u)
   ·obtain⟨m,z,q⟩:=yZ.mp q;have z:=u9.mp z;rcases vX.mp q with q|q
    ·obtain⟨k,u,rfl⟩:=vV.mp q;exact J m k z (u9.mp u)
    ·obtain⟨i,hi,rfl⟩:=vV.mp q;exact I m i z hi
  ·obtain⟨c,B,q⟩:=yZ.mp q;obtain⟨k,u,rfl⟩:=vV.mp q;exact G c B k (u9.mp u)
theorem Nt.Fl.within(h:T.Fl cs f):within (T.arcs cs).length (zc9 (T.arcs cs)) (fx (T.flow f)):=by
 refine(zlg (Nt.len h.t) λ_ _ c x=>0<=x/\x<=c).mpr ?_;rw[Nt.zip h.t];exact(Nt.both_iff h.t λ_ _ c x=>0<=x/\x<=c).mpr ⟨h.a,h.r,h.g,h.s⟩
theorem Nt.Fl.bal(ok:T.Ok)(h:T.Fl cs f){w:Nat}(u:2<=w)(hw:w < T.nd (T.n+1) 0):bl (T.arcs cs).length (aU (T.arcs cs)) (aV (T.arcs cs)) (fx (T.flow f)) w=0:=by
 obtain⟨m,k,p,q,rfl⟩:=Nt.is_nd u hw;have:=h.b m k p q;rw[Nt.bal ok h.t p q];lia
theorem Nt.Fl.of(ok:T.Ok)(p:cs.length=f.t.length)(hw:_5.within (T.arcs cs).length (zc9 (T.arcs cs)) (fx (T.flow f)))(B:∀w,w≠0->w≠1->bl (T.arcs cs).length (aU (T.arcs cs)) (aV (T.arcs cs)) (fx (T.flow f)) w=0):T.Fl cs f:=by
 have:=(zlg (Nt.len p) λ_ _ c x=>0<=x/\x<=c).mp hw;rw[Nt.zip p]at this;obtain⟨J,q,I,G⟩:=(Nt.both_iff p λ_ _ c x=>0<=x/\x<=c).mp this;refine⟨p,J,q,I,G,λm k u z=>?_⟩;have q:=Nt.nd2 (T:=T) m k;have:=B (T.nd m k) (by lia) (by lia);rw[Nt.bal ok p u z]at this;lia
theorem bl_flux'{s:Nat}(nd:side.Nodup)(p:s∈side)(h:∀w∈side,w≠s->bl m eu ev x w=0):bl m eu ev x s=flux m eu ev x side:=by
 rw[zda m eu ev x nd,zgl nd p h]
theorem zie1{y:Nat->Int}(h:∀k,k < m->x k=y k)(w:Nat):bl m eu ev x w=bl m eu ev y w:=zc1 λk p=>by show trm _ _ (x k) w=trm _ _ (y k) w;rw[h k p]
theorem zlm{k:Nat}(h:k < m):fx ((u3 m).map x) k=x k:=by
 unfold fx;rw[u8,xI h];rfl
theorem Nt.best(ok:T.Ok){c:Nat}(b:Best c (T.arcs cs) f0 0 1 L side)(u:∀v,v≠0->v≠1->_5.bal (T.arcs cs).length (zt6 (T.arcs cs)) L v=0) :
  ∃f,T.Fl cs f/\(u3 (T.arcs cs).length).map (λk=>lf L (2 * k+1))=T.flow f:=by
 obtain⟨f,q,e⟩:=Nt.split (cs:=cs) ok.nd (F:=(u3 (T.arcs cs).length).map (λk=>lf L (2 * k+1))) (by simp);have ex:∀k,k < (T.arcs cs).length->fx (T.flow f) k=lf L (2 * k+1):=λk p=>by rw[<- e,zlm p]
 refine⟨f,Nt.Fl.of ok q (λk p=>by rw[ex k p];exact b.within k p) λw B z=>?_,e⟩;rw[zie1 ex];have:=u w B z;rw[zpv]at this;exact this
theorem Nt.most(ok:T.Ok)(b:Best (T.nd (T.n+1) 0) (T.arcs cs) f0 0 1 L side)(h:T.Fl cs f)(e:(u3 (T.arcs cs).length).map (λk=>lf L (2 * k+1))=T.flow f){q:Fm}(h':T.Fl cs q):su (u3 T.N) q.a<=su (u3 T.N) f.a:=by
 have ex:∀k,k < (T.arcs cs).length->lf L (2 * k+1)=fx (T.flow f) k:=λk p=>by rw[<- e,zlm p]
 have u:tight (T.arcs cs).length (aU (T.arcs cs)) (aV (T.arcs cs)) (zc9 (T.arcs cs)) (fx (T.flow f)) side:=λk p=>by rw[<- ex k p];exact b.tight k p
 have l:=zuw u h'.within;have go:∀{g:Fm},T.Fl cs g->bl (T.arcs cs).length (aU (T.arcs cs)) (aV (T.arcs cs)) (fx (T.flow g)) 0=flux (T.arcs cs).length (aU (T.arcs cs)) (aV (T.arcs cs)) (fx (T.flow g)) side:=λ{g} B =>
  bl_flux' (zw5 b.ris) b.inn λw hw G=>B.bal ok (by
   rcases wZ w 2 with z|z
   ·have:w=1:=by lia
    exact aL (this ▸ hw) b.out
   ·exact z) (b.bd w hw)
 rw[<- go h,<- go h',Nt.worth h.t,Nt.worth h'.t]at l;lia
end
theorem zbt{c:Nat}(g:Nat->Int):∀{l:List Nat},l.Nodup->(∀x∈l,x < c)->su (u3 c) (λi=>if i∈l then g i else 0)=su l g
|[],_,_=>by rw[zs6];exact su_zero' λi _=>by simp
|x :: l,nd,h=>by
  obtain⟨u,q⟩:=v5.mp nd;rw[zz0,<- zbt g q λy p=>h y (wC _ p),<- zbb g (h x wR),<- zi9];refine zt0 λi _=>?_;by_cases e:i=x
  ·subst e;simp[u]
  ·simp[e]
theorem su_sub'{c:Nat}{g:Nat->Int}(p:∀i,i < c->0<=g i){l:List Nat}(nd:l.Nodup)(h:∀x∈l,x < c):su l g<=su (u3 c) g:=by
 rw[<- zbt g nd h];refine zfv λi hi=>?_;have:=p i (u9.mp hi);split <;> lia
structure Nt.Lk(T:Nt)(cs:List (Nat->Int))(f:Fm):Prop where
 t:cs.length=f.t.length
 a:∀k,k < T.N->0<=f.a k/\f.a k<=T.fl k
 r:∀m k,m < T.n->k < T.N->0<=f.r m k/\f.r m k<=T.rm k
 g:∀m i,m < T.n->i∈T.P m->0<=f.g m i/\f.g m i<=T.W i m
 s:∀c∈cs.zip f.t,∀k,k < T.N->0<=c.2 k/\c.2 k<=c.1 k
 b:∀m k,m<=T.n->k < T.N->T.out f m k+(if m < T.n then f.r m k else su f.t λt=>t k)<=(if m=0 then f.a k else f.r (m - 1) k)+T.inn f m k
section
variable {T:Nt}{cs:List (Nat->Int)}{f:Fm}
theorem Nt.Lk.within(h:T.Lk cs f):within (T.arcs cs).length (zc9 (T.arcs cs)) (fx (T.flow f)):=by
 refine(zlg (Nt.len h.t) λ_ _ c x=>0<=x/\x<=c).mpr ?_;rw[Nt.zip h.t];exact(Nt.both_iff h.t λ_ _ c x=>0<=x/\x<=c).mpr ⟨h.a,h.r,h.g,h.s⟩
theorem Nt.Lk.bal(ok:T.Ok)(h:T.Lk cs f){w:Nat}(u:2<=w)(hw:w < T.nd (T.n+1) 0):0<=bl (T.arcs cs).length (aU (T.arcs cs)) (aV (T.arcs cs)) (fx (T.flow f)) w:=by
 obtain⟨m,k,p,q,rfl⟩:=Nt.is_nd u hw;have:=h.b m k p q;rw[Nt.bal ok h.t p q];lia
theorem Nt.nd_lt{k:Nat}(p:m<=T.n)(q:k < T.N):T.nd m k < T.nd (T.n+1) 0:=by
 unfold Nt.nd;have:=yM T.N (show m+1<=T.n+1 by lia);rw[yL]at this;lia
theorem Nt.sink(hl:cs.length=f.t.length):bl (T.arcs cs).length (aU (T.arcs cs)) (aV (T.arcs cs)) (fx (T.flow f)) 1=su (u3 T.N) λk=>su f.t λt=>t k:=by
 unfold bl;rw[zau (Nt.len hl) λu v x=>trm u v x 1,Nt.zip hl];unfold Nt.both;rw[zt5,zt5,zm5,zla,zla];have z:∀u v x,u≠1->v≠1->trm u v x 1=0:=λu v x J I=>by
  unfold trm;rw[aF I,aF J];rfl
 have q:∀m k,T.nd m k≠1:=λm k=>by have:=Nt.nd2 (T:=T) m k;lia
 rw[su_zero' (l:=u3 T.N) λk _=>z _ _ _ (by show(0:Nat)≠1;lia) (q _ _),su_zero' (l:=u3 T.n) λm _=>?_]
 ·have e:∀c∈cs.zip f.t,(su ((u3 T.N).map λk=>(((T.nd T.n k,1,c.1 k):Ar),c.2 k)) λp=>trm p.1.1 p.1.2.1 p.2 1)=su (u3 T.N) c.2:=λc _=>by
   rw[zm5];refine zt0 λk _=>?_;show(if 1=1 then c.2 k else 0) - (if T.nd T.n k=1 then c.2 k else 0)=_;rw[aH rfl,aF (q _ _)];lia
  rw[zt0 e];have M:(su (cs.zip f.t) λc=>su (u3 T.N) c.2)=su f.t λt=>su (u3 T.N) t:=by
   have:f.t=(cs.zip f.t).map (·.2):=by rw[List.map_snd_zip (by lia)]
   conv=>rhs;rw[this]
   rw[zm5]
  rw[M];have B:∀l:List (Nat->Int),(su l λt=>su (u3 T.N) t)=su (u3 T.N) λk=>su l λt=>t k:=by
   intro l
   induction l with
  |nil=>rw[zs6];exact(su_zero' λ_ _=>rfl).symm
  |cons t r G=>rw[zz0,G,<- zi9];exact zt0 λk _=>(zz0 t r λt=>t k).symm
  rw[B];lia
 ·rw[zt5,zm5,zm5,su_zero' λk _=>z _ _ _ (q _ _) (q _ _),su_zero' λi _=>z _ _ _ (q _ _) (q _ _)];rfl
theorem Nt.ends(ok:T.Ok)(hl:cs.length=f.t.length):∀k,k < (T.arcs cs).length->aU (T.arcs cs) k < T.nd (T.n+1) 0/\aV (T.arcs cs) k < T.nd (T.n+1) 0:=by
 have z:=Nt.nd2 (T:=T) (T.n+1) 0;refine(zlg (Nt.len hl) λu v _ _=>u < T.nd (T.n+1) 0/\v < T.nd (T.n+1) 0).mpr ?_;rw[Nt.zip hl];exact(Nt.both_iff hl λu v _ _=>u < T.nd (T.n+1) 0/\v < T.nd (T.n+1) 0).mpr ⟨λk p=>⟨by lia,Nt.nd_lt (by lia) p⟩,λm k q p=>⟨Nt.nd_lt (by lia) p,Nt.nd_lt (by lia) p⟩,λm i q hi=>⟨Nt.nd_lt (by lia) (ok.ub m i hi),Nt.nd_lt (ok.ln m i hi).2 (ok.vb m i hi)⟩,λc _ k p=>⟨Nt.nd_lt (u7 _) p,by lia⟩⟩
theorem Nt.total(ok:T.Ok)(hl:cs.length=f.t.length):su ((u3 (T.nd (T.n+1) 0)).filter λw=>decide (2<=w)) (bl (T.arcs cs).length (aU (T.arcs cs)) (aV (T.arcs cs)) (fx (T.flow f)))=su (u3 T.N) f.a - su (u3 T.N) λk=>su f.t λt=>t k:=by
 have q:=Nt.nd2 (T:=T) (T.n+1) 0;have z:flux (T.arcs cs).length (aU (T.arcs cs)) (aV (T.arcs cs)) (fx (T.flow f)) (u3 (T.nd (T.n+1) 0))=0:=by
  unfold flux;rw[zc1 (h:=λ_=>0) λk p=>?_,zs2];obtain⟨B,u⟩:=Nt.ends ok hl k p;rw[aH (u9.mpr B),aH (u9.mpr u)];lia
 rw[zda _ _ _ _ yY]at z;have z:su (u3 (T.nd (T.n+1) 0)) (bl (T.arcs cs).length (aU (T.arcs cs)) (aV (T.arcs cs)) (fx (T.flow f)))=0:=z;have e:u3 (T.nd (T.n+1) 0)=0 :: 1 :: (u3 (T.nd (T.n+1) 0)).filter λw=>decide (2<=w):=by
  obtain⟨d,hd⟩:=Nat.exists_eq_add_of_le' q;rw[hd,ua5,ua5];simp;rw[List.filter_map];congr 1;rw[List.filter_eq_self.mpr λx _=>by simp]
 rw[e,zz0,zz0,Nt.worth hl,Nt.sink hl]at z;lia
theorem Nt.Fl.total(ok:T.Ok)(h:T.Fl cs f):su (u3 T.N) f.a=su (u3 T.N) λk=>su f.t λt=>t k:=by
 have:=Nt.total (cs:=cs) (f:=f) ok h.t;rw[su_zero' λw hw=>?_]at this
 ·lia
 obtain⟨q,p⟩:=xW.mp hw;exact h.bal ok (dB p) (u9.mp q)
theorem Nt.leak(ok:T.Ok)(h:T.Fl cs f)(I:tight (T.arcs cs).length (aU (T.arcs cs)) (aV (T.arcs cs)) (zc9 (T.arcs cs)) (fx (T.flow f)) side)(B:0∈side)(M:1 ∉ side)(u:∀v∈side,v < T.nd (T.n+1) 0)(nd:side.Nodup){p:Fm}(h':T.Lk cs p) :
  (su (u3 T.N) λk=>su p.t λt=>t k)<=su (u3 T.N) f.a:=by
 have l:=zuw I h'.within;have two:∀w∈side,w≠0->2<=w:=λw hw q=>by
  rcases wZ w 2 with z|z
  ·have:w=1:=by lia
   exact aL (this ▸ hw) M
  ·exact z
 rw[<- bl_flux' nd B λw hw q=>h.bal ok (two w hw q) (u w hw),Nt.worth h.t,zda _ _ _ _ nd]at l;have tot:=Nt.total (cs:=cs) (f:=p) ok h'.t;have G:=Nt.worth (T:=T) (cs:=cs) (f:=p) h'.t;have sp:(side.map (bl (T.arcs cs).length (aU (T.arcs cs)) (aV (T.arcs cs)) (fx (T.flow p)))).sum<=- su (u3 T.N) p.a+su ((u3 (T.nd (T.n+1) 0)).filter λw=>decide (2<=w)) (bl (T.arcs cs).length (aU (T.arcs cs)) (aV (T.arcs cs)) (fx (T.flow p))):=by
  have S:(side.map (bl (T.arcs cs).length (aU (T.arcs cs)) (aV (T.arcs cs)) (fx (T.flow p)))).sum=su side (λw=>(if w=0 then bl (T.arcs cs).length (aU (T.arcs cs)) (aV (T.arcs cs)) (fx (T.flow p)) 0 else 0))+su side λw=>if 2<=w then bl (T.arcs cs).length (aU (T.arcs cs)) (aV (T.arcs cs)) (fx (T.flow p)) w else 0:=by
   rw[<- zi9];refine zt0 λw hw=>?_;by_cases z:w=0
   ·subst z;simp
   ·rw[aF z,aH (two w hw z)];lia
  have O:su side (λw=>(if w=0 then bl (T.arcs cs).length (aU (T.arcs cs)) (aV (T.arcs cs)) (fx (T.flow p)) 0 else 0))=- su (u3 T.N) p.a:=by
   have:=zgl (g:=λw=>(if w=0 then bl (T.arcs cs).length (aU (T.arcs cs)) (aV (T.arcs cs)) (fx (T.flow p)) 0 else 0)) nd B λw _ q=>aF q;unfold su;rw[this,aH rfl];exact G
  have Y:(su side λw=>if 2<=w then bl (T.arcs cs).length (aU (T.arcs cs)) (aV (T.arcs cs)) (fx (T.flow p)) w else 0)<=su (u3 (T.nd (T.n+1) 0)) λw=>if 2<=w then bl (T.arcs cs).length (aU (T.arcs cs)) (aV (T.arcs cs)) (fx (T.flow p)) w else 0:=su_sub' (λw hw=>by
   by_cases z:2<=w
   ·rw[aH z];exact h'.bal ok z hw
   ·rw[aF z];exact xP _) nd u
  have W:(su (u3 (T.nd (T.n+1) 0)) λw=>if 2<=w then bl (T.arcs cs).length (aU (T.arcs cs)) (aV (T.arcs cs)) (fx (T.flow p)) w else 0)=su ((u3 (T.nd (T.n+1) 0)).filter λw=>decide (2<=w)) (bl (T.arcs cs).length (aU (T.arcs cs)) (aV (T.arcs cs)) (fx (T.flow p))):=by
   have:∀l:List Nat,(su l λw=>if 2<=w then bl (T.arcs cs).length (aU (T.arcs cs)) (aV (T.arcs cs)) (fx (T.flow p)) w else 0)=su (l.filter λw=>decide (2<=w)) (bl (T.arcs cs).length (aU (T.arcs cs)) (aV (T.arcs cs)) (fx (T.flow p))):=by
    intro l
    induction l with
   |nil=>rfl
   |cons x r J =>
     rw[zz0,List.filter_cons,J];by_cases z:2<=x
     ·rw[aH z,aH (bW z),zz0]
     ·rw[aF z,aF (by simpa using z)];lia
   exact this _
  rw[S,O];lia
 lia
end
structure Nt.Val(T:Nt)(c:Nat->Int)(M:Int):Prop where
 ex:∃f t,T.Fl [c] f/\f.t=[t]/\su (u3 T.N) t=M
 mx:∀f t,T.Lk [c] f->f.t=[t]->su (u3 T.N) t<=M
section
variable {T:Nt}{c c':Nat->Int}{M M':Int}
theorem zdf1{f:Fm}{t:Nat->Int}(h:f.t=[t]):(su (u3 T.N) λk=>su f.t λt=>t k)=su (u3 T.N) t:=by
 rw[h];exact zt0 λk _=>by rw[zz0,zs6];lia
theorem Nt.val(ok:T.Ok){f:Fm}{t:Nat->Int}(b:Best (T.nd (T.n+1) 0) (T.arcs [c]) f0 0 1 L side)(h:T.Fl [c] f)(e:(u3 (T.arcs [c]).length).map (λk=>lf L (2 * k+1))=T.flow f)(u:f.t=[t]):T.Val c (su (u3 T.N) t):=by
 have ex:∀k,k < (T.arcs [c]).length->lf L (2 * k+1)=fx (T.flow f) k:=λk p=>by rw[<- e,zlm p]
 have z:tight (T.arcs [c]).length (aU (T.arcs [c])) (aV (T.arcs [c])) (zc9 (T.arcs [c])) (fx (T.flow f)) side:=λk p=>by rw[<- ex k p];exact b.tight k p
 refine⟨⟨f,t,h,u,rfl⟩,λB t' h' q=>?_⟩;have l:=Nt.leak ok h z b.inn b.out b.bd (zw5 b.ris) h';rw[h.total ok,zdf1 u,zdf1 q]at l;exact l
theorem Nt.Val.le(v:T.Val c M):M<=su (u3 T.N) c:=by
 obtain⟨f,t,h,p,rfl⟩:=v.ex;refine zfv λk q=>(h.s (c,t) (by rw[p];simp) k (u9.mp q)).2
end
theorem zqs{l:List Nat}{a b:Nat->Int}(h:∀k∈l,a k<=b k)(e:su l b<=su l a):∀k∈l,a k=b k:=by
 induction l with
|nil=>intro k p;simp at p
|cons x r q =>
  rw[zz0,zz0]at e;have G:=h x (by simp);have B:=zfv λk p=>h k (wC x p);intro k p;rcases vT.mp p with z|z
  ·subst z;lia
  ·exact q (λj u=>h j (wC x u)) (by lia) k z
def Fm.pad(f:Fm):Fm:=⟨f.a,f.r,f.g,f.t++[λ_=>0]⟩
section
variable {T:Nt}{c d t:Nat->Int}{f:Fm}
theorem Nt.Fl.pad(h:T.Fl [c] f)(u:f.t=[t])(hd:∀k,k < T.N->0<=d k):T.Fl [c,d] f.pad:=by
 refine⟨by show 2=(f.t++[_]).length;rw[u];rfl,h.a,h.r,h.g,λx p k q=>?_,λm k B q=>?_⟩
 ·have p:x∈[c,d].zip (f.t++[λ_=>0]):=p;rw[u]at p;rcases vT.mp p with z|z
  ·subst z;exact h.s (c,t) (by rw[u];simp) k q
  ·have z:=uaP.mp z;subst z;exact⟨xP _,hd k q⟩
 ·have:=h.b m k B q;have e:(su f.pad.t λt=>t k)=su f.t λt=>t k:=by
   show(su (f.t++[_]) λt=>t k)=_;rw[zt5,zz0,zs6];show _+((0:Int)+0)=_;lia
  rw[e];exact this
theorem Nt.flow_pad:T.flow f.pad=T.flow f++vY T.N 0:=by
 unfold Nt.flow Fm.pad;rw[z7,wD,wD,wD];have:(u3 T.N).map (λ_=>(0:Int))=vY T.N 0:=by rw[List.map_const',wT]
 simp only[wN,yK,wS,this,wD]
theorem zde1(h:∀k,k < A.length->aU A k < n/\aV A k < n)(hw:n<=w):bl A.length (aU A) (aV A) x w=0:=by
 unfold bl;rw[zc1 (h:=λ_=>0) λk p=>?_,zs2];obtain⟨u,q⟩:=h k p;unfold trm;rw[aF (by lia),aF (by lia)];rfl
def Nt.stay(T:Nt)(c:Nat->Int):Fm:=⟨T.fl,λ_ k=>T.fl k,λ_ _=>0,[λk=>min (T.fl k) (c k),λk=>T.fl k - min (T.fl k) (c k)]⟩
theorem Nt.stay_fl(hf:∀k,k < T.N->0<=T.fl k/\T.fl k<=T.rm k/\0<=c k/\0<=d k/\T.fl k<=c k+d k)(hw:∀m i,m < T.n->i∈T.P m->0<=T.W i m):T.Fl [c,d] (T.stay c):=by
 refine⟨rfl,λk p=>⟨(hf k p).1,xP _⟩,λm k _ p=>⟨(hf k p).1,(hf k p).2.1⟩,λm i u hi=>⟨xP _,hw m i u hi⟩,λx q k p=>?_,λm k u p=>?_⟩
 ·obtain⟨S,O,M,J,I⟩:=hf k p;have q:x∈[(c,λk=>min (T.fl k) (c k)),(d,λk=>T.fl k - min (T.fl k) (c k))]:=q;rcases vT.mp q with z|z
  ·subst z;show 0<=min (T.fl k) (c k)/\min (T.fl k) (c k)<=c k;lia
  ·have z:=uaP.mp z;subst z;show 0<=T.fl k - min (T.fl k) (c k)/\T.fl k - min (T.fl k) (c k)<=d k;lia
 ·have G:T.inn (T.stay c) m k=0:=su_zero' λm' _=>su_zero' λi _=>by
   show(if m'+T.Ln i=m/\T.V i=k then(0:Int)else 0)=0;split <;> rfl
  have B:T.out (T.stay c) m k=0:=by
   unfold Nt.out;split
   ·exact su_zero' λi _=>by
     show(if T.U i=k then(0:Int)else 0)=0;split <;> rfl
   ·rfl
  rw[G,B];have e:(su (T.stay c).t λt=>t k)=T.fl k:=by
   show su [_,_] _=_;rw[zz0,zz0,zs6];show min (T.fl k) (c k)+(T.fl k - min (T.fl k) (c k)+0)=_;lia
  rw[e];show(if m=0 then T.fl k else T.fl k)+0=0+if m < T.n then T.fl k else T.fl k
  split <;> split <;> lia
theorem zc71{cs:List (Nat->Int)}{k:Nat}(p:k < T.N):(T.arcs (c :: cs))[(T.arcs []).length+k]?=some (T.nd T.n k,1,c k):=by
 have e:T.arcs (c :: cs)=T.arcs []++((u3 T.N).map (λk=>(T.nd T.n k,1,c k))++cs.flatMap λc=>(u3 T.N).map λk=>(T.nd T.n k,1,c k)):=by
  unfold Nt.arcs;simp only[wN,yK,wS]
 rw[e,wO (by lia),k6,wP (by simpa using p),u8,xI p];rfl
theorem zmh1{f:Fm}{t:Nat->Int}{ts:List (Nat->Int)}(q:f.t=t :: ts){k:Nat}(p:k < T.N):fx (T.flow f) ((T.arcs []).length+k)=t k:=by
 have e:T.flow f=T.flow ⟨f.a,f.r,f.g,[]⟩++((u3 T.N).map t++ts.flatMap λt=>(u3 T.N).map t):=by
  unfold Nt.flow;rw[q];simp only[wN,yK,wS]
 have l:(T.flow ⟨f.a,f.r,f.g,[]⟩).length=(T.arcs []).length:=Nt.len (cs:=[]) (f:=⟨f.a,f.r,f.g,[]⟩) rfl;unfold fx;rw[e,<- l,wO (by lia),k6,wP (by simpa using p),u8,xI p];rfl
theorem Nt.again(ok:T.Ok)(h:T.Fl [c] f)(M:f.t=[t])(hf:∀k,k < T.N->0<=T.fl k/\T.fl k<=T.rm k/\0<=c k/\0<=d k/\T.fl k<=c k+d k)(hw:∀m i,m < T.n->i∈T.P m->0<=T.W i m)  
  (b:Best (T.nd (T.n+1) 0) (T.arcs [c,d]) (T.flow f++vY T.N 0) 0 1 L side) :
  ∃u G s2,T.Fl [c,d] u/\(u3 (T.arcs [c,d]).length).map (λk=>lf L (2 * k+1))=T.flow u/\(∀k,k < T.N->u.a k=T.fl k)/\u.t=[G,s2]/\∀k,k < T.N->t k<=G k:=by
 have J:=h.pad (d:=d) M λk p=>(hf k p).2.2.2.1;rw[<- Nt.flow_pad]at b;have hl:=Nt.len (T:=T) (cs:=[c,d]) (f:=f.pad) J.t;have O:=b.bal hl λw Y S=>by
  rcases wZ w (T.nd (T.n+1) 0)with z|z
  ·exact J.bal ok (by lia) z
  ·exact zde1 (Nt.ends ok J.t) z
 obtain⟨u,q,e⟩:=Nt.best ok b O;obtain⟨G,s2,I⟩:∃G s2,u.t=[G,s2]:=by
  have:=q.t
  match hq:u.t,this with
 |[x,y],_=>exact⟨x,y,rfl⟩
 refine⟨u,G,s2,q,e,λk p=>?_,I,λk p=>?_⟩
 ·have m:=Nt.most ok b q e (Nt.stay_fl hf hw);exact zqs (λk p=>(q.a k (u9.mp p)).2) m k (u9.mpr p)
 ·have ga:=zc71 (T:=T) (c:=c) (cs:=[d]) p;have B:=(wI.mp ga).1;have:=b.up.inn _ B (zif ga).1;rw[zo81 hl B,zmh1 (f:=f.pad) (ts:=[λ_=>0]) (by show f.t++_=_;rw[M];rfl) p]at this;rw[<- zmh1 (T:=T) I p,<- e,zlm B];exact this
end
section
variable {T:Nt}{c t:Nat->Int}{f:Fm}
def Nt.over(T:Nt)(c:Nat->Int)(X:Nat->Nat->Prop)[∀m k,Decidable (X m k)]:Int :=
 su (u3 T.N) (λk=>if X 0 k then T.fl k else 0)+(su (u3 T.n) λm=>su (u3 T.N) (λk=>if ¬X m k/\X (m+1) k then T.rm k else 0)+su (T.P m) λi=>if ¬X m (T.U i)/\X (m+T.Ln i) (T.V i)then T.W i m else 0)+su (u3 T.N) λk=>if ¬X T.n k then c k else 0
theorem Nt.cut(ok:T.Ok){side:List Nat}(h:T.Fl [c] f)(M:f.t=[t])(O:tight (T.arcs [c]).length (aU (T.arcs [c])) (aV (T.arcs [c])) (zc9 (T.arcs [c])) (fx (T.flow f)) side)(Y:0∈side)(J:1 ∉ side)(hb:∀v∈side,v < T.nd (T.n+1) 0)(nd:side.Nodup) :
  su (u3 T.N) t=T.over c λm k=>T.nd m k ∉ side:=by
 have two:∀w∈side,w≠0->2<=w:=λw hw S=>by
  have:w≠1:=λz=>J (z ▸ hw);lia
 have e1:=bl_flux' nd Y λw hw S=>h.bal ok (two w hw S) (hb w hw);rw[Nt.worth h.t,ztr O,h.total ok,zdf1 M]at e1;have e2:su (u3 T.N) t=sm (T.arcs [c]).length λk=>if aU (T.arcs [c]) k∈side/\aV (T.arcs [c]) k ∉ side then fx (T.flow f) k else 0:=by lia
 have Z:∀p∈T.both [c] f,p.1.1∈side->p.1.2.1 ∉ side->p.2=p.1.2.2:=by
  have:=(zlg (Nt.len h.t) λu v G x=>u∈side->v ∉ side->x=G).mp λk B=>(O k B).1;rw[Nt.zip h.t]at this;exact this
 obtain⟨t1,t2,t3,t4⟩:=(Nt.both_iff h.t λu v G x=>u∈side->v ∉ side->x=G).mp Z;have q:∀{u v:Nat}{x G:Int}{p:Prop} [Decidable p],(u∈side->v ∉ side->x=G)->(p ↔ u∈side/\v ∉ side)->(if u∈side/\v ∉ side then x else 0)=if p then G else 0:=λ{u v x G p} _ J W=>by
  by_cases z:u∈side/\v ∉ side
  ·rw[aH z,aH (W.mpr z),J z.1 z.2]
  ·rw[aF z,aF λy=>z (W.mp y)]
 rw[e2,zau (Nt.len h.t) λu v x=>if u∈side/\v ∉ side then x else 0,Nt.zip h.t];unfold Nt.both Nt.over;rw[zt5,zt5,zm5,zla,zla,M,ua4,List.zip_nil_right,zz0,zs6,zm5,Int.add_zero];refine congr (congrArg _ (congr (congrArg _ (zt0 λk B=>?_)) (zt0 λm I=>?_))) (zt0 λk B=>?_)
 ·exact q (t1 k (u9.mp B)) ⟨λz=>⟨Y,z⟩,λz=>z.2⟩
 ·have I:=u9.mp I;rw[zt5,zm5,zm5];refine congr (congrArg _ (zt0 λk B=>?_)) (zt0 λi hi=>?_)
  ·exact q (t2 m k I (u9.mp B)) ⟨λz=>⟨Decidable.not_not.mp z.1,z.2⟩,λz=>⟨λy=>y z.1,z.2⟩⟩
  ·exact q (t3 m i I hi) ⟨λz=>⟨Decidable.not_not.mp z.1,z.2⟩,λz=>⟨λy=>y z.1,z.2⟩⟩
 ·exact q (t4 (c,t) (by rw[M];simp) k (u9.mp B)) ⟨λz=>⟨Decidable.not_not.mp z,J⟩,λz y=>y z.1⟩
end
theorem zr61{α β:Type}(l:List α)(m:List β)(f:α->β->Int):su l (λa=>su m λb=>f a b)=su m λb=>su l λa=>f a b:=by
 induction l with
|nil=>rw[zs6];exact(su_zero' λb _=>zs6 _).symm
|cons a l p=>rw[zz0,p,<- zi9];exact zt0 λb _=>(zz0 a l λa=>f a b).symm
theorem su_nn'{α:Type}{l:List α}{f:α->Int}(h:∀x∈l,0<=f x):0<=su l f:=by
 have:=zfv (f:=λ_=>0) h;rw[zwa]at this;exact this
theorem zdp{α:Type}[DecidableEq α]{f:α->Int}:∀{l:List α}{a:α},a∈l->su l f=f a+su (l.erase a) f
|b :: l,a,h=>by
  by_cases e:b=a
  ·subst e;rw[List.erase_cons_head,zz0]
  ·rw[List.erase_cons_tail (by simpa using e),zz0,zz0,zdp (by rcases vT.mp h with z|z;exact aL z.symm e;exact z)];lia
theorem zal{α:Type}[DecidableEq α]{f:α->Int}:∀{l m:List α},l.Nodup->(∀x∈l,x∈m)->(∀x∈m,0<=f x)->su l f<=su m f
|[],m,_,_,h=>by rw[zs6];exact su_nn' h
|a :: l,m,nd,u,h=>by
  have p:=v5.mp nd;rw[zz0,zdp (u a (by simp))];have:=zal (l:=l) (m:=m.erase a) p.2 (λx q=>(List.mem_erase_of_ne (λz=>by subst z;exact p.1 q)).mpr (u x (by simp[q]))) λx q=>h x (List.mem_of_mem_erase q);lia
variable {m:Nat}
theorem zr71{n:Nat}{f:Nat->Int}(h:∀j,j < n->0<=f j)(p:m < n):f m<=su (u3 n) f:=by
 rw[<- zbb f p];exact zfv λj q=>by
  have:=h j (u9.mp q);split <;> lia
theorem zqt(a b:Nat)(f:Nat->Int):su (u3 (a+b)) f=su (u3 a) f+su (u3 b) λj=>f (a+j):=by
 rw[List.range_add,zt5,zm5]
theorem zi31{X:Nat->Prop}:∀{n m:Nat},m<=n->¬X m->X n->∃j,j < n/\¬X j/\X (j+1)
|0,m,h,a,b=>aL b (by rwa [show m=0 by lia]at a)
|n+1,m,h,a,b=>by
  by_cases z:X n
  ·have q:m≠n+1:=λe=>a (e ▸ b);obtain⟨j,u,p⟩:=zi31 (show m<=n by lia) a z;exact⟨j,by lia,p⟩
  ·exact⟨n,by lia,z,b⟩
theorem zq81{f:Nat->Int}{B s:Nat}(p:∀m,0<=f m):∀L:Nat,(∀j,j < L->∃m,s+j * B<=m/\m < s+j * B+B/\1<=f m)->(L:Int)<=su (u3 (s+L * B)) f
|0,_=>su_nn' λm _=>p m
|L+1,h=>by
  have q:=zq81 p L λj u=>h j (by lia);obtain⟨m,I,G,z⟩:=h L (by lia);have e:s+(L+1) * B=(s+L * B)+B:=by rw[yL,Nat.one_mul];lia
  rw[e,zqt];have:=zr71 (f:=λj=>f (s+L * B+j)) (λj _=>p _) (show m - (s+L * B) < B by lia);rw[show s+L * B+(m - (s+L * B))=m by lia]at this;lia
section
variable {T:Nt}{c:Nat->Int}{X:Nat->Nat->Prop}{np B s:Nat}
theorem grow(hB:su (u3 np) (λi=>(T.Ln i:Int))=(B:Int))(hp:∀i,i < np->T.U i < T.N/\1<=T.Ln i)
  (hX:∀m i,s<=m->m < s+B->i < np->m+T.Ln i<=s+B->X (m+T.Ln i) (T.V i)->X m (T.U i)) :
  ∀(q:Nat)(S u:List Nat),S.Nodup->(∀v∈S,v < T.N)->u.Nodup->(∀i∈u,i < np/\T.U i∈S) ->
   (∀v∈S,∃m:Nat,((s+B:Nat):Int)<=(m:Int)+su u (λi=>(T.Ln i:Int))/\m<=s+B/\X m v)->T.N<=S.length+q ->
   ∃G:List Nat,G.Nodup/\(∀v∈G,v < T.N)/\(∀v∈S,v∈G)/\(∀i,i < np->T.V i∈G->T.U i∈G)/\∀v∈G,∃m,m<=s+B/\X m v:=by
 intro q
 induction q with
|zero =>
  intro S u nd J _ _ p hN;refine⟨S,nd,J,λ_ h=>h,λi hi I=>?_,λv I=>(p v I).imp λm h=>h.2⟩;rcases Classical.em (T.U i∈S)with z|z
  ·exact z
  ·have:=zy0 T.N (T.U i :: S) (v5.mpr ⟨z,nd⟩) λx W=>by
    rcases vT.mp W with e|e
    ·rw[e];exact(hp i hi).1
    ·exact J x e
   rw[xG]at this;lia
|succ q ih =>
  intro S u nd J Z O p hN;rcases Classical.em (∀i,i < np->T.V i∈S->T.U i∈S)with z|z
  ·exact⟨S,nd,J,λ_ h=>h,z,λv I=>(p v I).imp λm h=>h.2⟩
  ·obtain⟨i,z⟩:=Classical.not_forall.mp z;obtain⟨hi,z⟩:=Classical.not_imp.mp z;obtain⟨I,z⟩:=Classical.not_imp.mp z;have hl:=hp i hi;have Y:i ∉ u:=λh=>z (O i h).2;have M:(i :: u).Nodup:=v5.mpr ⟨Y,Z⟩;have le:=su_sub' (c:=np) (g:=λi=>(T.Ln i:Int)) (λi _=>by lia) M λx W=>by
    rcases vT.mp W with e|e
    ·rw[e];exact hi
    ·exact(O x e).1
   rw[zz0,hB]at le;obtain⟨m,h1,h2,h3⟩:=p _ I;have hm:s+T.Ln i<=m:=by lia
   obtain⟨m,rfl⟩:∃d,m=d+T.Ln i:=⟨m - T.Ln i,by lia⟩
   have x:=hX m i (by lia) (by lia) hi h2 h3;obtain⟨G,g1,g2,g3,g4⟩:=ih (T.U i :: S) (i :: u) (v5.mpr ⟨z,nd⟩) (λv h=>by
    rcases vT.mp h with e|e
    ·rw[e];exact hl.1
    ·exact J v e) M (λj h=>by
    rcases vT.mp h with e|e
    ·rw[e];exact⟨hi,by simp⟩
    ·exact⟨(O j e).1,by simp[(O j e).2]⟩) (λv h=>by
    rw[zz0];rcases vT.mp h with e|e
    ·rw[e];exact⟨m,by lia,by lia,x⟩
    ·obtain⟨m,a,b⟩:=p v e;exact⟨m,by lia,b⟩) (by rw[xG];lia)
   exact⟨G,g1,g2,λv h=>g3 v (by simp[h]),g4⟩
variable [∀m k,Decidable (X m k)]
def Nt.aK(T:Nt)(c:Nat->Int)(X:Nat->Nat->Prop)[∀m k,Decidable (X m k)](k:Nat):Int:=(if X 0 k then T.fl k else 0)+(su (u3 T.n) λm=>if ¬X m k/\X (m+1) k then T.rm k else 0)+(if ¬X T.n k then c k else 0)
def Nt.crM(T:Nt)(X:Nat->Nat->Prop)[∀m k,Decidable (X m k)](m:Nat):Int:=su (T.P m) λi=>if ¬X m (T.U i)/\X (m+T.Ln i) (T.V i)then T.W i m else 0
theorem Nt.over_eq:T.over c X=su (u3 T.N) (T.aK c X)+su (u3 T.n) (T.crM X):=by
 unfold Nt.over Nt.aK Nt.crM;rw[zi9,zi9,zi9,zr61];lia
structure Nt.Sure(T:Nt)(c:Nat->Int)(np B late lack:Nat):Prop where
 vat:∀k,k < T.N->0<=T.fl k/\T.fl k<=T.rm k/\0<=c k/\c k<=T.rm k
 pip:∀i,i < np->T.U i < T.N/\1<=T.Ln i
 inP:∀m i,i < np->m+T.Ln i<=T.n->i∈T.P m
 wn:∀m,∀i∈T.P m,0<=T.W i m
 w1:∀m i,i < np->late<=m->1<=T.W i m
 len:su (u3 np) (λi=>(T.Ln i:Int))=(B:Int)
 n:late+lack * B<=T.n
 lk:su (u3 T.N) (λk=>if T.fl k < c k then c k - T.fl k else 0)<=(lack:Int)
 cl:∀S:List Nat,S.Nodup->(∀v∈S,v < T.N)->(∀i,i < np->T.V i∈S->T.U i∈S)->su S (λv=>c v - T.fl v)<=0
theorem Nt.aK_rm{k:Nat}(v:0<=T.fl k/\T.fl k<=T.rm k/\0<=c k/\c k<=T.rm k)(a:¬X m k)(b:X (m+1) k)(h:m < T.n):T.rm k<=T.aK c X k:=by
 have:=zr71 (f:=λm=>if ¬X m k/\X (m+1) k then T.rm k else 0) (λj _=>by split <;> lia) h;rw[aH ⟨a,b⟩]at this;unfold Nt.aK;have q:0<=(if X 0 k then T.fl k else 0):=by split <;> lia
 have p:0<=(if ¬X T.n k then c k else 0):=by split <;> lia
 lia
theorem Nt.aK_ever{k:Nat}(v:0<=T.fl k/\T.fl k<=T.rm k/\0<=c k/\c k<=T.rm k)(G:m<=T.n)(h:X m k):T.fl k<=T.aK c X k:=by
 by_cases z:X 0 k
 ·unfold Nt.aK;rw[aH z];have u:0<=su (u3 T.n) λm=>if ¬X m k/\X (m+1) k then T.rm k else 0:=su_nn' λj _=>by split <;> lia
  have p:0<=(if ¬X T.n k then c k else 0):=by split <;> lia
  lia
 ·obtain⟨j,u,p,q⟩:=zi31 (X:=λm=>X m k) (wU m) z h;have:=Nt.aK_rm v p q (by lia);lia
theorem Nt.aK_not{k:Nat}(v:0<=T.fl k/\T.fl k<=T.rm k/\0<=c k/\c k<=T.rm k)(u:m<=T.n)(h:¬X m k):c k<=T.aK c X k:=by
 by_cases z:X T.n k
 ·obtain⟨j,q,p,G⟩:=zi31 (X:=λm=>X m k) u h z;have:=Nt.aK_rm v p G q;lia
 ·unfold Nt.aK;rw[aH z];have q:0<=su (u3 T.n) λm=>if ¬X m k/\X (m+1) k then T.rm k else 0:=su_nn' λj _=>by split <;> lia
  have p:0<=(if X 0 k then T.fl k else 0):=by split <;> lia
  lia
theorem Nt.Sure.met{p q:Nat}(h:T.Sure c np B p q):su (u3 T.N) c<=T.over c X:=by
 rw[Nt.over_eq];have I:∀m,0<=T.crM X m:=λm=>su_nn' λi hi=>by
  have:=h.wn m i hi;split <;> lia
 have hc0:0<=su (u3 T.n) (T.crM X):=su_nn' λm _=>I m;have aw:∀k,k < T.N->(∀m,m<=T.n->X m k) \/ ∃m,m<=T.n/\¬X m k:=λk _=>by
  rcases Classical.em (∀m,m<=T.n->X m k)with z|z
  ·exact .inl z
  ·obtain⟨m,z⟩:=Classical.not_forall.mp z;exact .inr ⟨m,Classical.not_imp.mp z⟩
 rcases Classical.em (∃j,j < q/\∀m,p+j * B<=m->m < p+j * B+B->¬1<=T.crM X m)with⟨j,hj,free⟩|z
 ·have Z:p+j * B+B<=T.n:=by
   have:=yM B (show j+1<=q by lia);rw[yL,Nat.one_mul]at this;have:=h.n;lia
  have hX:∀m i,p+j * B<=m->m < p+j * B+B->i < np->m+T.Ln i<=p+j * B+B->X (m+T.Ln i) (T.V i)->X m (T.U i):=λm i J G hi h3 M=>by
   rcases Classical.em (X m (T.U i))with z|z
   ·exact z
   ·refine aL ?_ (free m J G);have e:T.crM X m=su (T.P m) λi=>if ¬X m (T.U i)/\X (m+T.Ln i) (T.V i)then T.W i m else 0:=rfl
    have hin:=h.inP m i hi (by lia);have:=zal (l:=[i]) (m:=T.P m) (f:=λi=>if ¬X m (T.U i)/\X (m+T.Ln i) (T.V i)then T.W i m else 0) (by simp) (λx Y=>by simp at Y;rw[Y];exact hin) λx Y=>by
     have:=h.wn m x Y;split <;> lia
    rw[zz0,zs6,aH ⟨z,M⟩]at this;have:=h.w1 m i hi (by lia);lia
  obtain⟨S,nd,hb,hA,cl,O⟩:=grow (X:=X) h.len h.pip hX T.N ((u3 T.N).filter λk=>decide (X (p+j * B+B) k)) [] (yY.filter _) (λv M=>u9.mp (xW.mp M).1) List.nodup_nil (λi hi=>by simp at hi) (λv M=>⟨p+j * B+B,by rw[zs6];lia,u7 _,dB (xW.mp M).2⟩) (by lia);have hs:=h.cl S nd hb cl;rw[<- zbt _ nd hb]at hs;have:su (u3 T.N) c<=su (u3 T.N) (T.aK c X)+su (u3 T.N) λi=>if i∈S then c i - T.fl i else 0:=by
   rw[<- zi9];refine zfv λk u=>?_;have u:=u9.mp u;by_cases z:k∈S
   ·rw[aH z];obtain⟨m,J,G⟩:=O k z;have:=Nt.aK_ever (h.vat k u) (by lia) G;lia
   ·rw[aF z];have:=Nt.aK_not (h.vat k u) Z (λy=>z (hA k (xW.mpr ⟨u9.mpr u,bW y⟩)));lia
  lia
 ·have hcr:=zq81 I q λj hj=>by
   obtain⟨m,z⟩:=Classical.not_forall.mp λy=>z ⟨j,hj,y⟩;obtain⟨J,z⟩:=Classical.not_imp.mp z;obtain⟨G,z⟩:=Classical.not_imp.mp z;exact⟨m,J,G,Classical.not_not.mp z⟩
  have hle:su (u3 (p+q * B)) (T.crM X)<=su (u3 T.n) (T.crM X):=by
   obtain⟨d,hd⟩:=Nat.exists_eq_add_of_le h.n;have e:=zqt (p+q * B) d (T.crM X);rw[<- hd]at e;have:0<=su (u3 d) λj=>T.crM X (p+q * B+j):=su_nn' λj _=>I _;lia
  have:su (u3 T.N) c<=su (u3 T.N) (T.aK c X)+su (u3 T.N) λk=>if T.fl k < c k then c k - T.fl k else 0:=by
   rw[<- zi9];refine zfv λk u=>?_;have u:=u9.mp u;have v:=h.vat k u;rcases aw k u with y|⟨m,J,G⟩
   ·have:=Nt.aK_ever v (wU _) (y 0 (wU _));split <;> lia
   ·have:=Nt.aK_not v J G;split <;> lia
  have:=h.lk;lia
end
end _5
namespace _4
open PySem PySem.Spec PyProof.Rows _2 _3
section
variable {K:Fg}
theorem zkl{F:Hp}:∀{xs:List V}{bs:List Bool},IsAll K F xs (bs.map wM)->xs=bs.map V.bl
|_,[],.nil=>rfl
|_,b :: r,.cons h t=>by rw[h.bl_inv,zkl t];rfl
def fAll:List D->(D->Prop)->Prop
|[.list ds],Q=>∃bs:List Bool,ds=bs.map wM/\Q (.bool (bs.all id))
|_,_=>False
theorem zoj1:CB K (rAll K) fAll:=by
 walk_at"21";unfold fAll at h;rcases ds with _|⟨d,_|⟨e,r⟩⟩
 all_goals first|exact h.elim|(cases d <;> first|exact h.elim|skip)
 obtain⟨v,rfl,hw⟩:=vw1 p;obtain⟨bs,rfl,q⟩:=h;obtain⟨a,xs,rfl,z,u⟩:=hw.list s;cases zkl u;exact⟨a,bs,rfl,z,k _ q _ F H (Ext.refl s) (.bl _)⟩
theorem zi01(ds:List D)(Q:D->Prop):fAll [.list ds] Q=∃bs:List Bool,ds=bs.map wM/\Q (.bool (bs.all id)):=rfl
end
end _4
namespace _3
open PySem
variable {S a:aE}{es:Array (Int×aA)}{hp:aT}{ns:List Int}{t0:bG}{xs:List (Int×aA)}
def addT(es:Array (Int×aA))(t:bG)(h:Int)(x:aA):Array (Int×aA)×bG :=
 if(!(cH t es h x).2.2.1 && (cH t es h x).2.1.tooFull)=true then((cB (cH t es h x).2.1 (cH t es h x).1 (bO (cH t es h x).1.size)).1,(cB (cH t es h x).2.1 (cH t es h x).1 (bO (cH t es h x).1.size)).2.1)
 else((cH t es h x).1,(cH t es h x).2.1)
def zrb1(t:bG)(i:Nat):Nat:=if i=0 then 0 else t.place.getD (i - 1) 0+1
def okT(n:Nat)(t:bG):Bool:=t.plain && t.led && t.place.size == n && (u3 (n+1)).all λi=>iB t.place (zrb1 t i) == i
def chkT:Nat->Nat->Array (Int×aA)->bG->Bool
|0,_,es,t=>okT es.size t
|f+1,k,es,t=>chkT f (k+1) es t && match addT es t (k:Int) .none with|(es',t')=>chkT f (k+1) es' t'
theorem zoi1:chkT 3 0 #[] (.fresh 0 0 true)=true:=by decide +kernel
section
variable {prog:aN}{w:aP}{A:a7}{E:aA->aG->Prop}{s:aG}
theorem ztw(es:Array (Int×aA))(t:bG)(h:Int)(x:aA):(addT es t h x).1.toList.Perm (es.push (h,x)).toList:=by
 unfold addT;split
 ·exact(relayAll_perm _ _ _).trans (lN t es h x)
 ·exact lN t es h x
theorem zzu(es:Array (Int×aA))(t:bG)(h:Int)(x:aA):(addT es t h x).2.fits (addT es t h x).1.size=true:=by
 unfold addT;split
 ·exact relayAll_fits _ _ _
 ·exact layNew_fits t es h x
def SetAt(hp:aT)(a:aE)(es:Array (Int×aA))(t:bG):Prop:=∃o ep,hp.get? a=some o/\o.ExactSet/\o.data=.set es ep t
theorem SetAt.store{es':Array (Int×aA)}{t t':bG}{o:Obj}{ep:Nat}(q:hp.get? a=some o)(p:o.ExactSet)(hd:o.data=.set es ep t) :
  (hp.update a (iM es' t')).get? a=some { o with data:=.set es' (ep+1) t' }/\SetAt (hp.update a (iM es' t')) a es' t':=by
 have e:=yT (iM es' t') q (by rw[putSet_of es' t' hd];rfl);rw[putSet_of es' t' hd]at e;exact⟨e,_,ep+1,e,p,rfl⟩
theorem zj51{t:bG}{k:Int}{tk:Tok}{Q:Bool->aG->Prop}(hS:SetAt s.heap a es t)(hf:t.fits es.size=true)(M:ElemsOf (eU prog w) es.toList)(hb:es.size+1 < iY)
  (no:∀e∈es.toList,(eU prog w).is k e.2=false) (h:∀hp,bF a s.heap hp->SetAt hp a (addT es t (cO k) (.int k tk)).1 (addT es t (cO k) (.int k tk)).2->Q true { s with heap:=hp }) :
  aJ (aM prog w) A (setAddHashed a (.int k tk) ((eU prog w).hash k)) Q E s:=by
 obtain⟨o,ep,O,J,hd⟩:=hS;have sc:(yF k tk).scannable=true:=rfl;unfold setAddHashed setAddHashedIn;refine bL (aC (eE O hd hf ?_));dsimp only;rw[byScan_of sc (by lia) M,aH rfl];unfold setAddByScan;refine aC (aC (eB ?_));refine aC (wpAny_setScan_of (knd:=eU prog w) (mE prog w k tk) O hd hf M ?_);rw[List.findIdx?_eq_none_iff.mpr no];dsimp only;have W:∀(b:Bool){s1:aG}{B:Unit->aG->Prop},B () s1->aJ (aM prog w) A (match b with|true=>rule "set.scan.the-table-gave-way"|false=>pure ()) B E s1:=λb s1 B q=>by
  cases b
  ·exact aI q
  ·exact eB q
 have hp:=lN t es (cO k) (.int k tk);have f1:=layNew_fits t es (cO k) (.int k tk);have ea:∀L,cH t es (cO k) (.int k tk)=L->addT es t (cO k) (.int k tk)=if(!L.2.2.1 && L.2.1.tooFull)=true then((cB L.2.1 L.1 (bO L.1.size)).1,(cB L.2.1 L.1 (bO L.1.size)).2.1)else(L.1,L.2.1):=λL e=>by unfold addT;rw[e]
 have hk:(eU prog w).hash k=cO k:=rfl;rw[hk];generalize eL:cH t es (cO k) (.int k tk)=L at hp f1;rw[ea L eL]at h;obtain⟨p,u,wd,gv⟩:=L;dsimp only at hp f1 h ⊢;have sz:p.size=es.size+1:=by rw[<- wY,hp.length_eq,wY,Array.size_push]
 have bd:p.size<=sizeLine:=fits_of_scanBound (by lia);have tail:∀(g:Bool->Sem Unit)(R:Option Bool->aG->Prop),(∀(b:Bool)(s1:aG)(B:Unit->aG->Prop),B () s1->aJ (aM prog w) A (g b) B E s1)->(∀r,Q true r->R (some true) r) ->
   aJ (aM prog w) A (storeSet a p u >>= λ_=>if(!wd && u.tooFull)=true then g (cB u p (bO p.size)).2.2 >>= λ_=>storeSet a (cB u p (bO p.size)).1 (cB u p (bO p.size)).2.1 >>= λ_=>pure (some true)else pure (some true)) R E s:=λg R hg hR=>by
  refine aC (lC O hd ?_ bd);obtain⟨I,hS1⟩:=SetAt.store (es':=p) (t':=u) O J hd;have G:=b8 s.heap a (iM p u);by_cases c:(!wd && u.tooFull)=true
  ·rw[aH c];rw[aH c]at h;have rp:=relayAll_perm u p (bO p.size);have Y:(cB u p (bO p.size)).1.size=p.size:=by rw[<- wY,rp.length_eq,wY]
   refine aC (hg _ _ _ ?_);refine aC (lC I rfl ?_ (by rw[Y];exact bd));obtain⟨_,Z⟩:=SetAt.store (es':=(cB u p (bO p.size)).1) (t':=(cB u p (bO p.size)).2.1) I J rfl;exact aI (hR _ (h _ (G.trans (b8 _ a _)) Z))
  ·rw[aF c];rw[aF c]at h;exact aI (hR _ (h _ G hS1))
 refine aC (W _ ?_);split
 ·rw[hashByValue_scannable 8 sc];refine aC (aI ?_);refine tail _ _ (λb s1 B q=>W b q) λr z=>aI z
 ·refine aC (aI ?_);refine tail _ _ (λb s1 B q=>W b q) λr z=>aI z
end
def zmh(t0:bG)(xs:List (Int×aA)):Array (Int×aA)×SetTable:=xs.foldl (λp e=>addT p.1 p.2 e.1 e.2) (#[],t0)
theorem zhn(t0:bG)(xs:List (Int×aA))(e:Int×aA):zmh t0 (xs++[e])=addT (zmh t0 xs).1 (zmh t0 xs).2 e.1 e.2:=by
 unfold zmh;rw[uaO];rfl
theorem zre:∀(xs:List (Int×aA))(p:Array (Int×aA)×bG),p.2.fits p.1.size=true->(xs.foldl (λp e=>addT p.1 p.2 e.1 e.2) p).1.toList.Perm (p.1.toList++xs)/\(xs.foldl (λp e=>addT p.1 p.2 e.1 e.2) p).2.fits (xs.foldl (λp e=>addT p.1 p.2 e.1 e.2) p).1.size=true
|[],p,h=>⟨by rw[wS];exact .rfl,h⟩
|e :: r,p,h=>by
  obtain⟨a,b⟩:=zre r (addT p.1 p.2 e.1 e.2) (zzu ..);refine⟨a.trans ?_,b⟩;have:=(ztw p.1 p.2 e.1 e.2).append_right r;rw[Array.toList_push,wD]at this;exact this
theorem zu7(h:t0.fits 0=true)(xs:List (Int×aA)):(zmh t0 xs).1.toList.Perm xs:=(zre xs (#[],t0) h).1
theorem zpf(h:t0.fits 0=true)(xs:List (Int×aA)):(zmh t0 xs).2.fits (zmh t0 xs).1.size=true:=(zre xs (#[],t0) h).2
theorem zfg(h:t0.fits 0=true)(xs:List (Int×aA)):(zmh t0 xs).1.size=xs.length:=by
 rw[<- wY,(zu7 h xs).length_eq]
def Put(ns:List Int)(xs:List (Int×aA)):Prop:=xs.length=ns.length/\∀(j:Nat) e,xs[j]?=some e->∃k tk,ns[j]?=some k/\e=(cO k,.int k tk)
theorem Put.snoc(h:Put ns xs)(k:Int)(tk:Tok):Put (ns++[k]) (xs++[(cO k,.int k tk)]):=by
 refine⟨by simp[h.1],λj e p=>?_⟩;by_cases c:j < xs.length
 ·rw[wP c]at p;obtain⟨q,t',B,u⟩:=h.2 j e p;exact⟨q,t',by rw[wP (by have:=h.1;lia)];exact B,u⟩
 ·rw[wO (by lia)]at p;have z:j - xs.length=0:=by have:=(wI.mp p).1;simp at this;lia
  rw[z]at p;cases p;exact⟨k,tk,by rw[wO (by have:=h.1;lia),<- h.1,z];rfl,rfl⟩
theorem Put.mem(h:Put ns xs){e:Int×aA}(q:e∈xs):∃k tk,k∈ns/\e=(cO k,.int k tk):=by
 obtain⟨j,p,rfl⟩:=uaB.mp q;obtain⟨k,tk,z,u⟩:=h.2 j _ (u4 p);exact⟨k,tk,wJ z,u⟩
def PutAt(t0:bG)(S:aE)(ns:List Int)(hp:aT):Prop:=∃xs,Put ns xs/\SetAt hp S (zmh t0 xs).1 (zmh t0 xs).2
theorem PutAt.keep{p:aT}(h:PutAt t0 S ns hp)(k:∀o,hp.get? S=some o->p.get? S=some o):PutAt t0 S ns p:=by
 obtain⟨xs,z,o,ep,u,q⟩:=h;exact⟨xs,z,o,ep,k o u,q⟩
section
variable {prog:aN}{w:aP}{A:a7}{R:gJ->aG->Prop}{I:aE}{fp wr:List aE}{G:Array lR->Array lR->Prop}{n:Nat}{P:Nat->aA->Prop}{St:Nat->aG->Prop}
theorem zrz(p:t0.fits 0=true)(W:WalksS prog w A.in1 I fp wr G n P St)(hS:S ∉ fp)(hn:ns.length=n)(nd:ns.Nodup)(hv:∀i v,P i v->∃t,v=.int (ns.getD i 0) t)(L:n+1 < iY) :
  ∀(m i:Nat)(s:aG),m+i=n->St i s->PutAt t0 S (ns.take i) s.heap->(∀s',Moved (S :: wr) G s s'->PutAt t0 S ns s'.heap->R (.ok (.ret .none)) s') ->
   cP (aM prog w) A (.builtin "set.update.loop" ⟨[.ref S,.ref I],[]⟩) R s:=by
 have hw:S ∉ wr:=λz=>hS (W.sub _ z);have up:∀b∈wr,b∈S :: wr:=λb z=>.tail _ z;intro m
 induction m with
|zero =>
  intro i s hi st B k;have e:i=n:=by lia
  subst e;refine b6 d9 ?_;rw[bU cL _];show aJ _ A.in1 (dU (.ref I) >>= _) _ _ s;refine aC (W.done s _ _ st λs' q=>?_);exact aI (k s' (q.mono up) (by rw[<- hn,xM]at B;exact B.keep λo z=>q.heap S o hw z))
|succ m ih =>
  intro i s hi st B k;have hlt:i < n:=by lia
  refine b6 d9 ?_;rw[bU cL _];show aJ _ A.in1 (dU (.ref I) >>= _) _ _ s;refine aC (W.item i s _ _ hlt st λv s' hP O q=>?_);obtain⟨tk,rfl⟩:=hv i v hP;have pa':=B.keep λo z=>q.heap S o hw z;obtain⟨xs,u,sa⟩:=pa';have hl:xs.length=i:=by rw[u.1,wW];lia
  show aJ _ A.in1 (dJ [yF (ns.getD i 0) tk] (setAdd S (.int (ns.getD i 0) tk)) >>= _) _ _ s';refine aC (bL ?_);unfold setAdd;refine bL (aC ((eU prog w).pyHash (k:=ns.getD i 0) (mE _ _ _ _) ?_));have eg:ns.getD i 0=ns[i]'(by lia):=by rw[v4,u4 (by lia)];rfl
  have fresh:∀e∈(zmh t0 xs).1.toList,(eU prog w).is (ns.getD i 0) e.2=false:=λe M=>by
   obtain⟨J,t',h1,rfl⟩:=u.mem ((zu7 p xs).mem_iff.mp M);obtain⟨j,hj,ej⟩:=uaB.mp h1;rw[List.getElem_take]at ej;rw[wW]at hj;have ne:ns.getD i 0≠J:=λz=>by
    rw[eg,<- ej]at z;have:=(List.getElem_inj nd).mp z;lia
   show yO (ns.getD i 0) (.int J t')=false;unfold yO;simp[ne];exact λz=>ne z.symm
  have els:ElemsOf (eU prog w) (zmh t0 xs).1.toList:=λe M=>by
   obtain⟨J,t',h1,rfl⟩:=u.mem ((zu7 p xs).mem_iff.mp M);exact⟨⟨J,mE _ _ _ _,rfl⟩,rfl⟩
  refine zj51 (s:={ s' with toks:=s'.toks+1 }) (tk:=tk) sa (zpf p xs) els (by rw[zfg p];lia) fresh λhp sb Y=>?_;have pn:PutAt t0 S (ns.take (i+1)) hp:=by
   refine⟨xs++[(cO (ns.getD i 0),.int (ns.getD i 0) tk)],?_,?_⟩
   ·rw[xU,u4 (by lia),<- eg];exact u.snoc _ _
   ·rw[zhn];exact Y
  refine aI ⟨cU cL _,ih (i+1) _ (by lia) (W.frame _ s' _ _ O (yQ _) λb L o e=>?_) pn λZ mv' pz=>?_⟩
  ·rw[sb.2 b λz:b=S=>hS (z ▸ L)];exact e
  ·refine k Z (Moved.trans W.gtrans ((q.mono up).then_heap (yQ _) λb o L e=>?_) mv') pz;rw[sb.2 b λz:b=S=>L (z ▸ wR)];exact e
end
end _3
set_option maxHeartbeats 8000000
namespace _3
open PySem
def byTx(w:aP):Bool:=w.params.followText "set-order"
def tab0(w:aP):SetTable:=.fresh 0 0 (!byTx w)
abbrev newS(w:aP):Obj:={ cls:=.type "set",dict:=none,data:=.set #[] 0 (tab0 w) }
theorem zcg1(w:aP):(tab0 w).fits 0=true:=rfl
section
variable {prog:aN}{w:aP}{A:a7}{E:aA->aG->Prop}{s:aG}
theorem zz41(a:aA){Q:aA->aG->Prop}(h:Q (.ref s.heap.objs.size) { s with heap:=s.heap.push (newS w) }) :
  cP (aM prog w) A (.call (.builtin "set.__new__") ⟨[.type "set",a],[]⟩) (wants Q E) s:=by
 refine mM ?_;show aJ _ A.in1 (lX "set.__new__" ⟨[.type "set",a],[]⟩ >>= λ_=>again (.builtin "set.__new__" ⟨[.type "set",a],[]⟩)) _ _ s;refine aC (lK (F.newCall_set_1 a) (aI ⟨cU mP _,b6 F.entry_set_new ?_⟩));rw[bU mP _];unfold Builtin.«set.__new__» Builtin.Frozenset.newClass;have p:=PySem.sub_set_self;obtain⟨q,g,d,tk,os⟩:=s;dsimp only
 wp_walk
 refine d0 (aI ?_);dsimp only;simp only[newObj];refine aC (wpAny_alloc (aI ?_));exact aI h
def zr81(s:aG)(p:aT):Prop:=∀b o,b < s.heap.objs.size->s.heap.get? b=some o->p.get? b=some o
theorem zjv{l:aE}{xs:Array aA}{ns:List Int}{Q:aA->aG->Prop}(calm:A.handled=none)(hl:s.heap.IsList l xs)(hi:nU xs.toList ns)(nd:ns.Nodup)(L:ns.length+1 < iY)
  (h:∀(p:aT)(tk:Nat),PutAt (tab0 w) s.heap.objs.size ns p->zr81 s p->Q (.ref s.heap.objs.size) { s with heap:=p,toks:=tk }) :
  aJ (aM prog w) A (call (.type "set") [.ref l]) Q E s:=by
 have nx:xs.size=ns.length:=by rw[<- wY];exact PyProof.Rows.IntsAre.length hi
 obtain⟨c,tl,hmro⟩:=F.called_set.mro;have hmade:=F.called_set.made;have hsub:=F.called_set.sub;refine iJ (mM ?_);show aJ _ _ (callAny (.type "set") _) _ _ _;refine aI ⟨Code.quiet_builtin _ (by decide +kernel),b6 F.entry_type_call ?_⟩;rw[Around.under_plain (weight_type_call_type "set" [.ref l] []) rfl];have n1:=F.called_set.notType;have n2:=F.called_set.canCreate;have n3:=F.typeCall_set_1 (.ref l)
 repeat (any_goals (first|assumption|wp_step))
 refine d7 (zz41 (.ref l) (E:=E) (Q:=λv s1=>v=.ref s.heap.objs.size/\s1={ s with heap:=s.heap.push (newS w) }) ⟨rfl,rfl⟩) λr s1 hr=>?_;cases r with
|error e=>exact hr
|ok fl =>
  cases fl with
 |ret obj =>
   obtain⟨rfl,rfl⟩:=hr;have gS:(s.heap.push (newS w)).get? s.heap.objs.size=some (newS w):=v7 _ rfl;have tS:Shared.TypeIs { s with heap:=s.heap.push (newS w) } (.ref s.heap.objs.size) "set":=⟨_,gS,rfl⟩
   have m1:=F.called_set.init.lookup;have m2:=F.called_set.init.bind (.ref s.heap.objs.size)
   repeat (any_goals (first|assumption|wp_step))
   refine d7 (iO (R:=wants (λr s2=>r=.none/\∃p tk,s2={ s with heap:=p,toks:=tk }/\PutAt (tab0 w) s.heap.objs.size ns p/\zr81 s p) E) F.called_set.init.plain F.entry_set_init (check_set_init_1 tS ?_)) λr2 s2 u=>?_
   ·obtain⟨ol,gl,cl,nl,dl⟩:=hl;obtain⟨ocls,B,odata,q⟩:=ol;simp only at cl dl;subst cl dl;have W:(s.heap.push (newS w)).get? l=some { cls:=.type "list",dict:=B,data:=.seq xs nl,slots:=q }:=vU _ gl;have q1:=F.sub_list_set;have q2:=F.sub_list_frozenset;have q3:(zT "list" == zT "dict")=false:=by decide
    have l1:(s.heap.push (newS w)).IsList l xs:=⟨_,W,rfl,nl,rfl⟩
    unfold Builtin.«set.__init__» noKeywords Builtin.Frozenset.updateFrom;generalize Z:gH=PI
    wp_walk
    subst Z;refine dS l1 ?_;refine aC (wpAny_runValue ?_);have ll:l < s.heap.objs.size:=vZ gl;have G:A.in1.in1.in1.handled=none:=by simp[calm]
    have S:l≠(s.heap.push (newS w)).objs.size:=by rw[xH];exact wF (yW ll)
    have nf:s.heap.objs.size ∉ [(s.heap.push (newS w)).objs.size,l]:=by
     rw[xH];simp only[vT,List.not_mem_nil,or_false,not_or];exact⟨wF (zU _),y3 ll⟩
    have hv:∀(i:Nat)(v:aA),xs[i]?=some v->∃t,v=.int (ns.getD i 0) t:=λi v z=>PyProof.Rows.IntsAre.int_at hi i v (by rw[yJ];exact z);refine zrz (t0:=tab0 w) (zcg1 w) (Walks.list G _ l S xs).toS nf nx.symm nd hv (by lia) xs.size 0 _ (by lia) ⟨⟨_,v7 _ rfl,rfl,rfl⟩,l1.push _⟩ ⟨[],⟨rfl,λj e z=>by simp at z⟩,_,0,vU _ gS,⟨rfl,rfl,rfl⟩,rfl⟩ λs' I J=>?_;obtain⟨p,g',d',M,O⟩:=s';have e1:g'=s.gens:=I.gens;have e2:d'=s.drawn:=I.drawn;have e3:O=s.os:=I.os;subst e1 e2 e3;refine aI ?_;show aJ _ _ (ret xJ) _ _ _;refine aI ⟨rfl,p,M,rfl,J,λb o L e=>?_⟩;refine I.heap b o ?_ (vU _ (vU _ e));rw[xH];simp only[vT,List.not_mem_nil,or_false,not_or];exact⟨wF L,wF (yW L)⟩
   ·cases r2 with
   |error e=>exact u
   |ok Y =>
     cases Y with
    |ret r =>
      obtain⟨rfl,p,tk,rfl,J,kp⟩:=u
      repeat (any_goals (first|assumption|wp_step))
      exact h _ _ J kp
    |_=>exact u.elim
 |_=>exact hr.elim
end
end _3
set_option maxHeartbeats 8000000
namespace _3
open PySem
variable {a:aE}{ep:Nat}
theorem zye:Slot "set_iterator" "__next__" "set_iterator.__next__":=.of (owner := "set_iterator") (n := "__next__") (by rw[g7,eX];kernel_rfl) (by decide +kernel) (by decide +kernel) (by decide +kernel) (by first|exact .inl (by decide +kernel)|exact .inr (by decide +kernel)) (by rw[h9];kernel_rfl)
theorem zsy:iH l3 "set_iterator.__next__"=some Builtin.«set_iterator.__next__»:=entryFor_of_tree (by kernel_rfl)
theorem zeq:Slot "set_iterator" "__iter__" "set_iterator.__iter__":=.of (owner := "set_iterator") (n := "__iter__") (by rw[g7,eX];kernel_rfl) (by decide +kernel) (by decide +kernel) (by decide +kernel) (by first|exact .inl (by decide +kernel)|exact .inr (by decide +kernel)) (by rw[h9];kernel_rfl)
theorem zwy:iH l3 "set_iterator.__iter__"=some Builtin.«dict_keyiterator.__iter__»:=mZ (id' := "dict_keyiterator.__iter__") (by kernel_rfl) rfl (by decide +kernel) (by kernel_rfl)
theorem zrd1:iH l3 "set.__iter__"=some Builtin.«frozenset.__iter__»:=mZ (id' := "frozenset.__iter__") (by kernel_rfl) rfl (by decide +kernel) (by kernel_rfl)
theorem zuh1:Manifest.owners.lookup (String.ofList ['r','o','t','a','r','e','t','i','_','t','e','s'].reverse)=some Manifest.sig_set_iterator:=by kernel_rfl
theorem zwz(a:aA):gI "set_iterator.__next__" ⟨[a],[]⟩:=by unfold gI;rw[signature?_of (id := "set_iterator.__next__") (n:=['_','_','t','x','e','n','_','_']) (o:=['r','o','t','a','r','e','t','i','_','t','e','s']) (by kernel_rfl) zuh1];kernel_rfl
theorem zd21(a:aA):gI "set_iterator.__iter__" ⟨[a],[]⟩:=by unfold gI;rw[signature?_of (id := "set_iterator.__iter__") (n:=['_','_','r','e','t','i','_','_']) (o:=['r','o','t','a','r','e','t','i','_','t','e','s']) (by kernel_rfl) zuh1];kernel_rfl
section
variable {prog:aN}{w:aP}{A:a7}{E:aA->aG->Prop}{s:aG}
def SIt(p:aT)(it a:aE)(slot i n ep:Nat):Prop:=∃o,p.get? it=some o/\o.cls=.type "set_iterator"/\o.data=.fields #[.int slot 0,.int i 0,.ref a,.int n 0,.int ep 0]
theorem SIt.ty{it:aE}{slot i n:Nat}(h:SIt s.heap it a slot i n ep):s.TypeIs (.ref it) "set_iterator":=by
 obtain⟨o,q,p,_⟩:=h;exact⟨o,q,p⟩
theorem zhz{o:Obj}{es:Array (Int×aA)}{t:bG}{Q:aA->aG->Prop}(p:s.heap.get? a=some o)(u:o.ExactSet)(hd:o.data=.set es ep t)(hf:t.fits es.size=true)(pl:byTx w=true \/ t.plain=true)
  (q:Q (.ref s.heap.objs.size) { s with heap:=s.heap.push { cls:=.type "set_iterator",data:=.fields #[.int 0 0,.int 0 0,.ref a,.int es.size 0,.int ep 0] } }):aJ (aM prog w) A (gH (.ref a)) Q E s:=by
 have ty:s.TypeIs (.ref a) "set":=⟨o,p,u.1⟩
 refine lD ty ğl (bT ğl ty zrd1 ?_ (PySem.F.args_set_iter_1 _));unfold Builtin.«frozenset.__iter__» Builtin.Frozenset.slot0;refine aC (aC (show aJ _ _ (pure (v3 a,[])) _ _ s from aI (show aJ _ _ (pure a) _ _ s from aI ?_)));unfold Builtin.Frozenset.sizeOf;refine aC (aC (iT p hd hf (aI ?_)));unfold setDrawn mC;refine aC (aC (eE p hd hf (aC (aC (d0 (aI (aI ?_)))))));dsimp only;have no:∀b:Bool,(!w.params.followText "set-order" && (!t.plain && b))=false:=λb=>by
  rcases pl with z|z
  ·rw[show w.params.followText "set-order"=true from z];rfl
  ·rw[z];simp
 refine dN (λz=>aL (show true=false from z.symm.trans (no (decide (es.size > 1)))) nofun) λ_=>?_;refine aC (aI (aC (wpAny_setEpoch_of p hd hf (aC (bJ (aI ⟨_,rfl, "set_iterator",_,⟨_,v7 _ rfl,rfl⟩,zye.lookup,?_⟩))))))
 simpa[eK]using q
theorem zih{α:Type}:∀{l:List α}{i:Nat}(h:i < l.length),(l[i] :: l.eraseIdx i).Perm l
|a :: r,0,_=>.rfl
|a :: r,i+1,h=>by
  rw[List.getElem_cons_succ,uaW];exact(List.Perm.swap ..).trans ((zih (l:=r) (i:=i) (by simpa using h)).cons a)
theorem zht{α:Type}(next:Nat->Nat):∀(f k:Nat)(l:List α)(out:Array α),l.length<=f->(pickOrder.go next f k l out).toList.Perm (out.toList++l)
|0,k,l,out,h=>by
  have:l=[]:=zP (by lia);subst this;unfold pickOrder.go;rw[wS]
|f+1,k,l,out,h=>by
  unfold pickOrder.go;cases l with
 |nil=>simp
 |cons y r =>
   have p:next k % (y :: r).length < (y :: r).length:=Nat.mod_lt _ (by simp);rw[u4 p];dsimp only;refine(zht next f (k+1) _ _ (by rw[List.length_eraseIdx_of_lt p];lia)).trans ?_;rw[Array.toList_push,wD];refine List.Perm.append_left _ ?_;exact zih p
theorem zlw{α:Type}(next:Nat->Nat)(xs:Array α):(m9 next xs).toList.Perm xs.toList:=by
 unfold m9;exact(zht next xs.size 0 xs.toList #[] (by simp)).trans (by simp)
end
end _3
set_option maxHeartbeats 8000000
namespace _3
open PySem
variable {a it:aE}{ep i:Nat}{es:Array (Int×aA)}{o:Obj}
section
variable {prog:aN}{w:aP}{A:a7}{E:aA->aG->Prop}{s:aG}
def zoh(w:aP)(t:bG)(i:Nat):Nat:=if byTx w=true then 0 else zrb1 t i
def ordW(w:aP)(a:aE)(ep:Nat)(es:Array (Int×aA)):Array (Int×aA):=if byTx w=true then m9 (w.params.setOrder a ep) es else es
theorem zyh(w:aP)(a:aE)(ep:Nat)(es:Array (Int×aA)):(ordW w a ep es).toList.Perm es.toList:=by
 unfold ordW;split
 ·exact zlw ..
 ·exact .rfl
theorem zak(w:aP)(a:aE)(ep:Nat)(es:Array (Int×aA)):(ordW w a ep es).size=es.size:=by
 rw[<- wY,(zyh w a ep es).length_eq,wY]
theorem zzo{t:bG}{Q:Option (aA×Nat)->aG->Prop}(p:s.heap.get? a=some o)(hd:o.data=.set es ep t)(hf:t.fits es.size=true)(ok:byTx w=true \/ okT es.size t=true)(hi:i<=es.size)
  (q:Q (((ordW w a ep es)[i]?).map λe=>(e.2,zoh w t (i+1))) s):aJ (aM prog w) A (setNext a (zoh w t i) i ep) Q E s:=by
 unfold setNext mC;refine aC (eE p hd hf ?_);refine aC (aC (d0 (aI ?_)));dsimp only;refine dN (λz=>?_) λz=>?_
 ·have z:byTx w=true:=z;rw[aF (by simp)];unfold setWalk mC;refine aC (aC (eE p hd hf (aC (aC (d0 (aI ?_))))));refine dN (λ_=>?_) λy=>aL z y;refine aC (d0 (aI (aI ?_)));unfold ordW zoh at q;rw[aH z,aH z]at q;unfold zoh;rw[aH z];exact q
 ·have z:¬byTx w=true:=z;have ok:okT es.size t=true:=ok.resolve_left z;unfold okT at ok;simp only[yA,uaA,u9,beq_iff_eq]at ok;obtain⟨⟨⟨I,G⟩,J⟩,B⟩:=ok;refine dN (λy=>aL (show true=false from y.symm.trans (show(!t.plain && decide (es.size > 1))=false by rw[I];rfl)) nofun) λ_=>?_;have led:aJ (aM prog w) A (if(!t.led && !es.isEmpty)=true then unsupported "set:maker-not-led" else pure ()) (λ_ s'=>aJ (aM prog w) A (pure (match es[iB t.place (zoh w t i)]?,t.place[iB t.place (zoh w t i)]? with
    |some (_,x),some j=>some (x,j+1)
    |_,_=>none)) Q E s') E s:=by
   rw[G,aF (by simp)];refine aI (aI ?_);unfold ordW zoh at q;rw[aF z,aF z]at q;unfold zoh;rw[aF z,B i (by lia)];rcases wZ i es.size with lt|u
   ·rw[zQ lt,zQ (by lia)];rw[zQ lt]at q;unfold zrb1 at q;rw[aF (by lia),zA,Array.getD_eq_getD_getElem?,zQ (by lia)]at q;exact q
   ·rw[k8 u];rw[k8 u]at q;exact q
  exact aC led
theorem zur{t:bG}{Q:Option aA->aG->Prop}(calm:A.handled=none)(J:SIt s.heap it a (zoh w t i) i es.size ep)(G:s.heap.get? a=some o)(hd:o.data=.set es ep t)(hf:t.fits es.size=true)(ok:byTx w=true \/ okT es.size t=true)(hi:i<=es.size)
  (S:∀e,(ordW w a ep es)[i]?=some e->∀h':aT,SIt h' it a (zoh w t (i+1)) (i+1) es.size ep->bF it s.heap h'->Q (some e.2) { s with heap:=h' })
  (O:es.size<=i->∀h':aT,eM it s.heap h'->Q none { s with heap:=h' }):aJ (aM prog w) A (dU (.ref it)) Q E s:=by
 have ty:=J.ty;obtain⟨io,u,W,p⟩:=id J;unfold dU;refine aC (iP (bY (name:=xL "__next__") ty zye (bT zye ty zsy ?_ (zwz _))));unfold Builtin.«set_iterator.__next__»;refine aC (show aJ _ _ (pure (v3 it,[])) _ _ s from aI ?_);refine aC (wpAny_fieldsOf u p ?_);refine aC (iT G hd hf ?_);dsimp only;rw[aF (by simp)];simp only[v6];refine aC (zzo G hd hf ok hi ?_);rcases wZ i es.size with lt|L
 ·have M:(ordW w a ep es)[i]?=some ((ordW w a ep es)[i]'(by rw[zak];exact lt)):=zQ _;have q:=S _ M;rw[M];dsimp only[Option.map_some];refine aC (eC u p (by simp) ?_);have I:=yT (iS (·.setIfInBounds 0 (eK (zoh w t (i+1):Nat)))) u (e6 (cK p _));have z:=cK p (·.setIfInBounds 0 (eK (zoh w t (i+1):Nat)));refine aC (eC I z (by simp) ?_);have B:SIt ((s.heap.update it (iS (·.setIfInBounds 0 (eK (zoh w t (i+1):Nat))))).update it (iS (·.setIfInBounds 1 (eK ((i:Int)+1))))) it a (zoh w t (i+1)) (i+1) es.size ep:=by
   refine⟨_,yT _ I (e6 (cK z _)),(gD ..).trans ((gD ..).trans W),?_⟩;rw[cK z];simp[eK]
  exact aI ⟨_,rfl,aI (q _ B ((b8 ..).trans (b8 ..)))⟩
 ·rw[k8 (by rw[zak];exact L)];dsimp only[Option.map_none];refine aC (eC u p (by simp) ?_);refine aC (show aJ _ _ (nM (.type "StopIteration") []) _ _ _ from ?_);simp only[nM,newTuple];refine aC (bJ (hd:=by size_fits) (aC (m:=iA _ _) (lK (a:=xJ) (by rfl) (bJ (hd:=by size_fits) ?_))));simp only[raiseNew];refine aC (wpAny_handled ?_);rw[show A.in1.handled=none from calm];refine aC (aI (wpAny_throw ?_));refine aC (gO (b:=true) (T := "StopIteration") ⟨_,v7 _ rfl,rfl⟩ mY (aI (O L _ ?_)));exact((b8 ..).extBut.push _).push _
theorem zow{t:bG}(calm:A.handled=none)(ne:a≠it)(hd:o.data=.set es ep t)(hf:t.fits es.size=true)(ok:byTx w=true \/ okT es.size t=true) :
  PySem.Walks prog w A it [it,a] [it] es.size (λi v=>∃e,(ordW w a ep es)[i]?=some e/\v=e.2) (λi h=>i<=es.size/\SIt h it a (zoh w t i) i es.size ep/\h.get? a=some o) where
 sub:=by simp
 frame:=λi h h' ⟨hi,⟨io,J,I⟩,p⟩ k=>⟨hi,⟨io,k _ (by simp) _ J,I⟩,k _ (by simp) _ p⟩
 item:=λi s Q E hi ⟨_,S,p⟩ u=>zur calm S p hd hf ok (yH hi) (λe q h' M B=>u _ h' s.toks ⟨e,q,rfl⟩ ⟨hi,M,B.extBut a o ne p⟩ λb o nb z=>B.extBut b o (by simpa using nb) z) λG=>aL hi (Nat.not_lt.mpr G)
 done:=λs Q E ⟨_,S,p⟩ u=>zur calm S p hd hf ok (u7 _) (λe q=>by rw[k8 (by rw[zak];exact u7 _)]at q;cases q) λ_ h' L=>u h' s.toks λb o nb z=>L b o (by simpa using nb) z
 self:=λi s Q E S h=>by
  have ty:=S.2.1.ty;refine lD ty zeq (bT zeq ty zwy ?_ (zd21 _));show aJ _ _ (ret (.ref it)) _ _ s;exact aI ⟨_,rfl, "set_iterator",_,ty,zye.lookup,h⟩
end
end _3
set_option maxHeartbeats 8000000
namespace _3
open PySem PySem.W PySem.Spec PyProof.Rows _2 _5
variable {es es':Array (Int×aA)}
section
variable {prog:aN}{w:aP}{A:a7}{E:aA->aG->Prop}{s:aG}
theorem zuy{r:aE}{Q:Bool->aG->Prop}(ty:s.TypeIs (.ref r) "set")(h:Q false s):aJ (aM prog w) A (fZ (.ref r)) Q E s:=by
 unfold fZ;refine aC (wpAny_specialOf ty PySem.F.slot_set_len.lookup ?_);generalize p:("set.__len__":String)=id0
 wp_delta
 rw[show splitId id0=some ("set", "__len__")from by subst p;decide +kernel];subst p;refine aC (gO (T := "set") (b:=true) ty (by rw[h9];kernel_rfl) ?_);refine dN (λz=>aL z (by decide)) λ_=>?_;refine dN (λ_=>?_) λz=>aL (by decide +kernel) z;refine aC (gM ty ?_);exact aI h
theorem zn91{a:aE}{o:Obj}{ep:Nat}{t:bG}(q:o.ExactSet)(hd:o.data=.set es ep t)(hf:t.fits es.size=true)(ok:byTx w=true \/ okT es.size t=true) :
  KdlSrc prog w "set" a a es.size (λi v=>∃e,(ordW w a ep es)[i]?=some e/\v=e.2) (λh=>h.get? a=some o) where
 type:=λ_ p=>⟨o,p,q.1⟩
 there:=λ_ p=>⟨vZ p,vZ p⟩
 keep:=λ_ _ p B=>B a (.inl rfl) _ p
 notList:=by decide
 notTuple:=by decide
 hint:=λ_ _ _ _ p u=>zuy ⟨o,p,q.1⟩ u
 iter:=λA s G p=>⟨_,_,(λ_ _ u=>zhz p q hd hf (ok.imp id λz=>by
   unfold okT at z;simp only[yA]at z;exact z.1.1.1) u),zow G (wF (vZ p)) hd hf ok,⟨wU _,⟨_,v7 _ rfl,rfl,by unfold zoh zrb1;simp⟩,vU _ p⟩⟩
end
def fsts(es:Array (Int×aA)):List Int:=es.toList.map (·.1)
theorem zc8(h:fsts es=fsts es'):es.size=es'.size:=by
 have:=congrArg zI h
 simpa[fsts]using this
theorem zno(es:Array (Int×aA))(p:Nat)(x:Int×aA):fsts (eI es p x)=(fsts es).take p++x.1 :: (fsts es).drop p:=by
 unfold fsts eI;simp[Array.toList_extract,uaL,List.map_drop,yD]
theorem zg81(h:fsts es=fsts es')(t:bG)(k:Int)(x y:aA):fsts (cH t es k x).1=fsts (cH t es' k y).1/\(cH t es k x).2=(cH t es' k y).2:=by
 unfold cH;split
 ·rename_i slot q e
  have p:fsts (eI es (t.put slot).2 (k,x))=fsts (eI es' (t.put slot).2 (k,y)):=by rw[zno,zno,h]
  exact⟨p,by dsimp only;rw[zc8 p]⟩
 ·refine⟨?_,by rw[zc8 h]⟩;unfold fsts at h ⊢;simp[h]
theorem zlv(h:fsts es=fsts es')(t:bG)(n:Nat):fsts (cB t es n).1=fsts (cB t es' n).1/\(cB t es n).2=(cB t es' n).2:=by
 have u:es.map (·.1)=es'.map (·.1):=by
  apply uaC.mp;rw[Array.toList_map,Array.toList_map];exact h
 have hz:=zc8 h;unfold cB;rw[u];split
 ·rename_i t' p e
  have q:fsts (p.filterMap (es[·]?))=fsts (p.filterMap (es'[·]?)):=by
   unfold fsts at h ⊢;rw[ua6,ua6,k9,k9];congr 1;funext j;have:(es.toList.map (·.1))[j]?=(es'.toList.map (·.1))[j]?:=by rw[h]
   rw[u8,u8,yJ,yJ]at this;exact this
  dsimp only;rw[hz,zc8 q];split
  ·exact⟨q,rfl⟩
  ·exact⟨h,rfl⟩
 ·exact⟨h,by rw[hz]⟩
theorem zba1(h:fsts es=fsts es')(t:bG)(k:Int)(x y:aA):fsts (addT es t k x).1=fsts (addT es' t k y).1/\(addT es t k x).2=(addT es' t k y).2:=by
 obtain⟨p,u⟩:=zg81 h t k x y;have q:=zc8 p;unfold addT;rw[u,q];split
 ·obtain⟨a,b⟩:=zlv p (cH t es' k y).2.1 (bO (cH t es' k y).1.size);exact⟨a,by rw[b]⟩
 ·exact⟨p,rfl⟩
theorem zni:∀(f k:Nat)(es:Array (Int×aA))(t:bG),chkT f k es t=true->∀(xs:List (Int×aA))(es':Array (Int×aA)),fsts es'=fsts es->(xs.map (·.1)).Pairwise (· < ·)->(∀e∈xs,(k:Int)<=e.1/\e.1 < (k+f:Nat))->okT (xs.foldl (λp e=>addT p.1 p.2 e.1 e.2) (es',t)).1.size (xs.foldl (λp e=>addT p.1 p.2 e.1 e.2) (es',t)).2=true
|0,k,es,t,h,xs,es',G,u,hb=>by
  have:xs=[]:=by
   cases xs with
  |nil=>rfl
  |cons e r=>have:=hb e (by simp);simp only[Nat.add_zero]at this;lia
  subst this;unfold chkT at h;show okT es'.size t=true;rw[zc8 G];exact h
|f+1,k,es,t,h,xs,es',G,u,hb=>by
  unfold chkT at h;rw[yA]at h;obtain⟨J,I⟩:=h;have skip:(∀e∈xs,((k+1:Nat):Int)<=e.1)->okT (xs.foldl (λp e=>addT p.1 p.2 e.1 e.2) (es',t)).1.size (xs.foldl (λp e=>addT p.1 p.2 e.1 e.2) (es',t)).2=true:=λz=>zni f (k+1) es t J xs es' G u λe B=>⟨z e B,by have:=(hb e B).2;lia⟩
  cases xs with
 |nil=>exact skip λe B=>by simp at B
 |cons e r =>
   rw[v9,z8]at u;have hr:∀y∈r,e.1 < y.1:=λy q=>u.1 y.1 (vV.mpr ⟨y,q,rfl⟩);have L:=hb e (by simp);by_cases c:e.1=(k:Int)
   ·obtain⟨a,b⟩:=zba1 G t e.1 e.2 .none;rw[c]at a b;have:=zni f (k+1) (addT es t k .none).1 (addT es t k .none).2 I r (addT es' t k e.2).1 a u.2 λy q=>⟨by have:=hr y q;lia,by have:=(hb y (by simp[q])).2;lia⟩
    rw[zK];rw[<- b]at this;rw[c];exact this
   ·exact skip λy q=>by
     rcases vT.mp q with z|z
     ·subst z;lia
     ·have:=hr y z;lia
theorem zeh{k:Int}(p:0<=k)(h:k < 3):cO k=k:=by
 have:k=0 \/ k=1 \/ k=2:=by lia
 rcases this with rfl|rfl|rfl <;> decide
end _3
set_option maxHeartbeats 8000000
namespace _3
open PySem PySem.W PySem.Spec PyProof.Rows _2 _5
variable {X:Cx}
theorem Put.fst{ns:List Int}{xs:List (Int×aA)}(h:Put ns xs)(q:∀k∈ns,0<=k/\k < 3):xs.map (·.1)=ns:=by
 refine yX (by rw[u5];exact h.1) λi z u=>?_;have G:i < xs.length:=by simpa using z
 rw[uaN];obtain⟨k,tk,p,B⟩:=h.2 i xs[i] (u4 _);rw[u4 u]at p;cases p;have:=q ns[i] (xE _);rw[B];exact zeh this.1 this.2
theorem zpd1:a8 "set"=some (.type "set"):=by decide +kernel
def rSet(K:Fg)(w:aP):List V->Hp->VK->Prop:=λvs H Q=>∃(a:aE)(ns:List Int),vs=[.ref a]/\SqL K H a (ns.map V.int)/\ns.Nodup/\ns.length < 64/\∀l,H l=none->Q (.ref l) (upd H l (.ext (PutAt (tab0 w) l ns)))
def zt71(w:aP):List V->Hp->VK->Prop:=λvs H Q=>∃(a:aE)(ns:List Int),vs=[.ref a]/\H a=some (.ext (PutAt (tab0 w) a ns))/\ns.Pairwise (· < ·)/\(∀k∈ns,0<=k/\k < 3)/\ns.length < 64/\∀l,H l=none->Q (.ref l) (upd H l (.lst (ns.map V.int)))
theorem zbu{K:Fg}(h:X.K=K)(O:X.calm=true):CallR X (.type "set") (rSet K X.w):=by
 subst h;walk_at"3";obtain⟨a,ns,rfl,M,nd,W,q⟩:=h;obtain⟨u,rfl,J⟩:=zwl r;cases J;obtain⟨its,rv,p,hz⟩:=I.list M;refine zjv (I.ok.hd O) p.isList (by simpa using zx6 rv) nd (by unfold iY;lia) λS tk G L=>?_;refine⟨.ref _,upd H s.heap.objs.size (.ext (PutAt (tab0 X.w) s.heap.objs.size ns)),I.laid (a:=s.heap.objs.size) (t':=tk) (λb o B=>L b o (vZ B) B) (u7 _) ⟨G,?_,λh1 Z z k=>z.keep k⟩,rfl,q _ (I.hok.fresh (u7 _))⟩;obtain⟨_,_,o,_,B,_⟩:=G;exact⟨o,B⟩
theorem zuo:∀{b a:List Int},a.Perm b->a.Pairwise (·<=·)->b.Pairwise (· < ·)->a=b
|[],a,p,_,_=>p.eq_nil
|y :: r,[],p,_,_=>by simp at p
|y :: r,x :: l,p,q,hb=>by
  rw[z8]at q hb;have e:x=y:=by
   have B:x∈y :: r:=p.mem_iff.mp (by simp);have u:y∈x :: l:=p.mem_iff.mpr (by simp);rcases vT.mp B with z|z
   ·exact z
   ·rcases vT.mp u with w|w
    ·exact w.symm
    ·have:=hb.1 x z;have:=q.1 y w;lia
  subst e;rw[zuo p.cons_inv q.2 hb.2]
theorem zfq(hc:X.calm=true):CallR X (.builtin "sorted") (zt71 X.w):=by
 walk_at"3";obtain⟨a,ns,rfl,hx,M,hb,hn,q⟩:=h;obtain⟨u,rfl,r1⟩:=zwl r;cases r1;obtain⟨⟨ys,W,o,ep,S,hex,hd⟩,_,_⟩:=(show ObjOk X.prog X.w H s.heap a (.ext (PutAt (tab0 X.w) a ns))from I.hok a _ hx)
 have p:=zcg1 X.w;have hs:=zfg p ys;have ef:=W.fst hb;have ok:byTx X.w=true \/ okT (zmh (tab0 X.w) ys).1.size (zmh (tab0 X.w) ys).2=true:=by
  by_cases c:byTx X.w=true
  ·exact .inl c
  ·refine .inr ?_;have et:tab0 X.w=.fresh 0 0 true:=by unfold tab0;simp only[zV]at c;rw[c];rfl
   rw[et];exact zni 3 0 #[] (.fresh 0 0 true) zoi1 ys #[] rfl (by rw[ef];exact M) λe Z=>by
    have:=hb e.1 (by rw[<- ef];exact vV.mpr ⟨e,Z,rfl⟩)
    simpa using this
 have O:ys.length=ns.length:=W.1;refine Calls.call_function_entry kind_sorted plain_sorted entry_sorted (args_sorted1 _) ?_;unfold Builtin.«sorted»;refine aC (m:=checkCount "sorted" 1 1 _) (aI ?_);refine aC (iV (A:=X.A.in1) (zn91 hex hd (zpf p ys) ok) (I.ok.hd hc) S (by rw[aQ,hs];lia) λh' tk acc hk' z=>?_);have hl:acc.toList.length=ns.length:=by rw[wY,z.1,hs,O]
 have pm:((ordW X.w a ep (zmh (tab0 X.w) ys).1).toList.map (·.1)).Perm ns:=by
  rw[<- ef];exact((zyh ..).trans (zu7 p ys)).map _
 have hI:dL acc.toList ((ordW X.w a ep (zmh (tab0 X.w) ys).1).toList.map (·.1)):=zcc (by rw[hl,pm.length_eq]) λj v i e1 e2=>by
  obtain⟨e,e3,e4⟩:=z.2 j v (by rw[<- yJ];exact e1);rw[u8,yJ,e3]at e2;cases e2;have em:e∈ys:=((zyh ..).trans (zu7 p ys)).mem_iff.mp (uaT.mpr (Array.mem_of_getElem? e3));obtain⟨k,B,h1,rfl⟩:=W.mem em;have:=hb k h1;exact⟨B,by rw[e4];show yF k B=.int (cO k) B;rw[zeh this.1 this.2]⟩
 refine aC (wpAny_newList ?_ (by rw[hl,aQ];lia));have G:(h'.push { cls:=.type "list",data:=.seq acc.toList.toArray }).get? h'.objs.size=some (l5 "list" acc.toList.toArray 0):=v7 _ rfl;refine aC (bL (bT mU ⟨_,G,rfl⟩ mL (mW G hI (by rw[hl];lia) λout J a1 a2 a3=>⟨_,rfl,?_⟩) (m3 _)));refine aI ⟨_,rfl,?_⟩;have en:J=ns:=zuo (a2.trans pm) a3 M;subst en;obtain⟨e,Z⟩:=sortedHeap_at (out:=out) G;have I2:=I.kept (t':=tk) hk';refine⟨.ref _,upd H h'.objs.size (.lst (J.map V.int)),I2.laid (a:=h'.objs.size) (t':=tk) (λb o S=>?_) (u7 _) ?_,rfl,q _ (I2.hok.fresh (u7 _))⟩
 ·have L:=vZ S;rw[mT (wF L) (by rw[size_push'];exact yW L)];exact vU _ S
 ·refine⟨by rw[u5,aQ];lia,out.toList,e,zh9 a1,?_⟩
  simpa[l5]using Z
end _3
namespace _4
open PySem PySem.Spec PyProof.Rows _2 _3
section
variable {K:Fg}{te:TE}{de:DE}{w:aP}
def zhf1(d:D)(Q:List D->Prop):Prop:=∃ns:List Int,d=.list (ns.map .int)/\ns.Pairwise (· < ·)/\(∀k∈ns,0<=k/\k < 3)/\ns.length < 64/\Q (ns.map .int)
def znz(de:DE):DF:=λU Q=>de U λd=>zhf1 d Q
theorem zry(h:RfE K te de):RfF K (tCB (zt71 w) (zdm (tCB (rSet K w) (zdm te tNil)) tNil)) (znz de):=by
 walk_at"2";refine h s rv hd λd hd v J I G S=>?_;obtain⟨ns,rfl,B,W,M,q⟩:=hd;obtain⟨p,xs,rfl,Z,O⟩:=(show ∃p xs,v=.ref p/\SqL K I p xs/\IsAll K I xs (ns.map .int) by
  cases S.mono G.fh with
 |lst a b=>exact⟨_,_,rfl,a,b⟩)
 have:=zic O (ints_map ns);subst this;refine⟨p,ns,rfl,Z,B.imp λz=>Int.ne_of_lt z,M,λl hl=>?_⟩;refine⟨l,ns,rfl,zq0,B,W,M,λL u=>?_⟩;have ne:L≠l:=λz=>by subst z;rw[zq0]at u;cases u
 have x1:Ext J I J (upd I l (.ext (PutAt (tab0 w) l ns))):=zwk G.fh hl;obtain⟨ex,fn⟩:=zx7 (xs:=ns.map V.int) x1.fh u;exact k _ q L _ J _ ((G.trans x1).trans ex) (zn2 (G.trans x1) u) zq0 fn (zrs ns)
end
theorem zvi(de:DE)(U:DSt)(Q:List D->Prop):znz de U Q=(de U λd=>∃ns:List Int,d=.list (ns.map .int)/\ns.Pairwise (· < ·)/\(∀k∈ns,0<=k/\k < 3)/\ns.length < 64/\Q (ns.map .int)):=rfl
theorem zt41{α β:Type}(f:α->β)(a:α)(l:List α):yN f (a :: l)=f a :: yN f l:=rfl
theorem zez{α β:Type}(f:α->β):yN f []=[]:=rfl
theorem zz31{α:Type}(a d:α)(l:List α):List.getD (a :: l) 0 d=a:=rfl
theorem zc31{α:Type}(a d:α)(l:List α)(n:Nat):List.getD (a :: l) (n+1) d=List.getD l n d:=rfl
theorem r_nt:(!true)=false:=rfl
theorem r_nf:(!false)=true:=rfl
theorem zdc1{α:Sort u}(a b:α):(if true=true then a else b)=a:=rfl
theorem ztf1{α:Sort u}(a b:α):(if false=true then a else b)=b:=rfl
theorem zvf1{α:Sort u}(a b:α):(if true=false then a else b)=b:=rfl
theorem zle1{α:Sort u}(a b:α):(if false=false then a else b)=a:=rfl
end _4
open PySem PySem.Spec PyProof.Rows _2 _3 _4 _5
namespace _5
theorem zkt(x:D->Prop)(i j:Int):fAdd (u6 i) (u6 j) x=x (u6 (i+j)):=rfl
theorem zso(x:D->Prop)(a b:Str):fAdd (wQ a) (wQ b) x=(a.length+b.length<=sizeLine/\x (wQ (a++b))):=rfl
theorem zbq(x:D->Prop)(a b:List aY):fAdd (wB a) (wB b) x=(a.length+b.length<=sizeLine/\x (wB (a++b))):=rfl
theorem zqr(x:D->Prop)(a b:List aY):fAdd (xF a) (xF b) x=(a≠[]/\b≠[]/\a.length+b.length<=sizeLine/\x (xF (a++b))):=rfl
theorem zxq(x:List D->Prop)(a b:List aY):fCat (wB a) (wB b) x=(a.length+b.length<=sizeLine/\x (a++b)):=rfl
theorem zod1(C:Int->Int->Prop)(g:Int->Int->D)(x:D->Prop)(i j:Int):fI C g (u6 i) (u6 j) x=(C i j/\x (g i j)):=rfl
theorem zv01(g:Int->Int->D)(x:D->Prop)(i j:Int):fI0 g (u6 i) (u6 j) x=x (g i j):=rfl
theorem zps(x:D->Prop)(i j:Int):fMul (u6 i) (u6 j) x=(CMul i j/\x (u6 (i * j))):=rfl
theorem zzs(x:D->Prop)(z:Str)(n:Int):fMul (wQ z) (u6 n) x=(0<=n/\z.length * n.toNat<=sizeLine/\n<=↑sizeLine/\x (wQ (repS z n.toNat))):=rfl
theorem ztp(x:List D)(p:List D->Prop)(n:Int):fRep x (u6 n) p=(n < 2 ^ 62/\-2 ^ 62<=n/\x.length * n.toNat<=sizeLine/\p (vY n.toNat x).flatten):=rfl
theorem zd41(x:D->Prop)(i j:Int):fEq (u6 i) (u6 j) x=x (wM (decide (i=j))):=rfl
theorem zs01(x:D->Prop)(i j:Str):fEq (wQ i) (wQ j) x=x (wM (decide (i=j))):=rfl
theorem zg51(x:D->Prop)(i j:Bool):fEq (wM i) (wM j) x=x (wM (decide (i=j))):=rfl
theorem zr41(x:D->Prop)(i j:Int):fNe (u6 i) (u6 j) x=x (wM !decide (i=j)):=rfl
theorem zd31(x:D->Prop)(i j:Str):fNe (wQ i) (wQ j) x=x (wM !decide (i=j)):=rfl
theorem zp41(x:D->Prop)(i j:Bool):fNe (wM i) (wM j) x=x (wM !decide (i=j)):=rfl
theorem zjn(x:D)(p:D->Prop):fIsN x y8 p=p (wM (zwu x)):=rfl
theorem zgj(x:D)(p:D->Prop):zkb1 x y8 p=p (wM !zwu x):=rfl
theorem zy41(x:D->Prop)(ds:List aY)(i:Int):fIx (wB ds) (u6 i) x=∃d,atI ds i=some d/\x d:=rfl
theorem zh01(x:D->Prop)(ds:List aY)(i:Int):fIx (xF ds) (u6 i) x=∃d,atI ds i=some d/\x d:=rfl
theorem zr01(x:D->Prop)(z:Str)(i:Int):fIx (wQ z) (u6 i) x=(z.length<=sizeLine/\∃c,atI z.cps.toList i=some c/\x (wQ { cps:=#[c] })):=rfl
theorem zj11(neg:Bool)(x:D)(p:D->Prop)(ds:List aY):fIn neg x (wB ds) p=(zwc x=true/\ds.all zwc=true/\p (wM (if neg=true then !ds.any λy=>eqF y x else ds.any λy=>eqF y x))):=rfl
theorem zkz(neg:Bool)(x:D)(p:D->Prop)(ds:List aY):fIn neg x (xF ds) p=(zwc x=true/\ds.all zwc=true/\p (wM (if neg=true then !ds.any λy=>eqF y x else ds.any λy=>eqF y x))):=rfl
theorem zw11(neg:Bool)(x:D->Prop)(c z:Str):fIn neg (wQ c) (wQ z) x=∃n,c={ cps:=#[n] }/\x (wM (if neg=true then !decide (n∈z.cps.toList)else decide (n∈z.cps.toList))):=rfl
theorem zmn(x:D->Prop)(i:Int):fNeg (u6 i) x=x (u6 (-i)):=rfl
theorem zsf1(Q:Bool->Prop)(b:Bool):fB (wM b) Q=Q b:=rfl
theorem zin(x:Bool->Prop):fTru y8 x=x false:=rfl
theorem zgs(x:Bool->Prop)(b:Bool):fTru (wM b) x=x b:=rfl
theorem zvn(x:Bool->Prop)(i:Int):fTru (u6 i) x=x (i != 0):=rfl
theorem zqq(x:Bool->Prop)(z:Str):fTru (wQ z) x=(z.length<=sizeLine/\x ((z.length:Int) != 0)):=rfl
theorem zcq(x:Bool->Prop)(ds:List aY):fTru (wB ds) x=x !ds.isEmpty:=rfl
theorem zup(x:Bool->Prop)(ds:List aY):fTru (xF ds) x=x !ds.isEmpty:=rfl
theorem zos(x:Bool->Prop)(kvs:List (aY×aY)):fTru (PyData.dict kvs) x=False:=rfl
theorem zvq(x:D->Prop)(ds:List aY):fLen [wB ds] x=x (u6 ↑ds.length):=rfl
theorem znn(x:D->Prop)(ds:List aY):fLen [xF ds] x=x (u6 ↑ds.length):=rfl
theorem zdn(x:D->Prop)(z:Str):fLen [wQ z] x=(z.length<=sizeLine/\x (u6 ↑z.length)):=rfl
theorem ztj(x:D->Prop)(i j:Int):zje1 [u6 i,u6 j] x=x (u6 (if j > i then j else i)):=rfl
theorem zar(x:D->Prop)(ds:List aY):fSum [wB ds] x=∃ns,zpd ds=some ns/\x (u6 ns.sum):=rfl
theorem zyi(x:List D->Prop)(ds:List aY):zxb1 [wB ds] x=x ds:=rfl
theorem zck(x:List D->Prop)(ds:List aY):zxb1 [xF ds] x=x ds:=rfl
theorem zsp(x:D->Prop)(i:Int):fInt [u6 i] x=x (u6 i):=rfl
theorem zkr(x:D->Prop)(b:Bool):fInt [wM b] x=x (u6 (if b=true then 1 else 0)):=rfl
theorem zrn(x:D->Prop)(z:Str):fInt [wQ z] x=∃n,intText? z=some n/\z.length<=640/\x (u6 n):=rfl
theorem zwi(x:D->Prop)(ds:List aY):zlb1 [wB ds] x=∃ns,zpd ds=some ns/\ns≠[]/\∀(M:Int),M∈ns->(∀(x:Int),x∈ns->M<=x)->x (u6 M):=rfl
theorem zs31(lo hi:Option Int)(Q:D->Prop)(ds:List aY):fSl (wB ds) lo hi Q=Q (wB (cutD ds lo hi)):=rfl
theorem ze31(lo hi:Option Int)(Q:D->Prop)(z:Str):fSl (wQ z) lo hi Q=(z.length<=sizeLine/\Q (wQ (Txt.slice z lo hi))):=rfl
theorem zk41(lo hi:Option Int)(Q:D->Prop)(ds:List aY):fSl (xF ds) lo hi Q=(¬(HT.sIx ds.length 0 lo=0/\HT.sIx ds.length ds.length hi=ds.length)/\Q (xF (cutD ds lo hi))):=rfl
theorem zli(x:List D->Prop)(ds:List aY):zh41 (wB ds) x=x ds:=rfl
theorem zrh(x:List D->Prop)(ds:List aY):zh41 (xF ds) x=x ds:=rfl
theorem zyj(x:List D->Prop)(z:Str):zh41 (wQ z) x=((z.cps.all λx=>decide (x < 128))=true/\x (yN (λc=>wQ { cps:=#[c] }) z.cps.toList)):=rfl
theorem zrt(x:List D->Prop)(a b:List aY):fZip [wB a,wB b] x=x (zipD a b):=rfl
theorem znq(x:List D->Prop)(a b:List aY):fZip [wB a,xF b] x=x (zipD a b):=rfl
theorem zft(x:List D->Prop)(a b:List aY):fZip [xF a,wB b] x=x (zipD a b):=rfl
theorem zk31(x:D->Prop)(d:D):fzT (T.fz d) x=x d:=rfl
theorem za41(x:D->Prop)(d:D):vwT (T.fz d) x=x d:=rfl
theorem zc21(x:D->Prop)(ds:List D):vwT (T.li ds) x=x (wB ds):=rfl
theorem zkq(N:T->D->Prop)(xs:List D)(d:D):mApp (T.li xs) [d] N=(xs.length < sizeLine/\N (T.li (xs++[d])) y8):=rfl
theorem zio(N:T->D->Prop)(xs:List D)(es:List aY):mExt (T.li xs) [wB es] N=(xs.length+es.length<=sizeLine/\N (T.li (xs++es)) y8):=rfl
theorem zor(N:T->D->Prop)(xs:List D):mPop (T.li xs) [] N=∃d,xs[xs.length - 1]?=some d/\N (T.li xs.dropLast) d:=rfl
theorem zun(d:D)(N:T->Prop)(ds:List D)(z:Int):fPut (T.li ds) (u6 z) d N=∃j,ixN ds.length z=some j/\N (T.li (ds.set j d)):=rfl
theorem zgt(k d:D)(N:T->Prop)(kvs:List (Key×D)):fPut (T.dk kvs) k d N=∃key,keyD k=some key/\kvs.length < sizeLine/\N (T.dk (putD kvs key d)):=rfl
theorem zxs(k d:D)(N:T->Prop)(kvs:List (List Key×D)):fPut (T.dt kvs) k d N=∃key,keyT k=some key/\kvs.length < sizeLine/\N (T.dt (putD kvs key d)):=rfl
theorem zvr(Q:D->Prop)(ds:List D)(z:Int):fGet (T.li ds) (u6 z) Q=(0<=z/\∃d,ds[z.toNat]?=some d/\Q d):=rfl
theorem zus(k:D)(Q:D->Prop)(kvs:List (Key×D)):fGet (T.dk kvs) k Q=∃key d,keyD k=some key/\getA kvs key=some d/\Q d:=rfl
theorem zyq(k:D)(Q:D->Prop)(kvs:List (List Key×D)):fGet (T.dt kvs) k Q=∃key d,keyT k=some key/\getA kvs key=some d/\Q d:=rfl
theorem ziq(neg:Bool)(k:D)(Q:D->Prop)(kvs:List (Key×D)):fHas neg (T.dk kvs) k Q=∃key,keyD k=some key/\Q (wM (if neg=true then !(getA kvs key).isSome else(getA kvs key).isSome)):=rfl
theorem zjp(neg:Bool)(k:D)(Q:D->Prop)(kvs:List (List Key×D)):fHas neg (T.dt kvs) k Q=∃key,keyT k=some key/\Q (wM (if neg=true then !(getA kvs key).isSome else(getA kvs key).isSome)):=rfl
theorem zc41(f:Int->Int->Int)(Q:D->Prop)(i j:Int):fII f (u6 i) (u6 j) Q=Q (u6 (f i j)):=rfl
theorem zzp(f:Str)(Q:T->Prop)(C:aE)(fs:List (Str×T)):nFld f (T.ob C fs) Q=∃t,xD f fs=some t/\Q t:=rfl
theorem zvs(C C_1:aE)(fs:List (Str×T)):nCls C (T.ob C_1 fs)=(C_1=C):=rfl
theorem zyo(f:Str)(r:T)(N:T->Prop)(C:aE)(fs:List (Str×T)):nSet f (T.ob C fs) r N=(fs.length < 1000/\N (T.ob C (putA f r fs))):=rfl
theorem zb21(Q:Nat->T->Prop)(ts:List T)(z:Int):nIx (T.ls ts) (u6 z) Q=∃j t,ixN ts.length z=some j/\ts[j]?=some t/\Q j t:=rfl
theorem zjz(Q:Nat->T->Prop)(ts:List T)(z:Int):nIx (T.tp ts) (u6 z) Q=∃j t,ixN ts.length z=some j/\ts[j]?=some t/\Q j t:=rfl
theorem ze21(d:D):toD (T.fz d)=some d:=rfl
theorem zu11(ds:List D):toD (T.li ds)=some (wB ds):=rfl
theorem zn41(ts:List T):toD (T.ls ts)=Option.map (λp=>wB (yN wB p)) (zex ts):=rfl
theorem zqn(x p:T):setP x [] p=p:=rfl
theorem zet(x:T)(ts:List T)(j:Nat)(p:List Stp):setP (T.ls ts) (Stp.ix j :: p) x=match ts[j]? with|some t=>T.ls (ts.set j (setP t p x))|none=>T.ls ts:=rfl
theorem zxo(x:T)(ts:List T)(j:Nat)(p:List Stp):setP (T.tp ts) (Stp.ix j :: p) x=match ts[j]? with|some t=>T.tp (ts.set j (setP t p x))|none=>T.tp ts:=rfl
theorem zzn(x:T)(C:aE)(fs:List (Str×T))(f:Str)(p:List Stp):setP (T.ob C fs) (Stp.fl f :: p) x=match xD f fs with|some t=>T.ob C (putA f (setP t p x) fs)|none=>T.ob C fs:=rfl
theorem zln(x:T):getP x []=some x:=rfl
theorem zwn(ts:List T)(j:Nat)(p:List Stp):getP (T.ls ts) (Stp.ix j :: p)=ts[j]?.bind λt=>getP t p:=rfl
theorem zdt(ts:List T)(j:Nat)(p:List Stp):getP (T.tp ts) (Stp.ix j :: p)=ts[j]?.bind λt=>getP t p:=rfl
theorem znp(C:aE)(fs:List (Str×T))(f:Str)(p:List Stp):getP (T.ob C fs) (Stp.fl f :: p)=(xD f fs).bind λt=>getP t p:=rfl
theorem zc51(a b:List D)(Q:D->Prop):fEq (.list a) (.list b) Q=(bD (.list a)=true/\bD (.list b)=true/\Q (.bool (y6 (.list a) (.list b)))):=rfl
theorem zm21(a b:List D)(Q:D->Prop):fEq (.tuple a) (.tuple b) Q=(bD (.tuple a)=true/\bD (.tuple b)=true/\Q (.bool (y6 (.tuple a) (.tuple b)))):=rfl
theorem zxz(a b:List D)(Q:D->Prop):fNe (.list a) (.list b) Q=(bD (.list a)=true/\bD (.list b)=true/\Q (.bool (!PyData.eqv (.list a) (.list b)))):=rfl
theorem zn11(a b:List D)(Q:D->Prop):fNe (.tuple a) (.tuple b) Q=(bD (.tuple a)=true/\bD (.tuple b)=true/\Q (.bool (!PyData.eqv (.tuple a) (.tuple b)))):=rfl
end _5
open PySem PySem.Spec PyProof.Rows _2 _3 _4 _5
local macro_rules|`(tactic| walk_at "sc")=>`(tactic| exact ⟨rfl,rfl,rfl,by decide +kernel,rfl,by decide +kernel,by decide +kernel⟩)
local macro_rules|`(tactic| walk_at "csc")=>`(tactic| exact ⟨rfl,by decide +kernel,by decide +kernel,by decide +kernel,by decide +kernel⟩)
local macro_rules|`(tactic| walk_at "ds")=>do `(tactic| simp only [$(<- ("zje zqm zac1 List.map_cons List.map_nil List.length_cons List.length_nil Nat.reduceAdd Nat.reduceSub List.replicate List.cons_append List.nil_append".splitOn " ").toArray.mapM λ s=>`(Lean.Parser.Tactic.simpLemma| $(Lean.mkIdent s.toName):ident)),*])
local macro_rules|`(tactic| walk_at "cs")=>do `(tactic| simp only [$(<- ("cST List.map_cons List.map_nil List.replicate List.cons_append List.nil_append List.getD_cons_zero List.getD_cons_succ".splitOn " ").toArray.mapM λ s=>`(Lean.Parser.Tactic.simpLemma| $(Lean.mkIdent s.toName):ident)),*])
local macro_rules|`(tactic| walk_at "dd")=>do let f:=λ t:String=>(t.splitOn " ").toArray.mapM λ s=>`(Lean.Parser.Tactic.simpLemma| $(Lean.mkIdent s.toName):ident);let A <- f "zi01 zvi e_dF nI zce zrj zwe e_dC zmf1 zk11 zqf1 zcn zpq zrp zg31 zu31 zkc1 zx41 zl41 zt21 zbr zxy zo01 zwr zkf1 zbf1 zre1 zff zjt zec1 ze01 zge1 zgn zyn zg41 zoo e_gN zpr zqh e_gT zjo zw21 zyb1 zgf1 zgc1 e_cE e_cF zqo zf21 zy01 zas zh21 zmo zif1 zvc1 zq41 zi11 zrr zt31 za21 zte1 e_nF e_cN zzz zg01 zbz e_aD e_aB e_aO zqp zmp zvp e_eN zgo e_gL zdj zvy zr11 zfs zqy zm11 zb51 zb01 zuc1 zfr zve1 zcf1 zjf1 zdo zgq zd11 zen zyd1 zx31 zkp zkt zso zbq zqr zxq zod1 zv01 zps zzs ztp zd41 zs01 zg51 zc51 zm21 zr41 zd31 zp41 zxz zn11 zwu zjn zgj zy41 zh01 zr01 zwc zj11 zkz zw11 zmn zsf1 zin zgs zvn zqq zcq zup zos zvq znn zdn ztj zar zyi zck zsp zkr zrn zwi zzj zdi zkj zs31 ze31 zk41 zli zrh zyj zrt znq zft zty zq01 zm41 zn21 zk31 za41 zc21 slT slot Sl.wth zkq zio zor zun zgt zxs zvr zus zyq ziq zjp zc41 keyD zzp zvs noM zyo zb21 zjz noO noS zst oneO zqx ArgP.arg ze21 zu11 zn41 zub1 exA oIx List.getElem?_cons_zero List.getElem?_cons_succ List.set_cons_zero List.set_cons_succ List.length_cons List.length_nil List.nil_append List.cons_append List.lookup putA zqn zet zxo zzn zln zwn zdt znp Nat.reduceAdd Nat.reduceSub Nat.reduceMul Int.reduceAdd Int.reduceSub Int.reduceMul Int.reduceNeg Int.reduceLT Int.reduceLE Int.reducePow Int.reduceToNat Nat.reducePow Nat.reduceLT Nat.reduceLeDiff Nat.reduceEqDiff Int.reduceEq Int.reduceMod Int.reduceDiv Int.reduceBEq Int.reduceBNe Int.reduceGT Int.reduceGE zr51 CPow Option.map_some Option.map_none Option.bind_some zy5 zr4 zb6 zl4 zp4 zj4 zy4 zd5 zs3 zz5 ze6 zc5 zy2 zu2 zg2 zh5 zu4 za4 zh6 zi6 zv4 zg5 zz4 zq3 za8 zk7 zd6 zz8 zn7 zv8 zg7 zl7 zy6 zn4 zk4 zc6 zw7 zc7 zs4 za9 zp7 zp3 zg3 zh3 zb4 zs7 zy7 zx8 zv7 zt41 zez zz31 zc31 r_nt r_nf zdc1 ztf1 zvf1 zle1";let B <- f "zvw zi81 zfa1 zx81 zb81 zu71 zz81 zzw zf91 zza1 zvg1 zb61 zfy List.map_cons List.map_nil beq_self_eq_true sizeLine_eq decide_eq_true_eq decide_true decide_false Bool.not_true Bool.not_false Bool.not_eq_true' Bool.not_eq_eq_eq_not Bool.not_not decide_eq_false_iff_not decide_not true_and and_true if_true if_false Bool.false_eq_true reduceCtorEq ite_true ite_false not_false_eq_true not_true_eq_false ne_eq Option.some.injEq exists_eq_left' exists_eq_left";`(tactic| first|(dsimp only [$A,*];repeat (simp -iota only [$A,*,$B,*];try dsimp only [$A,*]))|(simp -iota only [$A,*,$B,*];try dsimp only [$A,*];repeat (simp -iota only [$A,*,$B,*];try dsimp only [$A,*])))
local macro_rules | `(tactic| walk_at "k") => `(tactic| (refine ⟨_,rfl,?_⟩; walk_at "dd"))
local macro_rules | `(tactic| walk_at "a") => do let J:=Lean.mkIdent `J; let h:=Lean.mkIdent `hJ; `(tactic| (refine zf0 fun $J $h => ?_; walk_at "dd"))
local macro_rules | `(tactic| walk_at "f") => do let h:=Lean.mkIdent `hJ; `(tactic| (refine $h _ ?_; clear $h))
local macro_rules | `(tactic| walk_at "c") => do let h:=Lean.mkIdent `hJ; `(tactic| (clear $h; walk_at "a"))
local macro_rules | `(tactic| walk_at "b") => `(tactic| (walk_at "f"; walk_at "a"))
local macro_rules | `(tactic| walk_at "g") => do let f:=Lean.mkIdent; `(tactic| intro $(f `f) $(f `cdv) $(f `A) $(f `outer) $(f `s) $(f `H) $(f `E) $(f `hr))
local macro_rules | `(tactic| walk_at "h") => `(tactic| (refine fun _ _ _ _ _ _ us hl => ?_; first | (obtain ⟨_,e⟩:=ar1 hl;subst e;rfl) | (obtain ⟨_,_,e⟩:=ar2 hl;subst e;rfl) | (obtain ⟨_,_,_,e⟩:=ar3 hl;subst e;rfl) | (obtain ⟨_,_,_,_,e⟩:=ar4 hl;subst e;rfl) | (obtain ⟨_,_,_,_,_,e⟩:=ar5 hl;subst e;rfl)))
local macro_rules | `(tactic| walk_at "i") => `(tactic| (refine fun ds Qd h => ?_; first | (obtain ⟨e,_⟩:=h;subst e;rfl) | (obtain ⟨_,e,_⟩:=h;subst e;rfl) | (obtain ⟨_,_,e,_⟩:=h;subst e;rfl) | (obtain ⟨_,_,_,e,_⟩:=h;subst e;rfl) | (obtain ⟨_,_,_,_,e,_⟩:=h;subst e;rfl) | (obtain ⟨_,_,_,_,_,e,_⟩:=h;subst e;rfl) | (obtain ⟨_,_,_,_,_,_,e,_⟩:=h;subst e;rfl) | (obtain ⟨_,_,_,_,_,_,_,e,_⟩:=h;subst e;rfl)))
local macro_rules|`(tactic| walk_at "dn")=>`(tactic| (refine zf0 λ J hJ=>?_;walk_at "dd";refine hJ _ ?_;clear hJ))
local macro_rules|`(tactic| walk_at "dns")=>`(tactic| repeat walk_at "dn")
namespace _37
open PySem PySem.Spec PyProof.Rows _2 _3 _4 _5
variable {G:Nat->Nat->Int}{L:List Int}{M:Int}{N i m n:Nat}{gv_SINK gv_SOURCE:aA}{side:List Nat}{φ ψ:Nat->Int}
def top(i:Nat):Stmt:=PySem.Challenge.pw_vatyard_k37_never_or_surely.main.body.getD i (.Pass ⟨0,0,0,0⟩)
abbrev zyg:Stmt:=top 1
abbrev zz1:Stmt:=zq4 (top 2) 0
abbrev zt3:Stmt:=zq4 (top 2) 1
abbrev ze5:Stmt:=zq4 (top 2) 2
abbrev zf2:Stmt:=zq4 (top 2) 3
abbrev zo2:Stmt:=zq4 (top 2) 4
abbrev zj5:Stmt:=zq4 (top 2) 5
abbrev zw3:Stmt:=zq4 (top 2) 6
abbrev zn3:Stmt:=zq4 (top 2) 7
abbrev zpb:Stmt:=top 3
abbrev zi3:Stmt:=zq4 (top 6) 0
abbrev zj3:Stmt:=zq4 (top 6) 1
abbrev zx4:Stmt:=zq4 (top 7) 0
abbrev za5:Stmt:=zq4 (top 7) 1
abbrev zc4:Stmt:=zq4 (top 8) 0
abbrev ze4:Stmt:=zq4 (top 8) 1
abbrev zge:Stmt:=top 9
abbrev zwq:Stmt:=top 10
abbrev zmz:Stmt:=top 14
abbrev zf41:Stmt:=top 15
abbrev zn9:Stmt:=top 16
abbrev zkb:Stmt:=top 17
abbrev zw51:Stmt:=top 18
abbrev zne:Stmt:=top 19
abbrev zsc:Stmt:=top 21
abbrev ze3:Stmt:=top 22
abbrev zqi:Stmt:=top 23
abbrev zv3:Stmt:=top 25
abbrev zhb:Stmt:=top 26
abbrev zba:Stmt:=top 27
abbrev zbf:Stmt:=top 28
abbrev zha:Stmt:=top 29
abbrev za6:Stmt:=top 31
abbrev zb9:Stmt:=top 32
abbrev zh8:Stmt:=top 33
abbrev zq8:Stmt:=top 34
abbrev zfa:Stmt:=top 35
abbrev zm4:Stmt:=top 36
abbrev zh2:Stmt:=top 37
abbrev zw4:Stmt:=top 38
abbrev zf6:Stmt:=top 39
abbrev zs8:Stmt:=top 40
abbrev zmy:Stmt:=top 41
section
variable {P:aN}{w:aP}{K:Fg}{mg:Str->Option aA}{base:aT}{jA:aE}
def zx3(C:aE):DSpT:=λas Q=>∃(m:Nat)(E:List Nat)(L:List Int)(S:List (List Nat))(q:List (Nat×Nat))(p:List Nat)(lev:Nat),as=[.b (oS C E L S),.b (.dk (kN q)),.o (.li (p.map nI)),.d (nI lev)]/\E.length=2 * m/\L.length=2 * m /\
 (∀s∈p,s < 2 * m/\(0 < lf L s->(lkp q (hd E s)).isSome=true))/\∀j,j<=p.length->(∀(i:Nat) s,j<=i->p[i]?=some s->¬(0 < lf L s/\lkp q (hd E s)=some lev))->(j=0->Q (.fz .none) (.li []))/\∀s,0 < j->p[j - 1]?=some s->0 < lf L s->lkp q (hd E s)=some lev->Q (.fz (nI s)) (.li ((p.take j).map nI))
theorem zn6:FnScope ["self", "levels", "steps", "level", "step"] ["self", "levels", "steps", "level"] (zh0 zw3):=by walk_at"sc"
theorem zfb(jB:Cls K jA)(T:TopMeth K jA "step_up" "Stream.step_up" zw3)(jK:mg "len"=none)(jC:NoAttr K jA "left")(jG:NoAttr K jA "ends"):MethD P w K mg base jA "step_up" 1 ["self", "levels", "steps", "level"] (spT K (zx3 jA)):=by
 refine zo8 jB T zn6 (by walk_at"h") (zwj λas Qd h=>by obtain⟨_,_,_,_,_,_,_,rfl,_⟩:=h;rfl) (zu8 ?_);walk_at"g";have nd:=zn6.nd;refine⟨_,(dSeq (zvu (dTru (zx0 2)) (dSeq (dAsg (dOp fIx (zx0 2) (dOp fSub (dCB fLen (zw0 (zx0 2) dNil)) (dC (.int 1)))) (gN 4))
   (dSeq (dIf (dAnd (ze8 (dOp fGt (dOp fIx (dPV (pFld jA "left" (pVar 0))) (zx0 4)) (dC (.int 0)))) (ze8 (dOp fEq (nGet (pVar 1) (dOp fIx (dPV (pFld jA "ends" (pVar 0))) (zx0 4))) (zx0 3)))) (dRet (cE (dVar 4))) zfe)
   (zxl (cBM0 "list" mPop (pVar 2))))))
   (dRet (cE (dC .none)))),(zd0 (zv9 aW (zl3 (K:=K) rfl (pv 2) (λ_=>rfl)) (zd0 (pset 4 nd (pix w K hr (pv 2) (zj1 zw9 (zp0 (zg1 (K:=K) rfl) rfl jK zg4 (za0 (pv 2) zg0)) ze0)))
   (zd0 (zv6 (PW.pt (zao (zs0 zxt (pix w K hr (zu1 (K:=K) rfl (pv 0) rfl) (pv 4)) ze0 (zf1 _)) (zdh (zs0 (zf4 (K:=K) rfl (Room.units hr)) (pix w K hr (pv 1) (pix w K hr (zu1 (K:=K) rfl (pv 0) rfl) (pv 4))) (pv 3) (zf1 _))))) (zj0 (za1 (pv 4))) zl1)
   (zj0 (zk2 (znt (K:=K) rfl ğa ğf ğg zl21 (pv 2)))))))
   (zj0 (za1 zzg))),(zl0 (zca (zi8 (zb0 2)) (zl0 (zb1 (zk0 r_ix (zb0 2) (RfE.v (zk0 zyl (RfE.v (zl5 zvc (zo0 (zb0 2) ze1))) rvi))) (rgn 4))
   (zl0 (zu6 (zlr (zr0 (zk0 r_gt (RfE.v (zk0 r_ix (RfP.v (zh4 jB jC (zv0 0))) (zb0 4))) rvi)) (zr0 (zq2 q_eq (RfV.h (RfE.v (ztn (zv0 1) (zk0 r_ix (RfP.v (zh4 jB jG (zv0 0))) (zb0 4))))) (RfV.h (zb0 3))))) (zi1 (RfE.c (zi0 4))) zm1)
   (zl2 (zp11 za11 (zv0 2))))))
   (zi1 (RfE.c zyf))),?_⟩
 rintro as Qd a ⟨m,E,L,S,u,p,lev,rfl,hE,hL,hb,q⟩;walk_at"ds";refine zdu ?_;refine⟨λμ U=>∃Y,μ<=p.length/\(∀(i:Nat) s,μ<=i->p[i]?=some s->¬(0 < lf L s/\lkp u (hd E s)=some lev))/\U=[.bo (oS jA E L S),.bo (.dk (kN u)),.io a (.li ((p.take μ).map nI)),.sh (nI lev),Y],⟨p.length,.un,u7 _,λi s hi e=>?_,?_⟩,?_⟩
 ·rw[wG hi]at e;cases e
 ·rw[xM]
 rintro μ U ⟨Y,hμ,bad,rfl⟩;obtain⟨q0,q1⟩:=q μ hμ bad;walk_at"dd";cases μ with
|zero =>
  simp only[z5,yS,List.isEmpty_nil];walk_at"dd";exact⟨_,rfl,q0 rfl⟩
|succ μ =>
  obtain⟨s,hs⟩:∃s,p[μ]?=some s:=⟨p[μ]'(by lia),u4 _⟩
  have O:=hb s (wJ hs);have Z:((p.take (μ+1)).map nI).length=μ+1:=by rw[u5,wW];lia
  have e1:((p.take (μ+1)).map nI).isEmpty=false:=by
   rw[List.isEmpty_eq_false_iff];intro z;rw[z]at Z;simp at Z
  have es:(p.take (μ+1))[μ]?=some s:=by rw[uaU (by lia)];exact hs
  rw[e1];walk_at"dd";walk_at"a";rw[Z,show((μ+1:Nat):Int) - 1=(μ:Int) by lia];refine⟨_,zei1 es,?_⟩;walk_at"dd";walk_at"f";have next:¬(0 < lf L s/\lkp u (hd E s)=some lev)->∃I,I < μ+1/\∃Y,I<=p.length/\(∀(i:Nat) s,I<=i->p[i]?=some s->¬(0 < lf L s/\lkp u (hd E s)=some lev))/\([Sl.bo (oS jA E L S),Sl.bo (.dk (kN u)),Sl.io a (.li ((p.take (μ+1)).map nI).dropLast),Sl.sh (nI lev),Sl.sh (nI s)]:DSt)=[.bo (oS jA E L S),.bo (.dk (kN u)),.io a (.li ((p.take I).map nI)),.sh (nI lev),Y]:=λhn=>by
   refine⟨μ,by lia,.sh (nI s),by lia,λi s' hi e=>?_,?_⟩
   ·rcases wZ μ i with z|z
    ·exact bad i s' (by lia) e
    ·have:i=μ:=by lia
     subst this;rw[hs]at e;cases e;exact hn
   ·rw[uaJ,Z,zA,<- uaL,List.take_take,zW (by lia)]
  have pop:¬(0 < lf L s/\lkp u (hd E s)=some lev)->∃d,((p.take (μ+1)).map nI)[((p.take (μ+1)).map nI).length - 1]?=some d/\∃I,I < μ+1/\∃Y,I<=p.length/\(∀(i:Nat) s,I<=i->p[i]?=some s->¬(0 < lf L s/\lkp u (hd E s)=some lev))/\([Sl.bo (oS jA E L S),Sl.bo (.dk (kN u)),Sl.io a (.li ((p.take (μ+1)).map nI).dropLast),Sl.sh (nI lev),Sl.sh (nI s)]:DSt)=[.bo (oS jA E L S),.bo (.dk (kN u)),.io a (.li ((p.take I).map nI)),.sh (nI lev),Y]:=λhn =>
   ⟨nI s,by rw[Z,zA,u8,es];rfl,next hn⟩
  walk_at"a";refine⟨_,ztd1 hL O.1,?_⟩;walk_at"dd";refine two (λhp=>?_) λhp=>hJ _ ?_
  ·obtain⟨b,W⟩:=xR.mp (O.2 hp);refine⟨_,zvb1 hE O.1,?_⟩;walk_at"dd";refine⟨_,nI b,rfl,by rw[zce,W];rfl,?_⟩;walk_at"dd";refine two (λhe=>?_) λhe=>hJ _ ?_
   ·have:b=lev:=by lia
    subst this;exact⟨_,rfl,q1 s (by lia) (by rw[zA];exact hs) hp W⟩
   ·walk_at"dd";exact pop λz=>by rw[W]at z;exact he (by have:=z.2;injection this with this;rw[this])
  ·walk_at"dd";exact pop λz=>hp z.1
def zf9(C:aE):DSpT:=λas Q=>∃(m:Nat)(E:List Nat)(L:List Int)(S:List (List Nat))(p:List Nat),as=[.o (oS C E L S),.d (.list (p.map nI))]/\E.length=2 * m/\L.length=2 * m/\p≠[]/\p.length<=1000000/\(∀s∈p,s < 2 * m) /\
 ∀a,(∃s∈p,a=lf L s)->(∀s∈p,a<=lf L s)->Q (.fz .none) (oS C E (zd4 L p a) S)
theorem zim(L:List Int)(p:List Nat)(s:Nat)(a:Int):zd4 L (p++[s]) a=zth (zd4 L p a) s a:=by unfold zd4;rw[uaO];rfl
theorem zj8:FnScope ["self", "path", "amount", "step"] ["self", "path"] (zh0 zn3):=by walk_at"sc"
theorem zzc(jB:Cls K jA)(T:TopMeth K jA "carry" "Stream.carry" zn3)(vJ:mg "min"=none)(jC:NoAttr K jA "left"):MethD P w K mg base jA "carry" 1 ["self", "path"] (spT K (zf9 jA)):=by
 refine zo8 jB T zj8 (by walk_at"h") (zwj λas Qd h=>by obtain⟨_,_,_,_,_,rfl,_⟩:=h;rfl) (zu8 ?_);walk_at"g";have nd:=zj8.nd;refine⟨_,(dSeq (dAsg (dCB zlb1 (zw0 (dF (zxf (dIt (zx0 1)) 1 [0] (gN 0) zki (dOp fIx (dPV (pFld jA "left" (pVar 1))) (zx0 0)))) dNil)) (gN 2))
   (dFor (dIt (dVar 1)) (gN 3) (dSeq (zg21 (λi j=>i - j) (pFld jA "left" (pVar 0)) (dVar 3) (dVar 2))
   (zg21 (λi j=>i+j) (pFld jA "left" (pVar 0)) (dOp fXor (zx0 3) (dC (.int 1))) (dVar 2))))),(zd0 (pset 2 nd (zp0 (zqw (K:=K) rfl rfl) rfl vJ zzd1 (za0 (zp2 (sc:=zh0 zn3) (N:=["self", "path", "amount", "step"]) (own:=["step"]) (ix:=[0]) rfl rfl rfl (by walk_at"csc") (pi_W (K:=K) rfl (pv 1)) (λ_ _ _ _=>⟨(pgn 0 (nds ["step", "self"])),zx1,(pix w K hr (zu1 (K:=K) rfl (pv 1) rfl) (pv 0))⟩)) zg0)))
   (zj0 (zo5 aW rfl (pi_W (K:=K) rfl (pv 1)) (pgn 3 nd) (zd0 (ztg (zu1 (K:=K) rfl (pv 0) rfl) (pv 3) (zka1 (K:=K) (Room.units hr) rfl) (pv 2) zga1 (zru (Room.units hr)))
   (zj0 (ztg (zu1 (K:=K) rfl (pv 0) rfl) (zj1 zn61 (pv 3) ze0) (zka1 (K:=K) (Room.units hr) rfl) (pv 2) zuq (zru (Room.units hr)))))))),(zl0 (zb1 (zl5 zzb1 (zo0 (RfE.v (RfF.e (zr1 (zsm (zb0 1)) (zh1 (i:=0) (n:=1) (by decide)) zm2 (zk0 r_ix (RfP.v (zh4 jB jC (zv0 1))) (zb0 0))))) ze1)) (rgn 2))
   (zr5 (zlo (zi0 1)) (rgn 3) (zl0 (zfh (zh4 jB jC (zv0 0)) (zi0 3) (zi0 2))
   (zfh (zh4 jB jC (zv0 0)) (zk0 zjh1 (zb0 3) rvi) (zi0 2))))),?_⟩
 rintro as Qd a ⟨m,E,L,S,p,rfl,hE,hL,hne,hz,hb,q⟩;walk_at"ds";walk_at"a";refine zof (λs=>.int (lf L s)) (by rw[aQ];lia) (λs O=>?_) ?_
 ·walk_at"cs";walk_at"dd";exact⟨_,ztd1 hL (hb s O),rfl⟩
 refine⟨p.map (lf L),?_,by simpa using hne,λM hM hx=>hJ _ ?_⟩
 ·rw[<- _4.ints_map (p.map (lf L)),wE];rfl
 clear hJ;walk_at"dd";refine zj2 (λi U=>∃s3,U=[.io a (oS jA E (zd4 L (p.take i) M) S),.sh (.list (p.map nI)),.sh (.int M),s3]) ⟨.un,rfl⟩ ?_ ?_
 ·rintro i s U' O ⟨s3,rfl⟩;have Y:=hb s (wJ O);have hl:(zd4 L (p.take i) M).length=2 * m:=by rw[zfc];exact hL
  rw[show p.take (i+1)=p.take i++[s] by rw[xU,O];rfl,zim];generalize zd4 L (p.take i) M=u at hl ⊢;walk_at"dd";walk_at"a";have get:∀{I:List Int}{j:Nat},j < I.length->(I.map u6)[((j:Nat):Int).toNat]?=some (.int (lf I j)):=λ{I j} h=>by
   rw[v6,u8];unfold lf;rw[v4,u4 h];rfl
  have W:∀{I:List Int}{j:Nat},j < I.length->ixN (I.map u6).length ((j:Nat):Int)=some j:=λ{I j} h=>by
   unfold ixN;rw[aH (by lia),aH (by rw[u5];lia),v6]
  refine⟨by lia,_,get (by lia),?_⟩;walk_at"dd";refine⟨s,W (by lia),hJ _ ?_⟩;clear hJ;rw[show(u.map u6).set s (.int (lf u s - M))=(u.set s (lf u s - M)).map .int from(zD ..).symm];walk_at"dd";rw[zp81];have hx:xr s < 2 * m:=zfb1 Y;refine⟨by lia,_,get (by rw[wK];lia),?_⟩;walk_at"dd";refine⟨xr s,W (by rw[wK];lia),.sh (nI s),?_⟩;rw[show((u.set s (lf u s - M)).map u6).set (xr s) (.int (lf (u.set s (lf u s - M)) (xr s)+M))=((u.set s (lf u s - M)).set (xr s) (lf (u.set s (lf u s - M)) (xr s)+M)).map .int from(zD ..).symm];rw[zx11 (by lia),aF (λz=>zne1 s z.symm)];rfl
 ·rintro U' ⟨s3,rfl⟩;rw[xM];obtain⟨s0,Z,e0⟩:=vV.mp hM;walk_at"dd";exact⟨_,rfl,q M ⟨s0,Z,e0.symm⟩ λs O=>hx _ (zZ O)⟩
def zi2(C:aE):DSpT:=λas Q=>∃(n m:Nat)(E:List Nat)(L:List Int)(S:List (List Nat))(src:Nat)(u:List (Nat×Nat))(row:List Nat)(lev:Nat),as=[.b (oS C E L S),.d (.list (row.map nI)),.o (.dk (kN u))]/\n<=100000/\Net n m E S/\L.length=2 * m/\Bfs n m E L src u row lev /\
 ∀q p,Bfs n m E L src q p (lev+1)->q.length=u.length+p.length->Q (.fz (.list (p.map nI))) (.dk (kN q))
theorem zz3:FnScope ["self", "row", "told", "behind", "here", "step", "goal"] ["self", "row", "told"] (zh0 zf2):=by walk_at"sc"
theorem zr8(jB:Cls K jA)(T:TopMeth K jA "row_behind" "Stream.row_behind" zf2)(jJ:NoAttr K jA "steps")(jG:NoAttr K jA "ends")(jC:NoAttr K jA "left"):MethD P w K mg base jA "row_behind" 1 ["self", "row", "told"] (spT K (zi2 jA)):=by
 refine zo8 jB T zz3 (by walk_at"h") (zwj λas Qd h=>by obtain⟨_,_,_,_,_,_,_,_,_,rfl,_⟩:=h;rfl) (zu8 ?_);walk_at"g";have nd:=zz3.nd;refine⟨_,(dSeq (dSet 3 (cF (dLst dNil)))
   (dSeq (dFor (dIt (dVar 1)) (gN 4) (dFor (dIt (dOp fIx (dPV (pFld jA "steps" (pVar 0))) (zx0 4))) (gN 5) (dSeq (dAsg (dOp fIx (dPV (pFld jA "ends" (pVar 0))) (zx0 5)) (gN 6))
   (dIf (dAnd (ze8 (dOp fGt (dOp fIx (dPV (pFld jA "left" (pVar 0))) (zx0 5)) (dC (.int 0)))) (ze8 (nIn true (dVar 6) (pVar 2)))) (dSeq (dPut (pVar 2) (dVar 6) (dOp fAdd (nGet (pVar 2) (dVar 4)) (dC (.int 1))))
   (zxl (cBM "list" mApp (pVar 3) (zw0 (dVar 6) dNil)))) zfe))))
   (dFrz 3 [] (zwt 3)))),(zd0 (pset 3 nd (zc3 zg0))
   (zd0 (zo5 aW rfl (pi_W (K:=K) rfl (pv 1)) (pgn 4 nd) (zj0 (zo5 aW rfl (pi_W (K:=K) rfl (pix w K hr (zu1 (K:=K) rfl (pv 0) rfl) (pv 4))) (pgn 5 nd) (zd0 (pset 6 nd (pix w K hr (zu1 (K:=K) rfl (pv 0) rfl) (pv 5)))
   (zj0 (zv6 (PW.pt (zao (zs0 zxt (pix w K hr (zu1 (K:=K) rfl (pv 0) rfl) (pv 5)) ze0 (zf1 _)) (zdh (zs0 (zjb (w:=w) (K:=K) (Room.units hr) rfl rfl) (pv 6) (pv 2) (by with_unfolding_all rfl))))) (zd0 (zgv (zj1 (zk1 (K:=K) rfl) (pix w K hr (pv 2) (pv 4)) ze0) (znv (pv 2) (pv 6) (zru (Room.units hr))))
   (zj0 (zk2 (zy8 (K:=K) rfl ğa ğb ğc zz2 (pv 3) (za0 (pv 6) zg0))))) zl1))))))
   (zj0 (za1 (pv 3))))),(zl0 (zi4 (RfF.c (zb8 zm0)))
   (zl0 (zr5 (zlo (zi0 1)) (rgn 4) (zr5 (zlo (zk0 r_ix (RfP.v (zh4 jB jJ (zv0 0))) (zb0 4))) (rgn 5) (zl0 (zb1 (zk0 r_ix (RfP.v (zh4 jB jG (zv0 0))) (zb0 5)) (rgn 6))
   (zu6 (zlr (zr0 (zk0 r_gt (RfE.v (zk0 r_ix (RfP.v (zh4 jB jC (zv0 0))) (zb0 5))) rvi)) (zr0 (zyx (zi0 6) (zv0 2)))) (zl0 (zkv (zk0 zg8 (RfE.v (ztn (zv0 2) (zi0 4))) rvi) (zv0 2) (zi0 6))
   (zl2 (zhj zaf (zv0 3) (zc0 (zi0 6) zm0)))) zm1))))
   (zbd 3 [] (zva (i:=3))))),?_⟩
 rintro as Qd a ⟨n,m,E,L,S,src,lv,row,lev,rfl,hn,N,hL,B,q⟩;walk_at"ds";walk_at"a";walk_at"b";refine zj2 (λi U=>∃I O s4 s5 s6,Mid n m E L lv lev I O/\(∀v∈row.take i,∀l,S[v]?=some l->∀s∈l,0 < lf L s->(lkp I (hd E s)).isSome=true) /\
  U=[.bo (oS jA E L S),.sh (.list (row.map nI)),.io a (.dk (kN I)),.ow (.li (O.map nI)),s4,s5,s6]) ⟨lv,[],.un,.un,.un,Mid.start B,λv hv=>by simp at hv,rfl⟩ ?_ ?_
 ·rintro i v U hv ⟨I,O,s4,s5,s6,M,cl,rfl⟩;have hvr:=wJ hv;have hvl:=M.old _ _ (B.ro v hvr);have hvn:=B.bd _ (zto (B.ro v hvr));obtain⟨l,hl⟩:∃l,S[v]?=some l:=⟨S[v]'(by rw[N.lS];exact hvn),u4 _⟩
  walk_at"dd";refine⟨_,zpi1 hl,?_⟩;walk_at"dd";refine zj2 (λj U=>∃I O s5 s6,Mid n m E L lv lev I O/\(∀v∈row.take i,∀l,S[v]?=some l->∀s∈l,0 < lf L s->(lkp I (hd E s)).isSome=true)/\(∀s∈l.take j,0 < lf L s->(lkp I (hd E s)).isSome=true) /\
   U=[.bo (oS jA E L S),.sh (.list (row.map nI)),.io a (.dk (kN I)),.ow (.li (O.map nI)),.sh (nI v),s5,s6]) ⟨I,O,s5,s6,M,cl,λs hs=>by simp at hs,rfl⟩ ?_ ?_
  ·clear M hvl cl I O s4 s5 s6;rintro j s U hs ⟨I,O,s5,s6,M,cl,cj,rfl⟩;have hvl:=M.old _ _ (B.ro v hvr);have hsl:=wJ hs;obtain⟨hsm,hst⟩:=N.s1 v l hl s hsl;have hz:I.length<=n:=by
    have:=zy0 n (I.map (·.1)) M.nd (λx Y=>by obtain⟨p,hp,rfl⟩:=vV.mp Y;exact M.bd p hp)
    rwa [u5]at this
   have hz2:=M.len;have tk:∀x∈l.take (j+1),x∈l.take j \/ x=s:=λx Y=>by
    rw[xU,hs]at Y;rcases vX.mp Y with z|z
    ·exact .inl z
    ·simp at z;exact .inr z
   walk_at"dd";refine zf0 λJ2 Z=>?_;walk_at"dd";refine⟨_,zvb1 N.lE hsm,?_⟩;walk_at"dd";refine Z _ ?_;clear Z;walk_at"dd";refine⟨_,ztd1 hL hsm,?_⟩;walk_at"dd";refine two (λhp=>?_) λhp=>?_
   ·rw[zO];refine two (λhg=>?_) λhg=>?_
    ·have hg:lkp I (hd E s)=none:=by simpa using hg
     refine zf0 λJ2 Z=>?_;walk_at"dd";refine⟨_,nI lev,rfl,by rw[zce,hvl];rfl,?_⟩;walk_at"dd";refine⟨by rw[kN,u5];lia,Z _ ?_⟩;clear Z;rw[show(u6 ((lev:Int)+1))=nI (lev+1)from rfl,zw71 hg];walk_at"dd";refine⟨by rw[u5];lia,I++[(hd E s,lev+1)],O++[hd E s],_,_,M.put hsm hp (by rw[hst];exact hvl) (N.bE s hsm) hg,λu hu k hk x Y hp'=>?_,λx Y W=>?_,by rw[wH];rfl⟩
     ·obtain⟨b,hb⟩:=xR.mp (cl u hu k hk x Y hp');rw[zed,hb];rfl
     ·rcases tk x Y with z|z
      ·obtain⟨b,hb⟩:=xR.mp (cj x z W);rw[zed,hb];rfl
      ·rw[z,zed,hg];simp
    ·exact⟨I,O,_,_,M,cl,λx Y W=>(tk x Y).elim (λz=>cj x z W) λz=>by rw[z];cases q:lkp I (hd E s)with|none=>exact aL (by rw[q];rfl) hg|some b=>rfl,rfl⟩
   ·exact⟨I,O,_,_,M,cl,λx Y W=>(tk x Y).elim (λz=>cj x z W) λz=>aL (z ▸ W) hp,rfl⟩
  ·rintro U ⟨I,O,s5,s6,M,cl,cj,rfl⟩;refine⟨I,O,_,_,_,M,λu hu k hk s hs hp=>?_,rfl⟩;rw[xU,hv]at hu;rcases vX.mp hu with z|z
   ·exact cl u z k hk s hs hp
   ·simp at z;subst z;rw[hl]at hk;cases hk;rw[xM]at cj;exact cj s hs hp
 ·rintro U ⟨I,O,s4,s5,s6,M,cl,rfl⟩;rw[xM]at cl;refine hJ _ ?_;walk_at"dd";refine⟨_,_,rfl,rfl,?_⟩;exact⟨_,rfl,q _ _ (Mid.bfs N B M cl) M.len⟩
def zm8(C:aE):DSpT:=λas Q=>∃(n m:Nat)(E:List Nat)(L:List Int)(S:List (List Nat))(src:Nat),as=[.b (oS C E L S),.d (nI src)]/\n<=100000/\Net n m E S/\L.length=2 * m/\src < n /\
 ∀p,Lev n m E L src p->∀t,Q (.dk (kN p)) t
theorem zi7:FnScope ["self", "source", "told", "row"] ["self", "source"] (zh0 ze5):=by walk_at"sc"
theorem zmc(jB:Cls K jA)(T:TopMeth K jA "levels" "Stream.levels" ze5)(jZ:MethD P w K mg base jA "row_behind" 1 ["self", "row", "told"] (spT K (zi2 jA))):MethD P w K mg base jA "levels" 2 ["self", "source"] (spT K (zm8 jA)):=by
 refine zo8 jB T zi7 (by walk_at"h") (zwj λas Qd h=>by obtain⟨_,_,_,_,_,_,rfl,_⟩:=h;rfl) (zu8 ?_);walk_at"g";have nd:=zi7.nd;refine⟨_,(dSeq (dSet 2 (cDK1 (dVar 1) (dC (.int 0))))
   (dSeq (dAsg (dF (dLst (zw0 (dVar 1) dNil))) (gN 3))
   (dSeq (zvu (dTru (zx0 3)) (dSet 3 (zgb1 false jA "row_behind" (zi2 jA) (pVar 0) (aD (dVar 3) (aO (pVar 2) aNil)))))
   (zwt 2)))),(zd0 (pset 2 nd (zy91 (zk01 (pv 1) ze0 zma1) rfl rfl (by simp) (by decide)))
   (zd0 (pset 3 nd (zc3 (za0 (pv 1) zg0)))
   (zd0 (zv9 aW (zl3 (K:=K) rfl (pv 3) (λ_=>rfl)) (zj0 (pset 3 nd (zd7 jZ (rmn hr) (pv 0) (za0 (pv 3) (za0 (pv 2) zg0))))))
   (zj0 (za1 (pv 2)))))),(zl0 (zi4 (zmd1 (zi0 1) zn1))
   (zl0 (zb1 (RfF.e (zb8 (zc0 (zi0 1) zm0))) (rgn 3))
   (zl0 (zca (zi8 (zb0 3)) (zi4 (zta false (zv0 0) (at_d (zi0 3) (at_o (zv0 2) zg9)))))
   (zva (i:=2))))),?_⟩
 rintro as Qd a ⟨n,m,E,L,S,src,rfl,hn,N,hL,hs,q⟩;walk_at"ds";walk_at"a";walk_at"b";walk_at"f";refine zdu ?_;refine⟨λμ U=>∃W row lev,Bfs n m E L src W row lev/\μ=2 * (n - W.length)+(if row=[]then 0 else 1)/\U=[.bo (oS jA E L S),.sh (nI src),.ow (.dk (kN W)),.sh (.list (row.map nI))],⟨_,[(src,0)],[src],0,Bfs.start hs,rfl,rfl⟩,?_⟩;rintro μ U ⟨W,row,lev,B,rfl,rfl⟩;walk_at"dd";refine two (λu=>?_) λu=>?_
 ·refine⟨n,m,E,L,S,src,W,row,lev,rfl,hn,N,hL,B,λY I Z e=>⟨_,?_,Y,I,lev+1,Z,rfl,rfl⟩⟩;have hz:=zy0 n (Y.map (·.1)) Z.nd (λx hx=>by obtain⟨p,hp,rfl⟩:=vV.mp hx;exact Z.bd p hp);rw[u5]at hz;have O:row≠[]:=λz=>by rw[z]at u;cases u
  rw[aF O];by_cases z:I=[]
  ·subst z;rw[aH rfl];simp at e;lia
  ·have:=List.length_pos_iff.mpr z;rw[aF z];lia
 ·have O:row=[]:=by
   cases row with
  |nil=>rfl
  |cons x r=>exact aL rfl u
  subst O;exact q W B.lev _
abbrev tT(TT:List (List Nat)):_4.T:=.ls (TT.map λl=>.li (l.map nI))
theorem setT{p:List (List Nat)}{v:Nat}(x:List Nat):(p.map λl=>_4.T.li (l.map nI)).set v (.li (x.map nI))=(p.set v x).map λl=>_4.T.li (l.map nI):=by rw[zD]
def zp8(C:aE):DSpT:=λas Q=>∃(n m:Nat)(E:List Nat)(L:List Int)(S:List (List Nat))(u:List (Nat×Nat))(TT:List (List Nat))(src q:Nat),as=[.b (oS C E L S),.b (.dk (kN u)),.o (tT TT),.d (nI src),.d (nI q)]/\m<=400000/\Net n m E S/\L.length=2 * m/\src < n/\src≠q/\lkp u src=some 0 /\
 (∀s,s < 2 * m->0 < lf L s->(lkp u (tl E s)).isSome=true->(lkp u (hd E s)).isSome=true)/\Tri m E S L u q TT /\
 (∀TT',¬Rch m E L u q src->Q (.fz (.list [])) (tT TT'))/\∀p TT',Tri m E S L u q TT'->Way m E L u src p q->Q (.fz (.list (p.map nI))) (tT TT')
theorem zm7:FnScope ["self", "levels", "tries", "source", "sink", "path", "here", "step"] ["self", "levels", "tries", "source", "sink"] (zh0 zj5):=by walk_at"sc"
theorem zqb(jB:Cls K jA)(T:TopMeth K jA "way_up" "Stream.way_up" zj5)(jG:NoAttr K jA "ends")(kJ:MethD P w K mg base jA "step_up" 1 ["self", "levels", "steps", "level"] (spT K (zx3 jA))):MethD P w K mg base jA "way_up" 2 ["self", "levels", "tries", "source", "sink"] (spT K (zp8 jA)):=by
 refine zo8 jB T zm7 (by walk_at"h") (zwj λas Qd h=>by obtain⟨_,_,_,_,_,_,_,_,_,rfl,_⟩:=h;rfl) (zu8 ?_);walk_at"g";have nd:=zm7.nd;refine⟨_,(dSeq (dSet 5 (cF (dLst dNil)))
   (dSeq (dAsg (dVar 3) (gN 6))
   (dSeq (zvu (ze8 (dOp fNe (zx0 6) (zx0 4))) (dSeq (dSet 7 (zgb1 false jA "step_up" (zx3 jA) (pVar 0) (aB (pVar 1) (aO (pIx (pVar 2) (dVar 6)) (aD (dOp fAdd (nGet (pVar 1) (dVar 6)) (dC (.int 1))) aNil)))))
   (dIf (ze8 (dOp zkb1 (zx0 7) (dC .none))) (dSeq (zxl (cBM "list" mApp (pVar 5) (zw0 (dVar 7) dNil)))
   (dAsg (dOp fIx (dPV (pFld jA "ends" (pVar 0))) (zx0 7)) (gN 6))) (dIf (dTru (zx0 5)) (dSeq (dSet 6 (zhe1 (dPE (pFld jA "ends" (pVar 0))) fXor (cBM0 "list" mPop (pVar 5)) (dC (.int 1))))
   (zxl (cBM0 "list" mPop (pIx (pVar 2) (dVar 6))))) (dFrz 5 [] (zwt 5))))))
   (dFrz 5 [] (zwt 5))))),(zd0 (pset 5 nd (zc3 zg0))
   (zd0 (pset 6 nd (pv 3))
   (zd0 (zv9 aW (zs0 (zam (K:=K) rfl (Room.units hr)) (pv 6) (pv 4) (zf1 _)) (zd0 (pset 7 nd (zd7 kJ (rmn hr) (pv 0) (za0 (pv 1) (za0 (pix w K hr (pv 2) (pv 6)) (za0 (zj1 (zk1 (K:=K) rfl) (pix w K hr (pv 1) (pv 6)) ze0) zg0)))))
   (zj0 (zv6 (zs0 zir (pv 7) zzg (zf1 _)) (zd0 (zk2 (zy8 (K:=K) rfl ğa ğb ğc zz2 (pv 5) (za0 (pv 7) zg0)))
   (zj0 (pset 6 nd (pix w K hr (zu1 (K:=K) rfl (pv 0) rfl) (pv 7))))) (zj0 (zv6 (zl3 (K:=K) rfl (pv 5) (λ_=>rfl)) (zd0 (pset 6 nd (pix w K hr (zu1 (K:=K) rfl (pv 0) rfl) (zj1 zn61 (znt (K:=K) rfl ğa ğf ğg zl21 (pv 5)) ze0)))
   (zj0 (zk2 (znt (K:=K) rfl ğa ğf ğg zl21 (pix w K hr (pv 2) (pv 6)))))) (zj0 (za1 (pv 5)))))))))
   (zj0 (za1 (pv 5)))))),(zl0 (zi4 (RfF.c (zb8 zm0)))
   (zl0 (zb1 (zi0 3) (rgn 6))
   (zl0 (zca (zr0 (zq2 q_ne (RfV.h (zb0 6)) (RfV.h (zb0 4)))) (zl0 (zi4 (zta false (zv0 0) (at_b (zv0 1) (at_o (zqb1 (zv0 2) (zi0 6)) (at_d (zk0 zg8 (RfE.v (ztn (zv0 1) (zi0 6))) rvi) zg9)))))
   (zu6 (zr0 (zk0 zyz (zb0 7) (RfE.v zyf))) (zl0 (zl2 (zhj zaf (zv0 5) (zc0 (zi0 7) zm0)))
   (zb1 (zk0 r_ix (RfP.v (zh4 jB jG (zv0 0))) (zb0 7)) (rgn 6))) (zu6 (zi8 (zb0 5)) (zl0 (zi4 (zla1 (RfP.e (zh4 jB jG (zv0 0))) zjh1 (zp11 za11 (zv0 5)) zn1))
   (zl2 (zp11 za11 (zqb1 (zv0 2) (zi0 6))))) (zbd 5 [] (zva (i:=5)))))))
   (zbd 5 [] (zva (i:=5)))))),?_⟩
 rintro as Qd a ⟨n,m,E,L,S,lv,TT,src,I,rfl,hm,N,hL,hsn,hss,l0,cl,tri,q0,q1⟩;walk_at"ds";walk_at"a";walk_at"b";walk_at"f";refine zdu ?_;refine⟨λμ U=>∃p here TT s7,Go m E S L lv I src p here TT/\μ=szT TT * (2 * m+2)+(2 * m+1 - p.length)/\U=[.bo (oS jA E L S),.bo (.dk (kN lv)),.io a (tT TT),.sh (nI src),.sh (nI I),.ow (.li (p.map nI)),.sh (nI here),s7],
  ⟨_,[],src,TT,.un,⟨tri,rfl,l0,λs hs=>by simp at hs⟩,rfl,rfl⟩,?_⟩
 rintro μ U ⟨p,here,W,s7,g,rfl,rfl⟩;have hpl:=g.short g.way.lt;have hln:p.length=p.length:=rfl;walk_at"dd";refine two (λq=>?_) λq=>?_
 ·have q:here≠I:=λz=>q (by rw[z]);obtain⟨k,Y⟩:∃k,W[here]?=some k:=by
   have:here < n:=by
    cases p with
   |nil=>have e:src=here:=g.way;rw[<- e];exact hsn
   |cons x r =>
     obtain⟨y,hy⟩:∃y,(x :: r).getLast?=some y:=⟨_,ua7⟩
     obtain⟨r0,e⟩:=ua8.mp hy;have gw:=g.way;rw[e]at gw;obtain⟨_,w2,w3,_⟩:=gw.unsnoc;rw[<- w2];exact N.bE y w3
   exact⟨W[here]'(by rw[g.tri.len,N.lS];exact this),u4 _⟩
  have hkl:=zmg Y;have gT:(W.map λl=>_4.T.li (l.map nI))[here]?=some (_4.T.li (k.map nI)):=by rw[u8,Y];rfl
  walk_at"a";refine⟨here,.li (k.map nI),by rw[u5];exact zxk hkl,by rw[u8,Y];rfl,_,nI p.length,rfl,by rw[zce,g.lev];rfl,?_⟩;walk_at"dd";refine⟨m,E,L,S,lv,k,p.length+1,rfl,N.lE,hL,λs hs=>?_,λj hj Z=>⟨λh0=>hJ _ ?_,λs h0 hs u hlv=>hJ _ ?_⟩⟩
  ·obtain⟨k2,h1,h2⟩:=g.tri.pre here k Y;obtain⟨O,hst⟩:=N.s1 here k2 h1 s (h2.subset hs);exact⟨O,λu=>cl s O u (by rw[hst,g.lev];rfl)⟩
  ·subst h0;have eT:(W.map λl=>_4.T.li (l.map nI)).set here (.li [])=(W.set here []).map λl=>_4.T.li (l.map nI):=setT [];rw[gT];simp only[];rw[eT];walk_at"dd";refine two (λu=>?_) λu=>?_
   ·obtain⟨y,hy⟩:∃y,p.getLast?=some y:=by
     cases p with
    |nil=>cases u
    |cons x r=>exact⟨_,ua7⟩
    obtain⟨p0,rfl⟩:=ua8.mp hy;obtain⟨hym,k2,hk2,g2,hsz⟩:=g.back N Y q Z;walk_at"a";refine⟨nI y,by simp,?_⟩;walk_at"dd";rw[zp81];refine⟨_,zvb1 N.lE (zfb1 hym),hJ _ ?_⟩;clear hJ;rw[show(yN nI (p0++[y])).dropLast=p0.map nI by rw[wH];exact ua9,zw91];have hz2:=zmg hk2;have gT2:((W.set here []).map λl=>_4.T.li (l.map nI))[tl E y]?=some (_4.T.li ((k2++[y]).map nI)):=by rw[u8,hk2];rfl
    walk_at"dd";refine⟨tl E y,_,by rw[u5];exact zxk hz2,gT2,?_⟩;walk_at"dd";refine⟨nI y,by simp,_,?_,p0,tl E y,_,.sh .none,g2,rfl,?_⟩
    ·have:=yM (2 * m+2) hsz;rw[yL]at this;rw[vW];simp only[zL];lia
    ·rw[gT2,show(yN nI (k2++[y])).dropLast=k2.map nI by rw[wH];exact ua9];simp only[];rw[setT]
   ·have u:p=[]:=by
     cases p with
    |nil=>rfl
    |cons x r=>exact aL rfl u
    subst u;exact⟨_,_,rfl,rfl,_,rfl,q0 _ (g.dead N Y q Z)⟩
  ·rw[gT];simp only[];rw[setT];obtain⟨g2,hsz,O⟩:=g.fwd N Y h0 hj Z hs u hlv;walk_at"dd";walk_at"a";refine⟨by rw[u5];lia,hJ _ ?_⟩;clear hJ;walk_at"dd";refine⟨_,zvb1 N.lE O,?_⟩;walk_at"dd";refine⟨_,?_,p++[s],hd E s,W.set here (k.take j),_,g2,rfl,by rw[wH];rfl⟩;rw[vW];have:=yM (2 * m+2) hsz;simp only[zL];lia
 ·have q:here=I:=by lia
  subst q;exact⟨_,_,rfl,rfl,_,rfl,q1 p W g.tri g.way⟩
def zz6(C:aE):DSpT:=λas Q=>∃(n m:Nat)(most:Nat->Int)(E:List Nat)(L:List Int)(S:List (List Nat))(q:List (Nat×Nat))(src p:Nat),as=[.o (oS C E L S),.b (.dk (kN q)),.d (nI src),.d (nI p)]/\n<=100000/\m<=400000/\Net n m E S/\Cap m most L/\src < n/\src≠p/\Lev n m E L src q/\(lkp q p).isSome=true /\
 ∀u,Up m most E L u src p->bal m E L p < bal m E u p->Q (.fz .none) (oS C E u S)
theorem zp6:FnScope ["self", "levels", "source", "sink", "tries", "path"] ["self", "levels", "source", "sink"] (zh0 zo2):=by walk_at"sc"
theorem zab(jB:Cls K jA)(T:TopMeth K jA "push_up" "Stream.push_up" zo2)(jW:mg "list"=none)(jJ:NoAttr K jA "steps")(kB:MethD P w K mg base jA "way_up" 2 ["self", "levels", "tries", "source", "sink"] (spT K (zp8 jA)))(qF:MethD P w K mg base jA "carry" 1 ["self", "path"] (spT K (zf9 jA))):MethD P w K mg base jA "push_up" 3 ["self", "levels", "source", "sink"] (spT K (zz6 jA)):=by
 refine zo8 jB T zp6 (by walk_at"h") (zwj λas Qd h=>by obtain⟨_,_,_,_,_,_,_,_,_,rfl,_⟩:=h;rfl) (zu8 ?_);walk_at"g";have nd:=zp6.nd;refine⟨_,_,(zd0 (zf3 (i:=4) (sc:=zh0 zo2) (N:=["self", "levels", "source", "sink", "tries", "path"]) (own:=["steps"]) (ix:=[]) rfl rfl rfl (by walk_at"csc") nd rfl rfl (pi_W (K:=K) rfl (zu1 (K:=K) rfl (pv 0) rfl)) (λ_ _ _ _=>⟨(pgn 0 (nds ["steps"])),zx1,(zb3 (zy3 (K:=K) rfl) rfl jW ze9 (za0 (pv 0) zg0))⟩))
   (zd0 (pset 5 nd (zd7 kB (rmn hr) (pv 0) (za0 (pv 1) (za0 (pv 4) (za0 (pv 2) (za0 (pv 3) zg0))))))
   (zj0 (zv9 aW (zl3 (K:=K) rfl (pv 5) (λ_=>rfl)) (zd0 (zk2 (zd7 qF (rmn hr) (pv 0) (za0 (pv 5) zg0)))
   (zj0 (pset 5 nd (zd7 kB (rmn hr) (pv 0) (za0 (pv 1) (za0 (pv 4) (za0 (pv 2) (za0 (pv 3) zg0)))))))))))),(zl0 (zi4 (RfN.c (zox (zsm (RfP.v (zh4 jB jJ (zv0 0)))) (zh1 (i:=0) (n:=1) (by decide)) (RfF.new (zm01 zoi (zo0 (zb0 0) ze1))))))
   (zl0 (zi4 (zta false (zv0 0) (at_b (zv0 1) (at_o (zv0 4) (at_d (zi0 2) (at_d (zi0 3) zg9))))))
   (zca (zi8 (zb0 5)) (zl0 (zl2 (zta true (zv0 0) (at_d (zi0 5) zg9)))
   (zi4 (zta false (zv0 0) (at_b (zv0 1) (at_o (zv0 4) (at_d (zi0 2) (at_d (zi0 3) zg9)))))))))),?_⟩
 rintro as Qd a ⟨n,m,most,E,L,S,O,src,u,rfl,hn,hm,N,c,hsn,hss,Y,ht,q⟩;walk_at"ds";walk_at"a";refine zd61 (λl=>.li (l.map nI)) (by rw[aQ,N.lS];lia) (λl hl=>?_) (hJ _ ?_)
 ·walk_at"cs";walk_at"dd"
 clear hJ;obtain⟨b0,hb0⟩:=xR.mp ht;have rch:Rch m E L O u src:=zcg Y b0 u hb0 .here;walk_at"a";refine⟨n,m,E,L,S,O,S,src,u,rfl,hm,N,c.len,hsn,hss,Y.l0,Y.cl,Tri.all,λTT' h=>aL rch h,λp TT' tri hw=>hJ _ ?_⟩;clear hJ;refine⟨λμ U=>∃I p TT,Up m most E L I src u/\(p≠[]->Tri m E S I O u TT)/\(∀s,s < 2 * m->0 < lf I s->(lkp O (tl E s)).isSome=true->(lkp O (hd E s)).isSome=true) /\
   bal m E L u<=bal m E I u/\(p=[]->bal m E L u < bal m E I u)/\(p≠[]->Way m E I O src p u)/\μ=(tot m most - bal m E I u).toNat/\U=[.io a (oS jA E I S),.bo (.dk (kN O)),.sh (nI src),.sh (nI u),.ow (tT TT),.sh (.list (p.map nI))],
  ⟨_,L,p,TT',Up.refl c,λ_=>tri,Y.cl,xP _,λz=>?_,λ_=>hw,rfl,rfl⟩,?_⟩
 ·subst z;exact aL hw hss
 clear tri hw TT' p;rintro μ U ⟨I,p,TT,up,tri,cl,le,hlt,hw,rfl,rfl⟩;walk_at"dd";refine two (λW=>?_) λW=>?_
 ·have W:p≠[]:=λz=>by rw[z]at W;cases W
  have hw:=hw W;walk_at"a";have hpl:p.length<=2 * m:=zy0 _ p (hw.nodup Y.l0).1 hw.lt;refine⟨m,E,I,S,p,rfl,N.lE,up.cap.len,W,by lia,hw.lt,λam ham hmin=>hJ _ ?_⟩;clear hJ;obtain⟨s0,hs0,e0⟩:=ham;have pos:0 < am:=by
   rw[e0];obtain⟨_,hadm⟩:True/\∀{v:Nat}{p:List Nat}{t:Nat},Way m E I O v p t->∀s∈p,0 < lf I s:=⟨trivial,by
    intro v p
    induction p generalizing v with
   |nil=>intro t _ s hs;simp at hs
   |cons x r ih =>
     intro t h s hs;rcases vT.mp hs with z|z
     ·rw[z];exact h.2.2.1.1
     ·exact ih h.2.2.2 s z⟩
   exact hadm hw s0 hs0
  have Z:=up.trans (Up.carry up.cap hw Y.l0 (by lia) hmin);have hb:bal m E (zd4 I p am) u=bal m E I u+am:=by
   rw[zr9 up.cap.len hw,aH rfl,aF hss];lia
  have hle:=zw61 (E:=E) Z.cap u;have cl2:=zfu up.cap.len hw Y.l0 cl (a:=am) (by lia);have tri2:Tri m E S (zd4 I p am) O u TT:=(tri W).mono (ztv up.cap.len hw Y.l0 (by lia)) λv k h s hs=>(N.s1 v k h s hs).1;generalize zd4 I p am=_2 at *;walk_at"dd";refine⟨n,m,E,_2,S,O,TT,src,u,rfl,hm,N,Z.cap.len,hsn,hss,Y.l0,cl2,tri2,λTT' h=>?_,λp' TT' tri' hw'=>?_⟩
  ·exact⟨_,by lia,_2,[],TT',Z,λz=>aL rfl z,cl2,by lia,λ_=>by lia,λz=>aL rfl z,rfl,rfl⟩
  ·exact⟨_,by lia,_2,p',TT',Z,λ_=>tri',cl2,by lia,λ_=>by lia,λ_=>hw',rfl,rfl⟩
 ·have W:p=[]:=by
   cases p with
  |nil=>rfl
  |cons x r=>exact aL rfl W
  exact⟨_,rfl,q I up (hlt W)⟩
def zj7(C:aE):DSpT:=λas Q=>∃(m:Nat)(E:List Nat)(L:List Int)(S:List (List Nat)),as=[.b (oS C E L S)]/\L.length=2 * m/\m<=400000/\∀t,Q (.fz (.list ((u3 m).map λk=>.int (lf L (2 * k+1))))) t
theorem zr6:FnScope ["self"] ["self"] (zh0 zt3):=by walk_at"sc"
theorem zdb(jB:Cls K jA)(T:TopMeth K jA "amounts" "Stream.amounts" zt3)(jC:NoAttr K jA "left"):MethD P w K mg base jA "amounts" 1 ["self"] (spT K (zj7 jA)):=by
 refine zo8 jB T zr6 (by walk_at"h") (zwj λas Qd h=>by obtain⟨_,_,_,_,rfl,_⟩:=h;rfl) (zu8 ?_);walk_at"g";have nd:=zr6.nd;refine⟨_,_,(zj0 (za1 (zgu (K:=K) rfl (zu1 (K:=K) rfl (pv 0) rfl) (zac ze0) zcl (zac ze0)))),(zi1 (RfE.c (RfF.e (zxc1 (RfP.v (zh4 jB jC (zv0 0))) (zjg zn1) zik (zjg zn1))))),?_⟩;rintro as Qd a ⟨m,E,L,S,rfl,p,u,q⟩;walk_at"ds";walk_at"dd";rw[zl11 p];exact q _
def zo6(C:aE):DSpT:=λas Q=>∃(n:Nat)(A:List Ar)(f:List Int),as=[.o (.ob C []),.d (nI n),.d (.list (A.map dAr)),.d (.list (f.map .int))]/\f.length=A.length/\n<=100000/\A.length<=400000/\(∀a∈A,a.1 < n/\a.2.1 < n) /\
 ∀S,Net n A.length (zt6 A) S->Q (.fz .none) (.ob C [("ends",.li ((zt6 A).map nI)),("left",.li ((zra A f).map .int)),("steps",tT S)])
theorem zu5:FnScope ["self", "count", "arcs", "flow", "number", "arc"] ["self", "count", "arcs", "flow"] (zh0 zz1):=by walk_at"sc"
theorem zka(M:Md K mg)(cT:TopCls K "Stream" jA)(T:TopMeth K jA "__init__" "Stream.__init__" zz1)(jF:mg "enumerate"=none)(jH:mg "range"=none)(jG:NoAttr K jA "ends")(jC:NoAttr K jA "left")(jJ:NoAttr K jA "steps"):ztt P w K mg base "Stream" jA 1 ["self", "count", "arcs", "flow"] (spT K (zo6 jA)):=by
 have jB:=cT.cls;refine zpk M cT T zu5 (by walk_at"h") (zwj λas Qd h=>by obtain⟨_,_,_,rfl,_⟩:=h;rfl) (zu8 ?_);walk_at"g";have nd:=zu5.nd;refine⟨_,_,(zd0 (zqe (pv 0) (zc3 zg0) rfl)
   (zd0 (zqe (pv 0) (zc3 zg0) rfl)
   (zd0 (zqe (pv 0) (zp2 (sc:=zh0 zz1) (N:=["self", "count", "arcs", "flow", "number", "arc"]) (own:=["number"]) (ix:=[]) rfl rfl rfl (by walk_at"csc") (zy1 rfl jH (za0 (pv 1) zg0)) (λ_ _ _ _=>⟨(pgn 0 (nds ["number"])),zx1,(zc3 zg0)⟩)) rfl)
   (zj0 (zo5 aW rfl (zpa (K:=K) rfl rfl jF (za0 (pv 2) zg0)) (zb7 (K:=K) (n:=2) rfl rfl (zp1 (pgn 4 nd) (zp1 (pgn 5 nd) za7))) (zd0 (zk2 (zy8 (K:=K) rfl ğa ğd ğe (zs5 (K:=K) rfl) (zu1 (K:=K) rfl (pv 0) rfl) (za0 (zc3 (za0 (pix w K hr (pv 5) ze0) (za0 (pix w K hr (pv 5) ze0) zg0))) zg0)))
   (zd0 (zk2 (zy8 (K:=K) rfl ğa ğd ğe (zs5 (K:=K) rfl) (zu1 (K:=K) rfl (pv 0) rfl) (za0 (zc3 (za0 (zj1 zw9 (pix w K hr (pv 5) ze0) (pix w K hr (pv 3) (pv 4))) (za0 (pix w K hr (pv 3) (pv 4)) zg0))) zg0)))
   (zd0 (zk2 (zy8 (K:=K) rfl ğa ğb ğc zz2 (pix w K hr (zu1 (K:=K) rfl (pv 0) rfl) (pix w K hr (pv 5) ze0)) (za0 (zj1 zt9 ze0 (pv 4)) zg0)))
   (zj0 (zk2 (zy8 (K:=K) rfl ğa ğb ğc zz2 (pix w K hr (zu1 (K:=K) rfl (pv 0) rfl) (pix w K hr (pv 5) ze0)) (za0 (zj1 (zk1 (K:=K) rfl) (zj1 zt9 ze0 (pv 4)) ze0) zg0)))))))))))),(zl0 (zie jB jG (RfF.c (zb8 zm0)) (zv0 0))
   (zl0 (zie jB jC (RfF.c (zb8 zm0)) (zv0 0))
   (zl0 (zie jB jJ (RfN.c (zox (RfI.j (zk6 (zc0 (zi0 1) zm0))) (zh1 (i:=0) (n:=1) (by decide)) (RfF.new (zb8 zm0)))) (zv0 0))
   (zr5 (zbx (zc0 (zi0 2) zm0)) (zjc (zo1 (rgn 4) (zo1 (rgn 5) zw6))) (zl0 (zl2 (zhj zpm (zh4 jB jG (zv0 0)) (zc0 (RfF.e (zb8 (zc0 (zk0 r_ix (zb0 5) rvi) (zc0 (zk0 r_ix (zb0 5) rvi) zm0)))) zm0)))
   (zl0 (zl2 (zhj zpm (zh4 jB jC (zv0 0)) (zc0 (RfF.e (zb8 (zc0 (zk0 zyl (RfE.v (zk0 r_ix (zb0 5) rvi)) (RfE.v (zk0 r_ix (zb0 3) (zb0 4)))) (zc0 (zk0 r_ix (zb0 3) (zb0 4)) zm0)))) zm0)))
   (zl0 (zl2 (zhj zaf (zqb1 (zh4 jB jJ (zv0 0)) (zk0 r_ix (zb0 5) rvi)) (zc0 (zk0 zi21 rvi (zb0 4)) zm0)))
   (zl2 (zhj zaf (zqb1 (zh4 jB jJ (zv0 0)) (zk0 r_ix (zb0 5) rvi)) (zc0 (zk0 zg8 (RfE.v (zk0 zi21 rvi (zb0 4))) rvi) zm0)))))))))),?_⟩
 rintro as Qd a ⟨n,A,f,rfl,hf,hn,hA,hb,q⟩;walk_at"ds";walk_at"dn";walk_at"dn";walk_at"a";refine⟨by lia,by lia,?_⟩;rw[v6];refine zd61 (λ_=>.li []) (by rw[wT,aQ];lia) (λi hi=>?_) (hJ _ ?_)
 ·walk_at"cs"
 clear hJ;have e0:(u3 n).map (λ_=>(_4.T.li []:_4.T))=(vY n []).map λl=>.li (l.map nI):=by simp[List.map_const']
 rw[e0];walk_at"dd";refine⟨λi U=>∃S s4 s5,i<=A.length/\szT S=2 * i/\Net n i (zt6 (A.take i)) S/\U=[.io a (.ob jA [("ends",.li ((zt6 (A.take i)).map nI)),("left",.li ((zra (A.take i) (f.take i)).map .int)),("steps",tT S)]),.sh (nI n),.sh (.list (A.map dAr)),.sh (.list (f.map .int)),s4,s5],⟨vY n [],.un,.un,wU _,by simp[szT],Net.nil n,rfl⟩,?_,?_⟩
 ·rintro i d U hd ⟨S,s4,s5,hi,hsz,N,rfl⟩;obtain⟨x,hx,rfl⟩:=zvk hd;rw[u8]at hx;obtain⟨u,Z,rfl⟩:=xA.mp hx;have hil:i < A.length:=by
   rcases wZ i A.length with z|z
   ·exact z
   ·rw[wG z]at Z;cases Z
  obtain⟨y,hy⟩:∃y,f[i]?=some y:=⟨f[i]'(by lia),u4 _⟩
  obtain⟨b1,b2⟩:=hb u (wJ Z);have tA:A.take (i+1)=A.take i++[u]:=by rw[xU,Z];rfl
  have tF:f.take (i+1)=f.take i++[y]:=by rw[xU,hy];rfl
  have lE:(zt6 (A.take i)).length=2 * i:=N.lE;have lL:(zra (A.take i) (f.take i)).length=2 * i:=by
   rw[zcf (by rw[wW,wW];lia),wW];lia
  have eF:=zpo (A:=A.take i) (f:=f.take i) (a:=u) (x:=y) (by rw[wW,wW];lia);dsimp only;rw[tA,tF,zss,eF];generalize zt6 (A.take i)=E at lE N ⊢;generalize zra (A.take i) (f.take i)=L at lL ⊢;rw[show dAr u=.tuple [nI u.1,nI u.2.1,.int u.2.2]from rfl];have Y:atI (f.map u6) (i:Int)=some (.int y):=zxc (by lia) (by rw[v6,u8,hy];rfl);have a0:atI [nI u.1,nI u.2.1,u6 u.2.2] 0=some (nI u.1):=rfl;have a1:atI [nI u.1,nI u.2.1,u6 u.2.2] 1=some (nI u.2.1):=rfl;have a2:atI [nI u.1,nI u.2.1,u6 u.2.2] 2=some (.int u.2.2):=rfl;walk_at"dd";walk_at"a";refine⟨nI u.2.1,rfl,nI u.1,rfl,by rw[u5];lia,hJ _ ?_⟩;clear hJ;rw[show E.map nI++[nI u.2.1,nI u.1]=(E++[u.2.1,u.1]).map nI by rw[wH];rfl];walk_at"a";refine⟨_,rfl,_,Y,?_⟩;walk_at"dd";refine⟨_,Y,by rw[u5];lia,hJ _ ?_⟩;clear hJ;rw[show L.map u6++[.int (u.2.2 - y),.int y]=(L++[u.2.2 - y,y]).map .int by rw[wH];rfl];obtain⟨p,O⟩:∃p,S[u.1]?=some p:=⟨S[u.1]'(by rw[N.lS];exact b1),u4 _⟩
  obtain⟨W,I⟩:∃W,(S.set u.1 (p++[2 * i]))[u.2.1]?=some W:=⟨(S.set u.1 (p++[2 * i]))[u.2.1]'(by rw[wK,N.lS];exact b2),u4 _⟩
  have N2:=N.push b1 b2 O I;have z1:=zl81 O;have z2:=zl81 I;have z3:=zwb (p++[2 * i]) O;have z4:=zwb (W++[2 * i+1]) I;rw[vW,zL]at z3 z4;have g1:(S.map λl=>_4.T.li (l.map nI))[u.1]?=some (_4.T.li (p.map nI)):=by rw[u8,O];rfl
  have g2:((S.set u.1 (p++[2 * i])).map λl=>_4.T.li (l.map nI))[u.2.1]?=some (_4.T.li (W.map nI)):=by rw[u8,I];rfl
  have i1:ixN (S.map λl=>_4.T.li (l.map nI)).length ((u.1:Nat):Int)=some u.1:=by rw[u5];exact zxk (by rw[N.lS];exact b1)
  have i2:ixN ((S.set u.1 (p++[2 * i])).map λl=>_4.T.li (l.map nI)).length ((u.2.1:Nat):Int)=some u.2.1:=by rw[u5,wK];exact zxk (by rw[N.lS];exact b2)
  walk_at"a";refine⟨nI u.1,rfl,u.1,_,i1,g1,rfl,zs81 i,?_⟩;walk_at"dd";refine⟨by rw[u5];lia,hJ _ ?_⟩;clear hJ;rw[g1];dsimp only;rw[show p.map nI++[u6 (2 * (i:Int))]=(p++[2 * i]).map nI by rw[wH];rfl,setT];walk_at"dd";refine⟨nI u.2.1,rfl,u.2.1,_,i2,g2,rfl,zs81 i,?_⟩;walk_at"dd";refine⟨by rw[u5];lia,_,.sh (nI i),.sh (.tuple [nI u.1,nI u.2.1,.int u.2.2]),by lia,by lia,N2,?_⟩;rw[g2];dsimp only;rw[show W.map nI++[u6 (2 * (i:Int)+1)]=(W++[2 * i+1]).map nI by rw[wH];rfl,setT];rfl
 ·rintro U ⟨S,s4,s5,hi,hsz,N,rfl⟩;rw[zde,u5,xM]at N;rw[zde,u5,xM,yD (by lia)];exact⟨_,rfl,q S N⟩
theorem frzT(S:List (List Nat)):(zex (S.map λl=>_4.T.li (l.map nI))).map (λp=>wB (p.map .list))=some (dSt S):=by
 have:∀S:List (List Nat),zex (S.map λl=>_4.T.li (l.map nI))=some (S.map λl=>l.map nI):=by
  intro S
  induction S with
 |nil=>rfl
 |cons l r q=>simp only[v9,zex,q];rfl
 rw[this];simp only[Option.map_some,wE];rfl
def zk9:DSp:=λds Q=>∃(n:Nat)(A:List Ar)(src p:Nat)(fl:D)(f:List Int),ds=[nI n,.list (A.map dAr),nI src,nI p,fl]/\((fl=.none/\f=vY A.length 0) \/ fl=.list (f.map .int))/\f.length=A.length/\n < 64/\A.length<=400000/\(∀a∈A,a.1 < n/\a.2.1 < n) /\
 (∀(k:Nat) a x,A[k]?=some a->f[k]?=some x->0<=x/\x<=a.2.2)/\src < n/\p < n/\src≠p /\
 ∀(L:List Int)(side:List Nat),Best n A f src p L side->Q (.tuple [.list ((u3 A.length).map λk=>.int (lf L (2 * k+1))),.list (side.map nI)])
theorem zzd:FnScope ["count", "arcs", "source", "sink", "flow", "stream", "levels"] ["count", "arcs", "source", "sink", "flow"] (zh0 zpb):=by walk_at"sc"
theorem zvl(M:Md K mg)(T:TopDefN K "greatest" zpb)(jK:mg "len"=none)(kX:mg "sorted"=none)(jB:Cls K jA)(kC:MethD P w K mg base jA "levels" 2 ["self", "source"] (spT K (zm8 jA)))(kK:MethD P w K mg base jA "push_up" 3 ["self", "levels", "source", "sink"] (spT K (zz6 jA)))(kL:MethD P w K mg base jA "amounts" 1 ["self"] (spT K (zj7 jA)))(uX:ztt P w K mg base "Stream" jA 1 ["self", "count", "arcs", "flow"] (spT K (zo6 jA))):DefN P w K mg base "greatest" 4 ["count", "arcs", "source", "sink", "flow"] (spD K zk9):=by
 refine za81 M T zzd (qs:=["count", "arcs", "source", "sink"]) rfl (λ_ _ _ _ _ _ _ us hl=>match us,hl with|[_,_,_,_,_],_=>⟨_,rfl,rfl⟩) (λ_ _ _ _ _ _ _ us hl=>match us,hl with|[_,_,_,_],_=>⟨_,rfl,rfl⟩) (zy9 (by walk_at"i")) (zv2 ?_);walk_at"g";have nd:=zzd.nd;refine⟨_,_,(zd0 (pset 5 nd (zlf uX (rmn hr) rfl (za0 (pv 0) (za0 (pv 1) (za0 (zzh (zs0 zme1 (pv 4) zzg (zf1 _)) (zj1 zt9 (zc3 (za0 ze0 zg0)) (zp0 (zg1 (K:=K) rfl) rfl jK zg4 (za0 (pv 1) zg0))) (pv 4)) zg0)))))
   (zd0 (pset 6 nd (zd7 kC (rmn hr) (pv 5) (za0 (pv 2) zg0)))
   (zd0 (zv9 aW (zs0 (zea1 (w:=w) (K:=K) (Room.units hr) rfl rfl) (pv 3) (pv 6) (by with_unfolding_all rfl)) (zd0 (zk2 (zd7 kK (rmn hr) (pv 5) (za0 (pv 6) (za0 (pv 2) (za0 (pv 3) zg0)))))
   (zj0 (pset 6 nd (zd7 kC (rmn hr) (pv 5) (za0 (pv 2) zg0))))))
   (zj0 (za1 (zq1 (za0 (zbv kL (rmn hr) (pv 5)) (za0 (zp0 (zxh (K:=K) rfl rfl) rfl kX zrk (za0 (pv 6) zg0)) zg0)))))))),(zl0 (zi4 (RfN.c (zel (at_d (zi0 0) (at_d (zi0 1) (at_d (zy21 (zr0 (zk0 zlj1 (zb0 4) (RfE.v zyf))) (RfF.e (zm81 (zb8 (zc0 zn1 zm0)) (zl5 zvc (zo0 (zb0 1) ze1)))) (zi0 4)) zg9))))))
   (zl0 (zbd 5 [.fl "steps"] (zbd 5 [.fl "ends"] (zi4 (zta false (zv0 5) (at_d (zi0 2) zg9)))))
   (zl0 (zca (zr0 (zef1 (zi0 3) (zv0 6))) (zl0 (zl2 (zta true (zv0 5) (at_b (zv0 6) (at_d (zi0 2) (at_d (zi0 3) zg9)))))
   (zi4 (zta false (zv0 5) (at_d (zi0 2) zg9)))))
   (zi1 (RfE.c (zt2 (zc0 (RfN.ex (zl71 (zv0 5) zg9)) (zc0 (RfF.e (zy31 (zv0 6))) zm0)))))))),?_⟩
 rintro ds Qd ⟨n,A,src,u,fl,f,rfl,hfl,hf,hn,hA,hb,hc,W,hs2,hss,q⟩;walk_at"ds";refine zf0 λJ hJ=>?_;have start:∀S,Net n A.length (zt6 A) S->J [.sh (nI n),.sh (.list (A.map dAr)),.sh (nI src),.sh (nI u),.sh fl,.ow (.ob jA [("ends",.li ((zt6 A).map nI)),("left",.li ((zra A f).map .int)),("steps",tT S)]),.un]:=λS N=>by
  walk_at"f";have Y:=zeu hf hc;walk_at"a";refine⟨_,dSt S,rfl,frzT S,_,_,rfl,rfl,?_⟩;refine⟨n,A.length,zt6 A,zra A f,S,src,rfl,by lia,N,Y.len,W,λz I t=>hJ _ ?_⟩;clear hJ;refine zdu ?_;refine⟨λμ U=>∃L z,Up A.length (zc9 A) (zt6 A) (zra A f) L src u/\Lev n A.length (zt6 A) L src z/\μ=(tot A.length (zc9 A) - bal A.length (zt6 A) L u).toNat/\U=[.sh (nI n),.sh (.list (A.map dAr)),.sh (nI src),.sh (nI u),.sh fl,.ow (oS jA (zt6 A) L S),.ow (.dk (kN z))],
   ⟨_,zra A f,z,Up.refl Y,I,rfl,rfl⟩,?_⟩
  clear I z;rintro μ U ⟨L,z,up,I,rfl,rfl⟩;walk_at"dd";rw[zO];refine two (λZ=>?_) λZ=>?_
  ·walk_at"a";refine⟨n,A.length,zc9 A,zt6 A,L,S,z,src,u,rfl,by lia,by lia,N,up.cap,W,hss,I,Z,λL' up' hlt=>hJ _ ?_⟩;clear hJ;walk_at"dd";have O:=up.trans up';have hle:=zw61 (E:=zt6 A) O.cap u;refine⟨n,A.length,zt6 A,L',S,src,rfl,by lia,N,O.cap.len,W,λlv' hv' t=>⟨_,by lia,L',lv',O,hv',rfl,rfl⟩⟩
  ·refine⟨A.length,zt6 A,L,S,rfl,up.cap.len,hA,λt=>?_⟩;have hz:=zy0 n (z.map (·.1)) I.nd (λx hx=>by obtain⟨p,hp,rfl⟩:=vV.mp hx;exact I.bd p hp);rw[u5]at hz;refine⟨z.map λp=>((p.1:Nat):Int),?_,by rw[u5];lia,λns' hp hs=>?_⟩
   ·unfold kN;rw[wE,wE];rfl
   ·obtain⟨side,e,b⟩:=zd91 up I (by simpa using Z) hp hs;rw[e];exact q L side b
 clear hJ;rcases hfl with⟨rfl,rfl⟩|rfl
 ·walk_at"dd";refine⟨by rw[u5];lia,by rw[u5];lia,by rw[u5];lia,n,A,vY A.length 0,by rw[u5,v6,show(vY A.length [u6 0]).flatten=(vY A.length 0).map .int by rw[ubA,ubB]];rfl,hf,by lia,hA,hb,λS N=>⟨trivial,start S N⟩⟩
 ·walk_at"dd";exact⟨n,A,f,rfl,hf,by lia,hA,hb,λS N=>⟨trivial,start S N⟩⟩
end
inductive Gt where
|st (x:Int)|la (x:Int) (f:Nat)|ti (x y:Int) (t:Nat)
def Gt.d:Gt->D
|.st x=>.tuple [.str "steady",.int x]
|.la x f=>.tuple [.str "late",.int x,.int (f:Int)]
|.ti x y t=>.tuple [.str "tidal",.int x,.int y,.int (t:Int)]
def Gt.at:Gt->Nat->Int
|.st x,_=>x
|.la x f,m=>if f<=m then x else 0
|.ti x y t,m=>if m % t=0 then x else y
def Gt.ob(u q p:aE):Gt->_4.T
|.st x=>.ob u [("wide",.fz (.int x))]
|.la x f=>.ob q [("wide",.fz (.int x)),("since",.fz (.int (f:Int)))]
|.ti x y t=>.ob p [("wide",.fz (.int x)),("other",.fz (.int y)),("turn",.fz (.int (t:Int)))]
def Gt.ok:Gt->Prop
|.ti _ _ t=>0 < t/\t < 1000
|_=>True
section
variable {P:aN}{w:aP}{K:Fg}{mg:Str->Option aA}{base:aT}{jE jL jD:aE}
def zk3(C:aE):DSpT:=λas Q=>∃x:Int,as=[.o (.ob C []),.d (.int x)]/\Q (.fz .none) (.ob C [("wide",.fz (.int x))])
def zk5(C:aE):DSpT:=λas Q=>∃x y:Int,as=[.o (.ob C []),.d (.int x),.d (.int y)]/\Q (.fz .none) (.ob C [("wide",.fz (.int x)),("since",.fz (.int y))])
def zu3(C:aE):DSpT:=λas Q=>∃x y z:Int,as=[.o (.ob C []),.d (.int x),.d (.int y),.d (.int z)]/\Q (.fz .none) (.ob C [("wide",.fz (.int x)),("other",.fz (.int y)),("turn",.fz (.int z))])
def za2(C:aE):DSpT:=λas Q=>∃(x:Int)(m:Nat),as=[.b (.ob C [("wide",.fz (.int x))]),.d (.int (m:Int))]/\Q (.fz (.int (Gt.at (.st x) m))) (.fz .none)
def za3(C:aE):DSpT:=λas Q=>∃(x:Int)(f m:Nat),as=[.b (.ob C [("wide",.fz (.int x)),("since",.fz (.int (f:Int)))]),.d (.int (m:Int))]/\Q (.fz (.int (Gt.at (.la x f) m))) (.fz .none)
def ze2(C:aE):DSpT:=λas Q=>∃(x y:Int)(t m:Nat),as=[.b (.ob C [("wide",.fz (.int x)),("other",.fz (.int y)),("turn",.fz (.int (t:Int)))]),.d (.int (m:Int))]/\0 < t/\t < 1000/\Q (.fz (.int (Gt.at (.ti x y t) m))) (.fz .none)
def zdf(u q p:aE):DSpT:=λas Q=>∃g:Gt,as=[.d g.d]/\Q (g.ob u q p) (.fz .none)
def zfn:DSp:=λds Q=>∃(g:Gt)(m:Nat),ds=[g.d,.int (m:Int)]/\g.ok/\Q (.int (g.at m))
theorem zp5:FnScope ["self", "wide"] ["self", "wide"] (zh0 zi3):=by walk_at"sc"
theorem zz9(M:Md K mg)(p:TopCls K "Steady" jE)(T:TopMeth K jE "__init__" "Steady.__init__" zi3)(jO:NoAttr K jE "wide"):ztt P w K mg base "Steady" jE 1 ["self", "wide"] (spT K (zk3 jE)):=by
 have jY:=p.cls;refine zpk M p T zp5 (by walk_at"h") (zwj λas Qd h=>by obtain⟨_,rfl,_⟩:=h;rfl) (zu8 ?_);walk_at"g";have nd:=zp5.nd;refine⟨_,(dFld jE "wide" (cE (dVar 1)) (pVar 0)),(zj0 (zqe (pv 0) (pv 1) rfl)),(zie jY jO (RfE.c (zi0 1)) (zv0 0)),?_⟩;rintro as Qd a ⟨x,rfl,q⟩;walk_at"ds";walk_at"dd";exact⟨_,rfl,q⟩
theorem zh7:FnScope ["self", "wide", "since"] ["self", "wide", "since"] (zh0 zx4):=by walk_at"sc"
theorem zuc(M:Md K mg)(p:TopCls K "Late" jL)(T:TopMeth K jL "__init__" "Late.__init__" zx4)(jV:NoAttr K jL "wide")(jS:NoAttr K jL "since"):ztt P w K mg base "Late" jL 1 ["self", "wide", "since"] (spT K (zk5 jL)):=by
 have kM:=p.cls;refine zpk M p T zh7 (by walk_at"h") (zwj λas Qd h=>by obtain⟨_,_,rfl,_⟩:=h;rfl) (zu8 ?_);walk_at"g";have nd:=zh7.nd;refine⟨_,(dSeq (dFld jL "wide" (cE (dVar 1)) (pVar 0))
   (dFld jL "since" (cE (dVar 2)) (pVar 0))),(zd0 (zqe (pv 0) (pv 1) rfl)
   (zj0 (zqe (pv 0) (pv 2) rfl))),(zl0 (zie kM jV (RfE.c (zi0 1)) (zv0 0))
   (zie kM jS (RfE.c (zi0 2)) (zv0 0))),?_⟩
 rintro as Qd a ⟨x,y,rfl,q⟩;walk_at"ds";walk_at"dn";walk_at"dd";exact⟨_,rfl,q⟩
theorem zm6:FnScope ["self", "wide", "other", "turn"] ["self", "wide", "other", "turn"] (zh0 zc4):=by walk_at"sc"
theorem zgb(M:Md K mg)(p:TopCls K "Tidal" jD)(T:TopMeth K jD "__init__" "Tidal.__init__" zc4)(jT:NoAttr K jD "wide")(jP:NoAttr K jD "other")(jU:NoAttr K jD "turn"):ztt P w K mg base "Tidal" jD 1 ["self", "wide", "other", "turn"] (spT K (zu3 jD)):=by
 have jX:=p.cls;refine zpk M p T zm6 (by walk_at"h") (zwj λas Qd h=>by obtain⟨_,_,_,rfl,_⟩:=h;rfl) (zu8 ?_);walk_at"g";have nd:=zm6.nd;refine⟨_,(dSeq (dFld jD "wide" (cE (dVar 1)) (pVar 0))
   (dSeq (dFld jD "other" (cE (dVar 2)) (pVar 0))
   (dFld jD "turn" (cE (dVar 3)) (pVar 0)))),(zd0 (zqe (pv 0) (pv 1) rfl)
   (zd0 (zqe (pv 0) (pv 2) rfl)
   (zj0 (zqe (pv 0) (pv 3) rfl)))),(zl0 (zie jX jT (RfE.c (zi0 1)) (zv0 0))
   (zl0 (zie jX jP (RfE.c (zi0 2)) (zv0 0))
   (zie jX jU (RfE.c (zi0 3)) (zv0 0)))),?_⟩
 rintro as Qd a ⟨x,y,z,rfl,q⟩;walk_at"ds";walk_at"dn";walk_at"dn";walk_at"dd";exact⟨_,rfl,q⟩
theorem zq5:FnScope ["self", "moment"] ["self", "moment"] (zh0 zj3):=by walk_at"sc"
theorem zaa(jY:Cls K jE)(T:TopMeth K jE "width_at" "Steady.width_at" zj3)(jO:NoAttr K jE "wide"):MethD P w K mg base jE "width_at" 1 ["self", "moment"] (spT K (za2 jE)):=by
 refine zo8 jY T zq5 (by walk_at"h") (zwj λas Qd h=>by obtain⟨_,_,rfl,_⟩:=h;rfl) (zu8 ?_);walk_at"g";have nd:=zq5.nd;refine⟨_,(dRet (cE (dPE (pFld jE "wide" (pVar 0))))),(zj0 (za1 (zu1 (K:=K) rfl (pv 0) rfl))),(zi1 (RfE.c (RfP.e (zh4 jY jO (zv0 0))))),?_⟩;rintro as Qd a ⟨x,m,rfl,q⟩;walk_at"ds";walk_at"dd";exact q
theorem ze7:FnScope ["self", "moment"] ["self", "moment"] (zh0 za5):=by walk_at"sc"
theorem zzb(kM:Cls K jL)(T:TopMeth K jL "width_at" "Late.width_at" za5)(jV:NoAttr K jL "wide")(jS:NoAttr K jL "since"):MethD P w K mg base jL "width_at" 1 ["self", "moment"] (spT K (za3 jL)):=by
 refine zo8 kM T ze7 (by walk_at"h") (zwj λas Qd h=>by obtain⟨_,_,_,rfl,_⟩:=h;rfl) (zu8 ?_);walk_at"g";have nd:=ze7.nd;refine⟨_,(dRet (cE (dIfE (ze8 (dOp fGe (zx0 1) (dPV (pFld jL "since" (pVar 0))))) (dPE (pFld jL "wide" (pVar 0))) (dC (.int 0))))),(zj0 (za1 (zzh (zs0 zha1 (pv 1) (zu1 (K:=K) rfl (pv 0) rfl) (zf1 _)) (zu1 (K:=K) rfl (pv 0) rfl) ze0))),(zi1 (RfE.c (zy21 (zr0 (zk0 r_ge (zb0 1) (RfP.v (zh4 kM jS (zv0 0))))) (RfP.e (zh4 kM jV (zv0 0))) zn1))),?_⟩;rintro as Qd a ⟨x,f,m,rfl,q⟩;walk_at"ds";walk_at"dd";have q:Qd (.fz (.int (if f<=m then x else 0))) (.fz .none):=q;refine two (λh=>?_) λh=>?_
 ·rw[aH (by lia)]at q;exact q
 ·rw[aF (by lia)]at q;exact q
theorem zq6:FnScope ["self", "moment"] ["self", "moment"] (zh0 ze4):=by walk_at"sc"
theorem zcb(jX:Cls K jD)(T:TopMeth K jD "width_at" "Tidal.width_at" ze4)(jT:NoAttr K jD "wide")(jP:NoAttr K jD "other")(jU:NoAttr K jD "turn"):MethD P w K mg base jD "width_at" 1 ["self", "moment"] (spT K (ze2 jD)):=by
 refine zo8 jX T zq6 (by walk_at"h") (zwj λas Qd h=>by obtain⟨_,_,_,_,rfl,_⟩:=h;rfl) (zu8 ?_);walk_at"g";have nd:=zq6.nd;refine⟨_,(dRet (cE (dIfE (ze8 (dOp fEq (dOp fMod (zx0 1) (dPV (pFld jD "turn" (pVar 0)))) (dC (.int 0)))) (dPE (pFld jD "wide" (pVar 0))) (dPE (pFld jD "other" (pVar 0)))))),(zj0 (za1 (zzh (zs0 (zf4 (K:=K) rfl (Room.units hr)) (zj1 zd3 (pv 1) (zu1 (K:=K) rfl (pv 0) rfl)) ze0 (zf1 _)) (zu1 (K:=K) rfl (pv 0) rfl) (zu1 (K:=K) rfl (pv 0) rfl)))),(zi1 (RfE.c (zy21 (zr0 (zq2 q_eq (RfV.h (RfE.v (zk0 zxa (zb0 1) (RfP.v (zh4 jX jU (zv0 0)))))) (RfV.h rvi))) (RfP.e (zh4 jX jT (zv0 0))) (RfP.e (zh4 jX jP (zv0 0)))))),?_⟩;rintro as Qd a ⟨x,y,t,m,rfl,u,p,q⟩;walk_at"ds";walk_at"dd";have q:Qd (.fz (.int (if m % t=0 then x else y))) (.fz .none):=q;have e:((m:Int) % (t:Int)=0) ↔ m % t=0:=by rw[<- Int.natCast_emod];lia
 refine⟨by lia,two (λh=>?_) λh=>?_⟩
 ·rw[aH (e.mp h)]at q;exact q
 ·rw[aF (λz=>h (e.mpr z))]at q;exact q
theorem zag:FnScope ["gate"] ["gate"] (zh0 zge):=by walk_at"sc"
theorem zco(M:Md K mg)(T:TopDef K "gate_of" zge)(u:ztt P w K mg base "Tidal" jD 1 ["self", "wide", "other", "turn"] (spT K (zu3 jD)))(z:ztt P w K mg base "Steady" jE 1 ["self", "wide"] (spT K (zk3 jE)))(p:ztt P w K mg base "Late" jL 1 ["self", "wide", "since"] (spT K (zk5 jL))):Def P w K mg base "gate_of" 3 ["gate"] (spT K (zdf jE jL jD)):=by
 refine zx2 M T zag (by walk_at"h") (zwj λas Qd h=>by obtain⟨_,rfl,_⟩:=h;rfl) (zu8 ?_);walk_at"g";have nd:=zag.nd;refine⟨_,(dSeq (dIf (ze8 (dOp fEq (dOp fIx (zx0 0) (dC (.int 0))) (dC (.str "steady")))) (dRet (cN (zh81 jE (zk3 jE) (aD (dOp fIx (zx0 0) (dC (.int 1))) aNil)))) zfe)
   (dSeq (dIf (ze8 (dOp fEq (dOp fIx (zx0 0) (dC (.int 0))) (dC (.str "late")))) (dRet (cN (zh81 jL (zk5 jL) (aD (dOp fIx (zx0 0) (dC (.int 1))) (aD (dOp fIx (zx0 0) (dC (.int 2))) aNil))))) zfe)
   (dRet (cN (zh81 jD (zu3 jD) (aD (dOp fIx (zx0 0) (dC (.int 1))) (aD (dOp fIx (zx0 0) (dC (.int 2))) (aD (dOp fIx (zx0 0) (dC (.int 3))) aNil)))))))),(zd0 (zv6 (zs0 (zf4 (K:=K) rfl (Room.units hr)) (pix w K hr (pv 0) ze0) zi5 (zf1 _)) (zj0 (za1 (zlf z (rmn hr) rfl (za0 (pix w K hr (pv 0) ze0) zg0)))) zl1)
   (zd0 (zv6 (zs0 (zf4 (K:=K) rfl (Room.units hr)) (pix w K hr (pv 0) ze0) zi5 (zf1 _)) (zj0 (za1 (zlf p (rmn hr) rfl (za0 (pix w K hr (pv 0) ze0) (za0 (pix w K hr (pv 0) ze0) zg0))))) zl1)
   (zj0 (za1 (zlf u (rmn hr) rfl (za0 (pix w K hr (pv 0) ze0) (za0 (pix w K hr (pv 0) ze0) (za0 (pix w K hr (pv 0) ze0) zg0)))))))),(zl0 (zu6 (zr0 (zq2 q_eq (RfV.h (RfE.v (zk0 r_ix (zb0 0) rvi))) (RfV.h (RfE.v zf5)))) (zi1 (RfN.c (zel (at_d (zk0 r_ix (zb0 0) rvi) zg9)))) zm1)
   (zl0 (zu6 (zr0 (zq2 q_eq (RfV.h (RfE.v (zk0 r_ix (zb0 0) rvi))) (RfV.h (RfE.v zf5)))) (zi1 (RfN.c (zel (at_d (zk0 r_ix (zb0 0) rvi) (at_d (zk0 r_ix (zb0 0) rvi) zg9))))) zm1)
   (zi1 (RfN.c (zel (at_d (zk0 r_ix (zb0 0) rvi) (at_d (zk0 r_ix (zb0 0) rvi) (at_d (zk0 r_ix (zb0 0) rvi) zg9)))))))),?_⟩
 rintro as Qd a ⟨g,rfl,q⟩;cases g with
|st x =>
  unfold Gt.d;walk_at"ds";walk_at"a";walk_at"k";exact⟨_,rfl,x,rfl,trivial,q⟩
|la x f =>
  unfold Gt.d;walk_at"ds";walk_at"a";walk_at"k";rw[aF (by decide +kernel)];walk_at"b";walk_at"k";exact⟨_,rfl,_,rfl,x,f,rfl,trivial,q⟩
|ti x y t =>
  unfold Gt.d;walk_at"ds";walk_at"a";walk_at"k";rw[aF (by decide +kernel)];walk_at"b";walk_at"k";rw[aF (by decide +kernel)];walk_at"f";walk_at"dd";exact⟨_,rfl,_,rfl,_,rfl,x,y,t,rfl,trivial,q⟩
theorem zkn:FnScope ["gate", "moment"] ["gate", "moment"] (zh0 zwq):=by walk_at"sc"
theorem zo31(M:Md K mg)(T:TopDef K "width" zwq)(p:Def P w K mg base "gate_of" 3 ["gate"] (spT K (zdf jE jL jD)))(kM:Cls K jL)(jY:Cls K jE)(jX:Cls K jD)(I:MethD P w K mg base jE "width_at" 1 ["self", "moment"] (spT K (za2 jE)))(u:MethD P w K mg base jL "width_at" 1 ["self", "moment"] (spT K (za3 jL)))(z:MethD P w K mg base jD "width_at" 1 ["self", "moment"] (spT K (ze2 jD))):Def P w K mg base "width" 4 ["gate", "moment"] (spD K zfn):=by
 refine zx2 M T zkn (by walk_at"h") (zy9 (by walk_at"i")) (zv2 ?_);walk_at"g";have nd:=zkn.nd;refine⟨_,(dRet (cE (eN (zpy "width_at" [(jE,(za2 jE)),(jL,(za3 jL)),(jD,(ze2 jD))] (zic1 (zdf jE jL jD) (aD (dVar 0) aNil)) (zw0 (dVar 1) dNil))))),(zj0 (za1 (zs41 (P:=P) (w:=w) (K:=K) (mg:=mg) (base:=base) (k:=1) rfl rfl rfl rfl rfl (rmn hr) (zn0 p (rmn hr) rfl (za0 (pv 0) zg0)) (za0 (pv 1) zg0)))),(zi1 (RfE.c (RfN.ex (zs11 (tab:=[(jE,(za2 jE)),(jL,(za3 jL)),(jD,(ze2 jD))]) (tab3 ⟨_,I⟩ ⟨_,u⟩ ⟨_,z⟩) (zt81 (at_d (zi0 0) zg9)) (zc0 (zi0 1) zm0))))),?_⟩;rintro ds Qd ⟨g,m,rfl,ok,q⟩;walk_at"ds";walk_at"dd";refine⟨g,rfl,?_⟩;cases g with
|st x =>
  unfold Gt.ob;walk_at"dd";exact⟨_,wR,x,m,rfl,q⟩
|la x f =>
  unfold Gt.ob;walk_at"dd";exact⟨_,wC _ wR,x,f,m,rfl,q⟩
|ti x y t =>
  unfold Gt.ob;walk_at"dd";exact⟨_,wC _ (wC _ wR),x,y,t,m,rfl,ok.1,ok.2,q⟩
end
structure Pi where
 u:Nat
 v:Nat
 len:Nat
 pr:Int
 g:Gt
def Pi.d(p:Pi):D:=.tuple [.int (p.u:Int),.int (p.v:Int),.int (p.len:Int),.int p.pr,p.g.d]
theorem zgm{k:Nat}(h:k < n):ixN n ((k:Nat):Int)=some k:=by
 unfold ixN;rw[aH (by lia),aH (by lia)];simp
structure Va where
 nm:Str
 room:Int
 fill:Int
def Va.d(v:Va):D:=.tuple [.str v.nm,.int v.room,.int v.fill]
structure Le where
 t:Nat
 at_:Nat
 am:Int
def Le.d(l:Le):D:=.tuple [.int (l.t:Int),.int (l.at_:Int),.int l.am]
def pl(ps:List Pi)(i:Nat):Nat:=((ps[i]?).map Pi.len).getD 0
def zs1(ps:List Pi)(i:Nat):Nat:=((ps[i]?).map Pi.u).getD 0
def zp9(ps:List Pi)(i:Nat):Nat:=(ps[i]?).map Pi.v |>.getD 0
def zmb(ps:List Pi)(i t:Nat):Int:=((ps[i]?).map λp=>p.g.at t).getD 0
def Gt.okk(g:Gt):Prop:=g.ok/\∀m,0<=g.at m
def PiOk(n:Nat)(p:Pi):Prop:=p.u < n/\p.v < n/\1<=p.len/\g_le p.len/\p.g.okk
where g_le (l:Nat):Prop:=l<=20
def dY(vs:List Va)(ps:List Pi):D:=.tuple [.list (vs.map Va.d),.list (ps.map Pi.d)]
theorem zan{α:Type}(l:List α)(t:Nat):cutG l (some (t:Int)) none=l.drop t:=by
 unfold cutG;rw[HT.sIx_nat,HT.sIx_none,yD (by rw[yI];lia)];by_cases h:t<=l.length
 ·rw[zW h]
 ·rw[uaF (by lia),ubC (u7 _),ubC (by lia)]
theorem zt11{α:Type}(l:List α)(t:Nat):cutG l none (some (t:Int))=l.take t:=by
 unfold cutG;rw[HT.sIx_nat,HT.sIx_none,List.drop_zero,Nat.sub_zero];by_cases h:t<=l.length
 ·rw[zW h]
 ·rw[uaF (by lia),yD (u7 _),yD (by lia)]
def zx5:DSp:=λds Q=>∃(vs:List Va)(r:D)(m v:Nat),ds=[.tuple [.list (vs.map Va.d),r],nI m,nI v]/\m<=100/\vs.length<=100/\Q (nI (2+m * vs.length+v))
def za91:DSp:=λds Q=>∃(vs:List Va)(r:D)(n:Nat),ds=[.tuple [.list (vs.map Va.d),r],nI n]/\1<=vs.length/\vs.length<=100/\Q (.tuple [.int (((n:Int) - 2) / (vs.length:Int)),.int (((n:Int) - 2) % (vs.length:Int))])
section
variable {P:aN}{w:aP}{K:Fg}{mg:Str->Option aA}{base:aT}
theorem zlx:FnScope ["yard", "moment", "vat"] ["yard", "moment", "vat"] (zh0 zmz):=by walk_at"sc"
theorem zua1(M:Md K mg)(T:TopDef K "node" zmz)(jK:mg "len"=none):Def P w K mg base "node" 1 ["yard", "moment", "vat"] (spD K zx5):=by
 refine zx2 M T zlx (by walk_at"h") (zy9 (by walk_at"i")) (zv2 ?_);walk_at"g";have nd:=zlx.nd;refine⟨_,_,(zj0 (za1 (zj1 (zk1 (K:=K) rfl) (zj1 (zk1 (K:=K) rfl) ze0 (zj1 zt9 (pv 1) (zp0 (zg1 (K:=K) rfl) rfl jK zg4 (za0 (pix w K hr (pv 0) ze0) zg0)))) (pv 2)))),(zi1 (RfE.c (zk0 zg8 (RfE.v (zk0 zg8 rvi (RfE.v (zk0 zi21 (zb0 1) (RfE.v (zl5 zvc (zo0 (RfE.v (zk0 r_ix (zb0 0) rvi)) ze1))))))) (zb0 2)))),?_⟩;rintro ds Qd ⟨vs,r,m,v,rfl,u,p,q⟩;walk_at"ds";walk_at"dd";walk_at"k";rw[u5];refine⟨.inl ⟨by lia,by lia⟩,?_⟩;have e:(2:Int)+(m:Int) * (vs.length:Int)+(v:Int)=((2+m * vs.length+v:Nat):Int):=by simp
 rw[e];exact q
theorem zpx:FnScope ["yard", "number"] ["yard", "number"] (zh0 zf41):=by walk_at"sc"
theorem zq91(M:Md K mg)(T:TopDef K "spot" zf41)(qY:mg "divmod"=none)(jK:mg "len"=none):Def P w K mg base "spot" 1 ["yard", "number"] (spD K za91):=by
 refine zx2 M T zpx (by walk_at"h") (zy9 (by walk_at"i")) (zv2 ?_);walk_at"g";have nd:=zpx.nd;refine⟨_,_,(zj0 (za1 (zp0 zri rfl qY zav (za0 (zj1 zw9 (pv 1) ze0) (za0 (zp0 (zg1 (K:=K) rfl) rfl jK zg4 (za0 (pix w K hr (pv 0) ze0) zg0)) zg0))))),(zi1 (RfE.c (zl5 zq11 (zo0 (RfE.v (zk0 zyl (zb0 1) rvi)) (zo0 (RfE.v (zl5 zvc (zo0 (RfE.v (zk0 r_ix (zb0 0) rvi)) ze1))) ze1))))),?_⟩;rintro ds Qd ⟨vs,r,n,rfl,u,p,q⟩;walk_at"ds";walk_at"dd";walk_at"k";rw[u5];exact⟨by lia,by lia,q⟩
end
def pb(ps:List Pi)(m n:Nat):List Nat:=(ps.mapIdx λi p=>(i,p)).filterMap λx=>if m+x.2.len<=n then some x.1 else none
def zz7:DSp:=λds Q=>∃(vs:List Va)(ps:List Pi)(m n:Nat),ds=[.tuple [.list (vs.map Va.d),.list (ps.map Pi.d)],.int (m:Int),.int (n:Int)]/\ps.length<=24/\Q (.list ((pb ps m n).map λk:Nat=>u6 (k:Int)))
theorem zbo(ps:List Pi)(m n:Nat):(pb ps m n).length<=ps.length:=by
 unfold pb;exact wX (uaH _ _) (by simp)
def blk(ps:List Pi)(n:Nat)(R:Nat->List Int)(G:Nat->Nat->Int)(m:Nat):List Int:=R m++(pb ps m n).map (G m)
def zlc(ps:List Pi)(n:Nat)(A:List Int)(R:Nat->List Int)(G:Nat->Nat->Int)(k:Nat):List Int:=A++((u3 k).map (blk ps n R G)).flatten
theorem zq9(ps:List Pi)(n:Nat)(A:List Int)(R:Nat->List Int)(G:Nat->Nat->Int)(k:Nat):zlc ps n A R G (k+1)=zlc ps n A R G k++blk ps n R G k:=by
 unfold zlc;rw[xZ,wH,ubD,<- wD];simp
theorem zqk(ps:List Pi)(n:Nat)(A:List Int)(R:Nat->List Int)(G:Nat->Nat->Int)(k:Nat):∀d,∃post,zlc ps n A R G (k+d)=zlc ps n A R G k++post
|0=>⟨[],by simp⟩
|d+1=>by
  obtain⟨post,h⟩:=zqk ps n A R G k d;exact⟨post++blk ps n R G (k+d),by rw[<- kP,zq9,h,wD]⟩
theorem zd01{ps:List Pi}{A T:List Int}{R:Nat->List Int}{j:Nat}(u:m < n)(q:(pb ps m n)[j]?=some i):(zlc ps n A R G n++T)[(zlc ps n A R G m).length+(R m).length+j]?=some (G m i):=by
 obtain⟨post,h⟩:=zqk ps n A R G (m+1) (n - (m+1));rw[show m+1+(n - (m+1))=n by lia,zq9]at h;rw[h];unfold blk;have p:=(wI.mp q).1;rw[show zlc ps n A R G m++(R m++(pb ps m n).map (G m))++post++T=(zlc ps n A R G m++R m)++((pb ps m n).map (G m)++(post++T)) by simp only[wD]];rw[wO (by rw[vW];lia),vW,show(zlc ps n A R G m).length+(R m).length+j - ((zlc ps n A R G m).length+(R m).length)=j by lia,wP (by simpa using p),u8,q];rfl
def pmL(G:Nat->Nat->Int)(m:Nat)(is:List Nat):List Le:=is.filterMap λi=>if 0 < G m i then some ⟨m,i,G m i⟩else none
def zya(ps:List Pi)(n:Nat)(G:Nat->Nat->Int)(k:Nat):List Le:=((u3 k).map λm=>pmL G m (pb ps m n)).flatten
theorem zbc(ps:List Pi)(n:Nat)(G:Nat->Nat->Int)(k:Nat):zya ps n G (k+1)=zya ps n G k++pmL G k (pb ps k n):=by
 unfold zya;rw[xZ,wH,ubD];simp
theorem zaz{j:Nat}{is:List Nat}(h:is[j]?=some i):pmL G m (is.take (j+1))=pmL G m (is.take j)++(if 0 < G m i then [⟨m,i,G m i⟩]else []):=by
 unfold pmL;rw[xU,h,zX];congr 1;by_cases z:0 < G m i
 ·simp[z]
 ·simp[z]
theorem zly(G:Nat->Nat->Int)(m:Nat)(is:List Nat):(pmL G m is).length<=is.length:=uaH _ _
theorem zhl(ps:List Pi)(n:Nat)(G:Nat->Nat->Int)(h:ps.length<=24):∀k,(zya ps n G k).length<=24 * k
|0=>by simp[zya]
|k+1=>by
  have p:=zhl ps n G h k;have u:=zly G k (pb ps k n);have q:=zbo ps k n;rw[zbc,vW];lia
def zjl:DSp:=λds Q=>∃(vs:List Va)(ps:List Pi)(n:Nat)(A T:List Int)(R:Nat->List Int)(G:Nat->Nat->Int),ds=[.tuple [.list (vs.map Va.d),.list (ps.map Pi.d)],.int (n:Int),.list ((zlc ps n A R G n++T).map .int)]/\vs.length<=12/\ps.length<=24/\n<=60/\A.length=vs.length/\(∀m,m < n->(R m).length=vs.length) /\
 Q (.list ((zya ps n G n).map Le.d))
section
variable {P:aN}{w:aP}{K:Fg}{mg:Str->Option aA}{base:aT}
theorem zkd:FnScope ["yard", "moment", "until"] ["yard", "moment", "until"] (zh0 zn9):=by walk_at"sc"
theorem zjm(M:Md K mg)(T:TopDef K "pipes_by" zn9)(jF:mg "enumerate"=none):Def P w K mg base "pipes_by" 1 ["yard", "moment", "until"] (spD K zz7):=by
 refine zx2 M T zkd (by walk_at"h") (zy9 (by walk_at"i")) (zv2 ?_);walk_at"g";have nd:=zkd.nd;refine⟨_,(dRet (cF (zxf (zut (zw0 (dOp fIx (zx0 0) (dC (.int 1))) dNil)) 2 [2,1] (gT 2 (zb5 (gN 0) (zb5 (gN 1) ztm))) (ze8 (dOp fLe (dOp fAdd (zx0 3) (dOp fIx (zx0 1) (dC (.int 2)))) (zx0 2))) (dVar 0)))),(zj0 (za1 (zp2 (sc:=zh0 zn9) (N:=["yard", "moment", "until"]) (own:=["number", "pipe"]) (ix:=[2,1]) rfl rfl rfl (by walk_at"csc") (zpa (K:=K) rfl rfl jF (za0 (pix w K hr (pv 0) ze0) zg0)) (λ_ _ _ _=>⟨(zb7 (K:=K) (n:=2) rfl rfl (zp1 (pgn 0 (nds ["number", "pipe", "until", "moment"])) (zp1 (pgn 1 (nds ["number", "pipe", "until", "moment"])) za7))),(zid (zs0 zpj1 (zj1 (zk1 (K:=K) rfl) (pv 3) (pix w K hr (pv 1) ze0)) (pv 2) (zf1 _))),(pv 0)⟩)))),(zi1 (RfF.c (zr1 (zvd (zo0 (RfE.v (zk0 r_ix (zb0 0) rvi)) ze1)) (zjc (zo1 (zh1 (i:=0) (n:=2) (by decide)) (zo1 (zh1 (i:=1) (n:=2) (by decide)) zw6))) (zr0 (zk0 r_le (RfE.v (zk0 zg8 (zb0 3) (RfE.v (zk0 r_ix (zb0 1) rvi)))) (zb0 2))) (zi0 0)))),?_⟩;rintro ds Qd ⟨vs,ps,m,n,rfl,u,q⟩;walk_at"ds";walk_at"dd";walk_at"k";rw[zv5];refine zoy (λx=>if m+x.2.len<=n then some (.int (x.1:Int))else none) (by rw[aQ,y0];lia) (λx z=>?_) ?_
 ·obtain⟨i,p⟩:=x;unfold Pi.d;walk_at"cs";walk_at"dd";walk_at"k";refine two (λh=>?_) λh=>?_
  ·rw[aH (by lia)]
  ·rw[aF (by lia)]
 ·unfold pb at q;rw[k9]at q;refine(congrArg (λl=>Qd (.list l)) ?_).mp q;congr 1;funext x;split <;> rfl
theorem zsf:FnScope ["yard", "until", "flow", "plan", "place", "moment", "pipe"] ["yard", "until", "flow"] (zh0 zne):=by walk_at"sc"
theorem zot(M:Md K mg)(T:TopDef K "plan_of" zne)(jK:mg "len"=none)(jH:mg "range"=none)(kQ:Def P w K mg base "pipes_by" 1 ["yard", "moment", "until"] (spD K zz7)):Def P w K mg base "plan_of" 2 ["yard", "until", "flow"] (spD K zjl):=by
 refine zx2 M T zsf (by walk_at"h") (zy9 (by walk_at"i")) (zv2 ?_);walk_at"g";have nd:=zsf.nd;refine⟨_,(dSeq (dSet 3 (cF (dLst dNil)))
   (dSeq (dAsg (dCB fLen (zw0 (dOp fIx (zx0 0) (dC (.int 0))) dNil)) (gN 4))
   (dSeq (dFor (zx01 (zw0 (dVar 1) dNil)) (gN 5) (dSeq (dAug 4 (λi j=>i+j) (dCB fLen (zw0 (dOp fIx (zx0 0) (dC (.int 0))) dNil)))
   (dFor (dIt (zga zz7 (zw0 (dVar 0) (zw0 (dVar 5) (zw0 (dVar 1) dNil))))) (gN 6) (dSeq (dIf (ze8 (dOp fGt (dOp fIx (zx0 2) (zx0 4)) (dC (.int 0)))) (zxl (cBM "list" mApp (pVar 3) (zw0 (dTup (zw0 (dVar 5) (zw0 (dVar 6) (zw0 (dOp fIx (zx0 2) (zx0 4)) dNil)))) dNil))) zfe)
   (dAug 4 (λi j=>i+j) (dC (.int 1)))))))
   (zwt 3)))),(zd0 (pset 3 nd (zc3 zg0))
   (zd0 (pset 4 nd (zp0 (zg1 (K:=K) rfl) rfl jK zg4 (za0 (pix w K hr (pv 0) ze0) zg0)))
   (zd0 (zo5 aW rfl (zy1 rfl jH (za0 (pv 1) zg0)) (pgn 5 nd) (zd0 (zz71 (i:=4) nd rfl (by first|exact Or.inl rfl|exact Or.inr rfl) (zp0 (zg1 (K:=K) rfl) rfl jK zg4 (za0 (pix w K hr (pv 0) ze0) zg0)) zuq)
   (zj0 (zo5 aW rfl (pi_W (K:=K) rfl (zn0 kQ (rmn hr) rfl (za0 (pv 0) (za0 (pv 5) (za0 (pv 1) zg0))))) (pgn 6 nd) (zd0 (zv6 (zs0 zxt (pix w K hr (pv 2) (pv 4)) ze0 (zf1 _)) (zj0 (zk2 (zy8 (K:=K) rfl ğa ğb ğc zz2 (pv 3) (za0 (zq1 (za0 (pv 5) (za0 (pv 6) (za0 (pix w K hr (pv 2) (pv 4)) zg0)))) zg0)))) zl1)
   (zj0 (zz71 (i:=4) nd rfl (by first|exact Or.inl rfl|exact Or.inr rfl) ze0 zuq)))))))
   (zj0 (za1 (pv 3)))))),(zl0 (zi4 (RfF.c (zb8 zm0)))
   (zl0 (zb1 (zl5 zvc (zo0 (RfE.v (zk0 r_ix (zb0 0) rvi)) ze1)) (rgn 4))
   (zl0 (zr5 (zk6 (zc0 (zi0 1) zm0)) (rgn 5) (zl0 (zu51 (zl5 zvc (zo0 (RfE.v (zk0 r_ix (zb0 0) rvi)) ze1)))
   (zr5 (zlo (zu0 (zc0 (zi0 0) (zc0 (zi0 5) (zc0 (zi0 1) zm0))))) (rgn 6) (zl0 (zu6 (zr0 (zk0 r_gt (RfE.v (zk0 r_ix (zb0 2) (zb0 4))) rvi)) (zl2 (zhj zaf (zv0 3) (zc0 (zt2 (zc0 (zi0 5) (zc0 (zi0 6) (zc0 (zk0 r_ix (zb0 2) (zb0 4)) zm0)))) zm0))) zm1)
   (zu51 zn1)))))
   (zva (i:=3))))),?_⟩
 rintro ds Qd ⟨vs,ps,n,A,T,R,G,rfl,h12,I,hn,hA,Y,q⟩;generalize hF:zlc ps n A R G n++T=F;walk_at"ds";walk_at"a";walk_at"b";walk_at"k";rw[u5];walk_at"b";rw[v6];unfold rngD;have O:∀k,k<=n->(zlc ps n A R G k).length<=12+36 * k:=λk=>by
  induction k with
 |zero=>intro _;unfold zlc;simp;lia
 |succ k ih =>
   intro hk;have i1:=ih (by lia);have i2:=Y k (by lia);have i3:=zbo ps k n;rw[zq9,vW];unfold blk;rw[vW,u5];lia
 refine⟨by lia,by lia,zj2 (λi U=>∃S p:Sl,U=[.sh (.tuple [.list (vs.map Va.d),.list (ps.map Pi.d)]),.sh (.int (n:Int)),.sh (.list (F.map .int)),.ow (.li ((zya ps n G i).map Le.d)),.sh (.int ((zlc ps n A R G i).length:Int)),S,p]) ⟨.un,.un,by unfold zlc;simp[zya,hA]⟩ ?_ ?_⟩
 ·rintro i m U hm ⟨S,p,rfl⟩;obtain⟨hi,u⟩:=wI.mp hm;simp at hi u;subst u;rw[show(0:Int)+(i:Int)=(i:Int) by lia];have hfl:=O i (by lia);have hpl:=zhl ps n G I i;have hpb:=zbo ps i n;walk_at"dd";walk_at"a";walk_at"k";rw[u5];walk_at"f";walk_at"dd";refine⟨vs,ps,i,n,rfl,I,?_⟩;walk_at"dd";refine zj2 (λj U=>∃p:Sl,U=[.sh (.tuple [.list (vs.map Va.d),.list (ps.map Pi.d)]),.sh (.int (n:Int)),.sh (.list (F.map .int)),.ow (.li ((zya ps n G i++pmL G i ((pb ps i n).take j)).map Le.d)),.sh (.int (((zlc ps n A R G i).length+(R i).length+j:Nat):Int)),.sh (.int (i:Int)),p]) ⟨p,?_⟩ ?_ ?_
  ·rw[Y i hi];simp[pmL]
  ·rintro j x U W ⟨p,rfl⟩;have hjl:=(wI.mp W).1;have gx:=zd01 (A:=A) (T:=T) (R:=R) (G:=G) hi W;rw[hF]at gx;have hRi:=Y i hi;have Z:atI (F.map u6) (((zlc ps n A R G i).length+(R i).length+j:Nat):Int)=some (.int (G i x)):=zxc (by lia) (by rw[v6,u8,gx];rfl);have hpm:=zly G i ((pb ps i n).take j);rw[wW]at hpm;rw[zaz W];walk_at"dd";generalize hN:(zlc ps n A R G i).length+(R i).length+j=N at Z;rw[show(zlc ps n A R G i).length+(R i).length+(j+1)=N+1 by lia];walk_at"a";refine⟨_,Z,?_⟩;walk_at"dd";refine two (λz=>?_) λz=>?_
   ·refine⟨_,Z,?_⟩;refine⟨by rw[u5,vW];lia,hJ _ ?_⟩;clear hJ;walk_at"dd";rw[aH z];refine⟨.sh (.int (x:Int)),?_⟩;rw[<- wD,wH (l₂:=[_])];rfl
   ·walk_at"f";walk_at"dd";rw[aF z];refine⟨.sh (.int (x:Int)),?_⟩;rw[wS];rfl
  ·rintro U ⟨p,rfl⟩;rw[xM,zbc,zq9];refine⟨.sh (.int (i:Int)),p,?_⟩;unfold blk;rw[vW,vW,u5,<- kP]
 ·rintro U ⟨S,p,rfl⟩;rw[wT];walk_at"f";walk_at"dd";exact q
end
def pbJ(ps:List Pi)(m n j:Nat):List Nat:=((ps.mapIdx λi p=>(i,p)).take j).filterMap λx=>if m+x.2.len<=n then some x.1 else none
theorem zsd(ps:List Pi)(m n:Nat):pbJ ps m n ps.length=pb ps m n:=by
 unfold pbJ pb;rw[yD (by simp)]
theorem zf11{ps:List Pi}{j:Nat}{p:Pi}(h:ps[j]?=some p):pbJ ps m n (j+1)=pbJ ps m n j++(if m+p.len<=n then [j]else []):=by
 unfold pbJ;rw[xU,xS,h,zX];congr 1;by_cases e:m+p.len<=n <;> simp[e]
theorem zoj(ps:List Pi)(m n:Nat):∀j,j<=ps.length->(pbJ ps m n j).Nodup/\∀i∈pbJ ps m n j,i < j/\m+pl ps i<=n
|0,_=>⟨by simp[pbJ],λi hi=>by simp[pbJ]at hi⟩
|j+1,h=>by
  obtain⟨q,p⟩:=zoj ps m n j (by lia);have e:ps[j]?=some ps[j]:=u4 (by lia);rw[zf11 e];by_cases c:m+ps[j].len<=n
  ·rw[aH c];refine⟨?_,λi hi=>?_⟩
   ·rw[wV];refine⟨q,by simp,λa B b u z=>?_⟩;simp at u;have:=(p a B).1;lia
   ·rcases vX.mp hi with z|z
    ·exact⟨by have:=(p i z).1;lia,(p i z).2⟩
    ·simp at z;subst z;exact⟨by lia,by unfold pl;rw[e];exact c⟩
  ·rw[aF c,wS];exact⟨q,λi hi=>⟨by have:=(p i hi).1;lia,(p i hi).2⟩⟩
def ntOf(vs:List Va)(ps:List Pi)(n:Nat):Nt:=⟨vs.length,n,λk=>((vs[k]?).map Va.fill).getD 0,λk=>((vs[k]?).map Va.room).getD 0,λm=>pb ps m n,zs1 ps,zp9 ps,pl ps,λi m=>zmb ps i m⟩
theorem zs71{vs:List Va}{ps:List Pi}(h:∀p∈ps,PiOk vs.length p):(ntOf vs ps n).Ok:=by
 have a:∀m,∀i∈pb ps m n,i < ps.length/\m+pl ps i<=n:=λm i hi=>by rw[<- zsd]at hi;exact(zoj ps m n _ (u7 _)).2 i hi
 have b:∀i,i < ps.length->zs1 ps i < vs.length/\zp9 ps i < vs.length/\1<=pl ps i:=λi hi=>by
  unfold zs1 zp9 pl;rw[u4 hi];obtain⟨z,u,q,_⟩:=h _ (xE hi);exact⟨z,u,q⟩
 exact⟨λm=>by show(pb ps m n).Nodup;rw[<- zsd];exact(zoj ps m n _ (u7 _)).1,λm i hi=>(b i (a m i hi).1).1,λm i hi=>(b i (a m i hi).1).2.1,λm i hi=>⟨(b i (a m i hi).1).2.2,(a m i hi).2⟩⟩
def zuk(vs:List Va)(ps:List Pi)(n k:Nat):List Ar:=(u3 vs.length).map (λj=>(0,(ntOf vs ps n).nd 0 j,(ntOf vs ps n).fl j))++(u3 k).flatMap λm=>(u3 vs.length).map (λj=>((ntOf vs ps n).nd m j,(ntOf vs ps n).nd (m+1) j,(ntOf vs ps n).rm j))++(pb ps m n).map λi=>((ntOf vs ps n).nd m (zs1 ps i),(ntOf vs ps n).nd (m+pl ps i) (zp9 ps i),zmb ps i m)
theorem zks(vs:List Va)(ps:List Pi)(n k:Nat):zuk vs ps n (k+1)=zuk vs ps n k++(u3 vs.length).map (λj=>((ntOf vs ps n).nd k j,(ntOf vs ps n).nd (k+1) j,(ntOf vs ps n).rm j))++(pb ps k n).map λi=>((ntOf vs ps n).nd k (zs1 ps i),(ntOf vs ps n).nd (k+pl ps i) (zp9 ps i),zmb ps i k):=by
 unfold zuk;rw[xZ,z7];simp
def csOf(vs:List Va)(ws:List Int):List (Nat->Int):=[λk=>ws.getD k 0,λk=>((vs[k]?).map Va.room).getD 0 - ws.getD k 0]
theorem zyk(vs:List Va)(ps:List Pi)(ws:List Int)(n:Nat):(ntOf vs ps n).arcs (csOf vs ws)=zuk vs ps n n++(u3 vs.length).map (λk=>((ntOf vs ps n).nd n k,1,ws.getD k 0))++(u3 vs.length).map λk=>((ntOf vs ps n).nd n k,1,((vs[k]?).map Va.room).getD 0 - ws.getD k 0):=by
 unfold Nt.arcs csOf zuk;rw[wN,wN,yK,wS,<- wD];rfl
structure YOk(vs:List Va)(ps:List Pi)(ws:List Int):Prop where
 n1:1<=vs.length
 n2:vs.length<=12
 m2:ps.length<=24
 lw:ws.length=vs.length
 vf:∀v∈vs,0<=v.fill/\v.fill<=v.room
 wr:∀(k:Nat) v y,vs[k]?=some v->ws[k]?=some y->0<=y/\y<=v.room
 pb:∀p∈ps,PiOk vs.length p
def atA(vs:List Va)(ps:List Pi)(n m:Nat):List Ar:=(u3 vs.length).map (λj=>((ntOf vs ps n).nd m j,(ntOf vs ps n).nd (m+1) j,(ntOf vs ps n).rm j))++(pb ps m n).map λi=>((ntOf vs ps n).nd m (zs1 ps i),(ntOf vs ps n).nd (m+pl ps i) (zp9 ps i),zmb ps i m)
theorem zbn(vs:List Va)(ps:List Pi)(n k:Nat):zuk vs ps n (k+1)=zuk vs ps n k++atA vs ps n k:=by rw[zks,wD];rfl
theorem zvx(vs:List Va)(ps:List Pi)(n m:Nat):(atA vs ps n m).length<=vs.length+ps.length:=by
 unfold atA;rw[vW,u5,u5,wT];have:=zbo ps m n;lia
theorem zue(vs:List Va)(ps:List Pi)(n:Nat):∀k,(zuk vs ps n k).length<=vs.length+(vs.length+ps.length) * k
|0=>by simp[zuk]
|k+1=>by rw[zbn,vW,Nat.mul_add];have:=zue vs ps n k;have:=zvx vs ps n k;lia
def zpe:DSp:=λds Q=>∃(vs:List Va)(ps:List Pi)(m n:Nat),ds=[dY vs ps,.int (m:Int),.int (n:Int)]/\vs.length<=12/\ps.length<=24/\(∀p∈ps,PiOk vs.length p)/\m<=60/\Q (.list ((atA vs ps n m).map dAr))
def zkg1:DSp:=λds Q=>∃(vs:List Va)(ps:List Pi)(ws:List Int)(n:Nat),ds=[dY vs ps,.list (ws.map .int),.int (n:Int)]/\YOk vs ps ws/\n<=60/\Q (.tuple [nI ((ntOf vs ps n).nd (n+1) 0),.list (((ntOf vs ps n).arcs (csOf vs ws)).map dAr)])
section
variable {P:aN}{w:aP}{K:Fg}{mg:Str->Option aA}{base:aT}
theorem zch:FnScope ["yard", "moment", "until", "arcs", "number", "pipe", "goal"] ["yard", "moment", "until"] (zh0 zkb):=by walk_at"sc"
theorem zwo(M:Md K mg)(T:TopDef K "arcs_at" zkb)(jF:mg "enumerate"=none)(vF:Def P w K mg base "width" 4 ["gate", "moment"] (spD K zfn))(I:Def P w K mg base "node" 1 ["yard", "moment", "vat"] (spD K zx5))(kQ:Def P w K mg base "pipes_by" 1 ["yard", "moment", "until"] (spD K zz7)):Def P w K mg base "arcs_at" 5 ["yard", "moment", "until"] (spD K zpe):=by
 refine zx2 M T zch (by walk_at"h") (zy9 (by walk_at"i")) (zv2 ?_);walk_at"g";have nd:=zch.nd;refine⟨_,(dSeq (dSet 3 (cF (zxf (zut (zw0 (dOp fIx (zx0 0) (dC (.int 0))) dNil)) 2 [0,1] (gT 2 (zb5 (gN 0) (zb5 (gN 1) ztm))) zki (dTup (zw0 (zga zx5 (zw0 (dVar 2) (zw0 (dVar 3) (zw0 (dVar 0) dNil)))) (zw0 (zga zx5 (zw0 (dVar 2) (zw0 (dOp fAdd (zx0 3) (dC (.int 1))) (zw0 (dVar 0) dNil)))) (zw0 (dOp fIx (zx0 1) (dC (.int 1))) dNil)))))))
   (dSeq (dFor (dIt (zga zz7 (zw0 (dVar 0) (zw0 (dVar 1) (zw0 (dVar 2) dNil))))) (gN 4) (dSeq (dAsg (dOp fIx (dOp fIx (zx0 0) (dC (.int 1))) (zx0 4)) (gN 5))
   (dSeq (dAsg (zga zx5 (zw0 (dVar 0) (zw0 (dOp fAdd (zx0 1) (dOp fIx (zx0 5) (dC (.int 2)))) (zw0 (dOp fIx (zx0 5) (dC (.int 1))) dNil)))) (gN 6))
   (zxl (cBM "list" mApp (pVar 3) (zw0 (dTup (zw0 (zga zx5 (zw0 (dVar 0) (zw0 (dVar 1) (zw0 (dOp fIx (zx0 5) (dC (.int 0))) dNil)))) (zw0 (dVar 6) (zw0 (zga zfn (zw0 (dOp fIx (zx0 5) (dC (.int 4))) (zw0 (dVar 1) dNil))) dNil)))) dNil))))))
   (zwt 3))),(zd0 (zf3 (i:=3) (sc:=zh0 zkb) (N:=["yard", "moment", "until", "arcs", "number", "pipe", "goal"]) (own:=["vat", "told"]) (ix:=[0,1]) rfl rfl rfl (by walk_at"csc") nd rfl rfl (zpa (K:=K) rfl rfl jF (za0 (pix w K hr (pv 0) ze0) zg0)) (λ_ _ _ _=>⟨(zb7 (K:=K) (n:=2) rfl rfl (zp1 (pgn 0 (nds ["vat", "told", "yard", "moment"])) (zp1 (pgn 1 (nds ["vat", "told", "yard", "moment"])) za7))),zx1,(zq1 (za0 (zn0 I (rmn hr) rfl (za0 (pv 2) (za0 (pv 3) (za0 (pv 0) zg0)))) (za0 (zn0 I (rmn hr) rfl (za0 (pv 2) (za0 (zj1 (zk1 (K:=K) rfl) (pv 3) ze0) (za0 (pv 0) zg0)))) (za0 (pix w K hr (pv 1) ze0) zg0))))⟩))
   (zd0 (zo5 aW rfl (pi_W (K:=K) rfl (zn0 kQ (rmn hr) rfl (za0 (pv 0) (za0 (pv 1) (za0 (pv 2) zg0))))) (pgn 4 nd) (zd0 (pset 5 nd (pix w K hr (pix w K hr (pv 0) ze0) (pv 4)))
   (zd0 (pset 6 nd (zn0 I (rmn hr) rfl (za0 (pv 0) (za0 (zj1 (zk1 (K:=K) rfl) (pv 1) (pix w K hr (pv 5) ze0)) (za0 (pix w K hr (pv 5) ze0) zg0)))))
   (zj0 (zk2 (zy8 (K:=K) rfl ğa ğb ğc zz2 (pv 3) (za0 (zq1 (za0 (zn0 I (rmn hr) rfl (za0 (pv 0) (za0 (pv 1) (za0 (pix w K hr (pv 5) ze0) zg0)))) (za0 (pv 6) (za0 (zn0 vF (rmn hr) rfl (za0 (pix w K hr (pv 5) ze0) (za0 (pv 1) zg0))) zg0)))) zg0)))))))
   (zj0 (za1 (pv 3))))),(zl0 (zi4 (RfF.c (zr1 (zvd (zo0 (RfE.v (zk0 r_ix (zb0 0) rvi)) ze1)) (zjc (zo1 (zh1 (i:=0) (n:=2) (by decide)) (zo1 (zh1 (i:=1) (n:=2) (by decide)) zw6))) zm2 (zt2 (zc0 (zu0 (zc0 (zi0 2) (zc0 (zi0 3) (zc0 (zi0 0) zm0)))) (zc0 (zu0 (zc0 (zi0 2) (zc0 (zk0 zg8 (zb0 3) rvi) (zc0 (zi0 0) zm0)))) (zc0 (zk0 r_ix (zb0 1) rvi) zm0)))))))
   (zl0 (zr5 (zlo (zu0 (zc0 (zi0 0) (zc0 (zi0 1) (zc0 (zi0 2) zm0))))) (rgn 4) (zl0 (zb1 (zk0 r_ix (RfE.v (zk0 r_ix (zb0 0) rvi)) (zb0 4)) (rgn 5))
   (zl0 (zb1 (zu0 (zc0 (zi0 0) (zc0 (zk0 zg8 (zb0 1) (RfE.v (zk0 r_ix (zb0 5) rvi))) (zc0 (zk0 r_ix (zb0 5) rvi) zm0)))) (rgn 6))
   (zl2 (zhj zaf (zv0 3) (zc0 (zt2 (zc0 (zu0 (zc0 (zi0 0) (zc0 (zi0 1) (zc0 (zk0 r_ix (zb0 5) rvi) zm0)))) (zc0 (zi0 6) (zc0 (zu0 (zc0 (zk0 r_ix (zb0 5) rvi) (zc0 (zi0 1) zm0))) zm0)))) zm0))))))
   (zva (i:=3)))),?_⟩
 rintro ds Qd ⟨vs,ps,m,n,rfl,hv,hp,okp,hm,q⟩;unfold dY;walk_at"ds";walk_at"a";walk_at"k";rw[zv5];refine zof (λp=>dAr ((ntOf vs ps n).nd m p.1,(ntOf vs ps n).nd (m+1) p.1,p.2.room)) (by rw[aQ,y0];lia) (λp hp=>?_) ?_
 ·obtain⟨i,v⟩:=p;rw[show Va.d v=.tuple [.str v.nm,.int v.room,.int v.fill]from rfl];walk_at"cs";walk_at"dd";refine⟨vs,_,m,i,rfl,by lia,by lia,vs,.list (ps.map Pi.d),m+1,i,by simp[nI],by lia,by lia,_,rfl,?_⟩;simp[dAr,nI,Nt.nd,ntOf]
 walk_at"f";have e1:(vs.mapIdx λi x=>(i,x)).map (λp=>dAr ((ntOf vs ps n).nd m p.1,(ntOf vs ps n).nd (m+1) p.1,p.2.room))=((u3 vs.length).map λj=>((ntOf vs ps n).nd m j,(ntOf vs ps n).nd (m+1) j,(ntOf vs ps n).rm j)).map dAr:=by
  rw[wE];apply yE;intro j;rw[u8,u8,xS];by_cases h:j < vs.length
  ·rw[xI h,u4 h];have:(ntOf vs ps n).rm j=vs[j].room:=by show((vs[j]?).map Va.room).getD 0=_;rw[u4 h];rfl
   show some (dAr ((ntOf vs ps n).nd m j,(ntOf vs ps n).nd (m+1) j,vs[j].room))=some (dAr ((ntOf vs ps n).nd m j,(ntOf vs ps n).nd (m+1) j,(ntOf vs ps n).rm j));rw[this]
  ·rw[wG (by lia),wG (by simpa using h)];rfl
 rw[e1];walk_at"a";refine⟨vs,ps,m,n,rfl,hp,?_⟩;have hpb:=zbo ps m n;have okb:∀i∈pb ps m n,i < ps.length:=λi hi=>by rw[<- zsd]at hi;exact((zoj ps m n _ (u7 _)).2 i hi).1
 walk_at"dd";refine zj2 (λi U=>∃W S O:Sl,U=[.sh (.tuple [.list (vs.map Va.d),.list (ps.map Pi.d)]),.sh (.int (m:Int)),.sh (.int (n:Int)),.ow (.li (((u3 vs.length).map (λj=>((ntOf vs ps n).nd m j,(ntOf vs ps n).nd (m+1) j,(ntOf vs ps n).rm j))++((pb ps m n).take i).map λi=>((ntOf vs ps n).nd m (zs1 ps i),(ntOf vs ps n).nd (m+pl ps i) (zp9 ps i),zmb ps i m)).map dAr)),W,S,O]) ⟨.un,.un,.un,by simp⟩ ?_ ?_
 ·rintro i k U Z ⟨W,S,O,rfl⟩;have z:=okb k (wJ Z);have hik:=(wI.mp Z).1;have ep:ps[k]?=some ps[k]:=u4 z;obtain⟨o1,o2,o3,Y,o5⟩:=okp _ (xE z);have Y:ps[k].len<=20:=Y;have gp:atI (ps.map Pi.d) (k:Int)=some (.tuple [.int (ps[k].u:Int),.int (ps[k].v:Int),.int (ps[k].len:Int),.int ps[k].pr,ps[k].g.d]):=zxc (by lia) (by rw[v6,u8,ep];rfl);rw[xU,Z];generalize hpp:ps[k]=p at ep o1 o2 o3 Y o5 gp;walk_at"dd";walk_at"a";walk_at"k";refine⟨_,gp,hJ _ ?_⟩;walk_at"c";refine⟨_,rfl,_,rfl,vs,.list (ps.map Pi.d),m+p.len,p.v,by simp[nI],by lia,by lia,hJ _ ?_⟩;clear hJ;walk_at"dd";refine⟨_,rfl,vs,_,m,p.u,rfl,by lia,by lia,_,rfl,p.g,m,rfl,o5.1,by simp;lia,.sh (.int (k:Int)),.sh (.tuple [.int (p.u:Int),.int (p.v:Int),.int (p.len:Int),.int p.pr,p.g.d]),.sh (nI (2+(m+p.len) * vs.length+p.v)),?_⟩;have es:zs1 ps k=p.u:=by unfold zs1;rw[ep];rfl
  have eg:zp9 ps k=p.v:=by unfold zp9;rw[ep];rfl
  have el:pl ps k=p.len:=by unfold pl;rw[ep];rfl
  have ew:zmb ps k m=p.g.at m:=by unfold zmb;rw[ep];rfl
  simp only[wH,Option.toList,v9,yS,<- wD];rw[es,eg,el,ew];rfl
 ·rintro U ⟨W,S,O,rfl⟩;rw[xM];walk_at"f";walk_at"dd";exact q
theorem zk61:FnScope ["yard", "wants", "until", "arcs", "moment", "vat", "told"] ["yard", "wants", "until"] (zh0 zw51):=by walk_at"sc"
theorem zuf1(M:Md K mg)(T:TopDef K "net" zw51)(jF:mg "enumerate"=none)(jH:mg "range"=none)(W:Def P w K mg base "node" 1 ["yard", "moment", "vat"] (spD K zx5))(uN:Def P w K mg base "arcs_at" 5 ["yard", "moment", "until"] (spD K zpe))(g_SOURCE:mg "SOURCE"=some gv_SOURCE)(z:RelV (.int 0) gv_SOURCE)(g_SINK:mg "SINK"=some gv_SINK)(u:RelV (.int 1) gv_SINK):Def P w K mg base "net" 6 ["yard", "wants", "until"] (spD K zkg1):=by
 refine zx2 M T zk61 (by walk_at"h") (zy9 (by walk_at"i")) (zv2 ?_);walk_at"g";have nd:=zk61.nd;refine⟨_,(dSeq (dSet 3 (cF (zxf (zut (zw0 (dOp fIx (zx0 0) (dC (.int 0))) dNil)) 2 [0] (gT 2 (zb5 (gN 0) (zb5 (gN 1) ztm))) zki (dTup (zw0 (dC (.int 0)) (zw0 (zga zx5 (zw0 (dVar 2) (zw0 (dC (.int 0)) (zw0 (dVar 0) dNil)))) (zw0 (dOp fIx (zx0 1) (dC (.int 2))) dNil)))))))
   (dSeq (dFor (zx01 (zw0 (dVar 2) dNil)) (gN 4) (zxl (cBM "list" mExt (pVar 3) (zw0 (zga zpe (zw0 (dVar 0) (zw0 (dVar 4) (zw0 (dVar 2) dNil)))) dNil))))
   (dSeq (zxl (cBM "list" mExt (pVar 3) (zw0 (dF (zxf (zut (zw0 (zx0 1) dNil)) 2 [0,2] (gT 2 (zb5 (gN 0) (zb5 (gN 1) ztm))) zki (dTup (zw0 (zga zx5 (zw0 (dVar 2) (zw0 (dVar 3) (zw0 (dVar 0) dNil)))) (zw0 (dC (.int 1)) (zw0 (dVar 1) dNil)))))) dNil)))
   (dSeq (dFor (zut (zw0 (dOp fIx (zx0 0) (dC (.int 0))) dNil)) (gT 2 (zb5 (gN 5) (zb5 (gN 6) ztm))) (zxl (cBM "list" mApp (pVar 3) (zw0 (dTup (zw0 (zga zx5 (zw0 (dVar 0) (zw0 (dVar 2) (zw0 (dVar 5) dNil)))) (zw0 (dC (.int 1)) (zw0 (dOp fSub (dOp fIx (zx0 6) (dC (.int 1))) (dOp fIx (zx0 1) (zx0 5))) dNil)))) dNil))))
   (dFrz 3 [] (dRet (cE (dTup (zw0 (zga zx5 (zw0 (dVar 0) (zw0 (dOp fAdd (zx0 2) (dC (.int 1))) (zw0 (dC (.int 0)) dNil)))) (zw0 (dVar 3) dNil)))))))))),(zd0 (zf3 (i:=3) (sc:=zh0 zw51) (N:=["yard", "wants", "until", "arcs", "moment", "vat", "told"]) (own:=["vat", "told"]) (ix:=[0]) rfl rfl rfl (by walk_at"csc") nd rfl rfl (zpa (K:=K) rfl rfl jF (za0 (pix w K hr (pv 0) ze0) zg0)) (λ_ _ _ _=>⟨(zb7 (K:=K) (n:=2) rfl rfl (zp1 (pgn 0 (nds ["vat", "told", "yard"])) (zp1 (pgn 1 (nds ["vat", "told", "yard"])) za7))),zx1,(zq1 (za0 (zl6 rfl g_SOURCE z) (za0 (zn0 W (rmn hr) rfl (za0 (pv 2) (za0 ze0 (za0 (pv 0) zg0)))) (za0 (pix w K hr (pv 1) ze0) zg0))))⟩))
   (zd0 (zo5 aW rfl (zy1 rfl jH (za0 (pv 2) zg0)) (pgn 4 nd) (zj0 (zk2 (zy8 (K:=K) rfl ğa ğd ğe (zs5 (K:=K) rfl) (pv 3) (za0 (zn0 uN (rmn hr) rfl (za0 (pv 0) (za0 (pv 4) (za0 (pv 2) zg0)))) zg0)))))
   (zd0 (zk2 (zy8 (K:=K) rfl ğa ğd ğe (zs5 (K:=K) rfl) (pv 3) (za0 (zp2 (sc:=zh0 zw51) (N:=["yard", "wants", "until", "arcs", "moment", "vat", "told"]) (own:=["vat", "want"]) (ix:=[0,2]) rfl rfl rfl (by walk_at"csc") (zpa (K:=K) rfl rfl jF (za0 (pv 1) zg0)) (λ_ _ _ _=>⟨(zb7 (K:=K) (n:=2) rfl rfl (zp1 (pgn 0 (nds ["vat", "want", "yard", "until"])) (zp1 (pgn 1 (nds ["vat", "want", "yard", "until"])) za7))),zx1,(zq1 (za0 (zn0 W (rmn hr) rfl (za0 (pv 2) (za0 (pv 3) (za0 (pv 0) zg0)))) (za0 (zl6 rfl g_SINK u) (za0 (pv 1) zg0))))⟩)) zg0)))
   (zd0 (zo5 aW rfl (zpa (K:=K) rfl rfl jF (za0 (pix w K hr (pv 0) ze0) zg0)) (zb7 (K:=K) (n:=2) rfl rfl (zp1 (pgn 5 nd) (zp1 (pgn 6 nd) za7))) (zj0 (zk2 (zy8 (K:=K) rfl ğa ğb ğc zz2 (pv 3) (za0 (zq1 (za0 (zn0 W (rmn hr) rfl (za0 (pv 0) (za0 (pv 2) (za0 (pv 5) zg0)))) (za0 (zl6 rfl g_SINK u) (za0 (zj1 zw9 (pix w K hr (pv 6) ze0) (pix w K hr (pv 1) (pv 5))) zg0)))) zg0)))))
   (zj0 (za1 (zq1 (za0 (zn0 W (rmn hr) rfl (za0 (pv 0) (za0 (zj1 (zk1 (K:=K) rfl) (pv 2) ze0) (za0 ze0 zg0)))) (za0 (pv 3) zg0))))))))),(zl0 (zi4 (RfF.c (zr1 (zvd (zo0 (RfE.v (zk0 r_ix (zb0 0) rvi)) ze1)) (zjc (zo1 (zh1 (i:=0) (n:=2) (by decide)) (zo1 (zh1 (i:=1) (n:=2) (by decide)) zw6))) zm2 (zt2 (zc0 zn1 (zc0 (zu0 (zc0 (zi0 2) (zc0 zn1 (zc0 (zi0 0) zm0)))) (zc0 (zk0 r_ix (zb0 1) rvi) zm0)))))))
   (zl0 (zr5 (zk6 (zc0 (zi0 2) zm0)) (rgn 4) (zl2 (zhj zpm (zv0 3) (zc0 (zu0 (zc0 (zi0 0) (zc0 (zi0 4) (zc0 (zi0 2) zm0)))) zm0))))
   (zl0 (zl2 (zhj zpm (zv0 3) (zc0 (RfF.e (zr1 (zvd (zo0 (zb0 1) ze1)) (zjc (zo1 (zh1 (i:=0) (n:=2) (by decide)) (zo1 (zh1 (i:=1) (n:=2) (by decide)) zw6))) zm2 (zt2 (zc0 (zu0 (zc0 (zi0 2) (zc0 (zi0 3) (zc0 (zi0 0) zm0)))) (zc0 zn1 (zc0 (zi0 1) zm0)))))) zm0)))
   (zl0 (zr5 (zbx (zc0 (zk0 r_ix (zb0 0) rvi) zm0)) (zjc (zo1 (rgn 5) (zo1 (rgn 6) zw6))) (zl2 (zhj zaf (zv0 3) (zc0 (zt2 (zc0 (zu0 (zc0 (zi0 0) (zc0 (zi0 2) (zc0 (zi0 5) zm0)))) (zc0 zn1 (zc0 (zk0 zyl (RfE.v (zk0 r_ix (zb0 6) rvi)) (RfE.v (zk0 r_ix (zb0 1) (zb0 5)))) zm0)))) zm0))))
   (zbd 3 [] (zi1 (RfE.c (zt2 (zc0 (zu0 (zc0 (zi0 0) (zc0 (zk0 zg8 (zb0 2) rvi) (zc0 zn1 zm0)))) (zc0 (zi0 3) zm0)))))))))),?_⟩
 rintro ds Qd ⟨vs,ps,ws,n,rfl,y,hn,q⟩;have hv:=y.n2;have hm:=y.m2;have hw:=y.lw;unfold dY;walk_at"ds";walk_at"a";walk_at"k";rw[zv5];refine zof (λp=>dAr (0,(ntOf vs ps n).nd 0 p.1,p.2.fill)) (by rw[aQ,y0];lia) (λp hp=>?_) ?_
 ·obtain⟨i,v⟩:=p;unfold Va.d;walk_at"cs";walk_at"dd";exact⟨vs,_,0,i,rfl,by lia,by lia,_,rfl,by simp[dAr,nI,Nt.nd,ntOf]⟩
 walk_at"f";have e1:(vs.mapIdx λi x=>(i,x)).map (λp=>dAr (0,(ntOf vs ps n).nd 0 p.1,p.2.fill))=(zuk vs ps n 0).map dAr:=by
  unfold zuk;rw[List.range_zero,yK,wS,wE];apply yE;intro j;rw[u8,u8,xS];by_cases h:j < vs.length
  ·rw[xI h,u4 h];have:(ntOf vs ps n).fl j=vs[j].fill:=by show((vs[j]?).map Va.fill).getD 0=_;rw[u4 h];rfl
   show some (dAr (0,(ntOf vs ps n).nd 0 j,vs[j].fill))=some (dAr (0,(ntOf vs ps n).nd 0 j,(ntOf vs ps n).fl j));rw[this]
  ·rw[wG (by lia),wG (by simpa using h)];rfl
 rw[e1];have la:∀k,k<=60->(zuk vs ps n k).length<=12+36 * k:=λk _=>wX (zue vs ps n k) (by have:=yM k (show vs.length+ps.length<=36 by lia);lia);walk_at"a";rw[v6];unfold rngD;refine⟨by lia,by lia,zj2 (λi U=>∃S:Sl,U=[.sh (.tuple [.list (vs.map Va.d),.list (ps.map Pi.d)]),.sh (.list (ws.map .int)),.sh (.int (n:Int)),.ow (.li ((zuk vs ps n i).map dAr)),S,.un,.un]) ⟨.un,rfl⟩ ?_ ?_⟩
 ·rintro i x U Y ⟨S,rfl⟩;obtain⟨hi,O⟩:=wI.mp Y;simp at hi O;subst O;rw[show(0:Int)+(i:Int)=(i:Int) by lia];have h1:=la i (by lia);have h2:=zvx vs ps n i;walk_at"dd";exact⟨vs,ps,i,n,rfl,hv,hm,y.pb,by lia,by simp only[u5,aQ];lia,.sh (.int (i:Int)),by rw[zbn,wH]⟩
 rintro U ⟨S,rfl⟩;rw[wT];walk_at"f";have h1:=la n (by lia);walk_at"a";rw[zv5];refine zof (λp=>dAr ((ntOf vs ps n).nd n p.1,1,p.2)) (by rw[aQ,y0];lia) (λp hp=>?_) ?_
 ·obtain⟨i,x⟩:=p;walk_at"cs";walk_at"dd";exact⟨vs,_,n,i,rfl,by lia,by lia,by simp[dAr,nI,Nt.nd,ntOf]⟩
 refine⟨by simp;lia,hJ _ ?_⟩;clear hJ;have e3:(ws.mapIdx λi x=>(i,x)).map (λp=>dAr ((ntOf vs ps n).nd n p.1,1,p.2))=((u3 vs.length).map λk=>((ntOf vs ps n).nd n k,1,ws.getD k 0)).map dAr:=by
  rw[wE,<- hw];apply yE;intro j;rw[u8,u8,xS];by_cases h:j < ws.length
  ·rw[xI h,u4 h];show some (dAr ((ntOf vs ps n).nd n j,1,ws[j]))=some (dAr ((ntOf vs ps n).nd n j,1,ws.getD j 0));rw[v4,u4 h];rfl
  ·rw[wG (by lia),wG (by simpa using h)];rfl
 rw[e3,<- wH];walk_at"a";walk_at"k";rw[zv5];refine zj2 (λi U=>∃s5 Z:Sl,U=[.sh (.tuple [.list (vs.map Va.d),.list (ps.map Pi.d)]),.sh (.list (ws.map .int)),.sh (.int (n:Int)),.ow (.li ((zuk vs ps n n++(u3 vs.length).map (λk=>((ntOf vs ps n).nd n k,1,ws.getD k 0))++(u3 i).map λk=>((ntOf vs ps n).nd n k,1,((vs[k]?).map Va.room).getD 0 - ws.getD k 0)).map dAr)),S,s5,Z]) ⟨.un,.un,by simp⟩ ?_ ?_
 ·rintro i x U Y ⟨s5,Z,rfl⟩;rw[xS]at Y;obtain⟨v,I,rfl⟩:=xA.mp Y;have hi:=(wI.mp I).1;have gw:atI (ws.map u6) ((i:Nat):Int)=some (.int (ws.getD i 0)):=zxc (by lia) (by rw[v6,u8,v4,u4 (by lia:i < ws.length)];rfl);rw[xZ];unfold Va.d;walk_at"dd";refine⟨vs,_,n,i,rfl,by lia,by lia,_,rfl,_,gw,?_⟩;walk_at"dd";refine⟨by simp;lia,.sh (nI i),.sh v.d,?_⟩;simp only[wH,v9,yS,<- wD];rw[I];rfl
 ·rintro U ⟨s5,Z,rfl⟩;rw[y0,<- zyk];walk_at"f";walk_at"dd";refine⟨_,_,rfl,rfl,vs,.list (ps.map Pi.d),n+1,0,by simp[nI],by lia,by lia,?_⟩;exact q
end
def cW(ws:List Int)(k:Nat):Int:=ws.getD k 0
def cR(vs:List Va)(ws:List Int)(k:Nat):Int:=((vs[k]?).map Va.room).getD 0 - ws.getD k 0
def zf51(vs:List Va)(ps:List Pi)(ws:List Int)(n:Nat):List Ar:=(u3 vs.length).map λk=>((ntOf vs ps n).nd n k,1,cR vs ws k)
theorem zi51(vs:List Va)(ps:List Pi)(ws:List Int)(n:Nat):(ntOf vs ps n).arcs (csOf vs ws)=(ntOf vs ps n).arcs [cW ws]++zf51 vs ps ws n:=by
 unfold Nt.arcs csOf;simp only[wN,yK,wS,wD];rfl
theorem zcv(vs:List Va)(ps:List Pi)(ws:List Int)(n:Nat):(zf51 vs ps ws n).length=vs.length:=by simp[zf51]
section
variable {vs:List Va}{ps:List Pi}{ws:List Int}{n:Nat}
theorem YOk.ok(y:YOk vs ps ws):(ntOf vs ps n).Ok:=zs71 y.pb
theorem YOk.fl(y:YOk vs ps ws){k:Nat}(q:k < vs.length):0<=(ntOf vs ps n).fl k/\(ntOf vs ps n).fl k<=(ntOf vs ps n).rm k/\0<=cW ws k/\cW ws k<=(ntOf vs ps n).rm k:=by
 have e:vs[k]?=some vs[k]:=u4 q;have p:k < ws.length:=by have:=y.lw;lia
 have u:ws[k]?=some ws[k]:=u4 p;obtain⟨J,I⟩:=y.vf _ (xE q);obtain⟨B,z⟩:=y.wr k _ _ e u;show 0<=((vs[k]?).map Va.fill).getD 0/\((vs[k]?).map Va.fill).getD 0<=((vs[k]?).map Va.room).getD 0/\0<=ws.getD k 0/\ws.getD k 0<=((vs[k]?).map Va.room).getD 0;rw[e,v4,u];exact⟨J,I,B,z⟩
theorem YOk.ar(y:YOk vs ps ws):∀a∈(ntOf vs ps n).arcs (csOf vs ws),a.1 < (ntOf vs ps n).nd (n+1) 0/\a.2.1 < (ntOf vs ps n).nd (n+1) 0/\0<=a.2.2:=λa p=>by
 have ok:=y.ok (n:=n);have O:=Nt.nd2 (T:=ntOf vs ps n) (n+1) 0;unfold Nt.arcs at p;rcases vX.mp p with p|p
 ·rcases vX.mp p with p|p
  ·obtain⟨k,q,rfl⟩:=vV.mp p;have q:=u9.mp q;exact⟨by show 0 < _;lia,Nt.nd_lt (T:=ntOf vs ps n) (wU _) q,(y.fl (n:=n) q).1⟩
  ·obtain⟨m,u,p⟩:=yZ.mp p;have u:m < n:=u9.mp u;rcases vX.mp p with p|p
   ·obtain⟨k,q,rfl⟩:=vV.mp p;have q:k < vs.length:=u9.mp q;have:=y.fl (n:=n) q;exact⟨Nt.nd_lt (T:=ntOf vs ps n) (yH u) q,Nt.nd_lt (T:=ntOf vs ps n) u q,by show 0<=(ntOf vs ps n).rm k;lia⟩
   ·obtain⟨i,hi,rfl⟩:=vV.mp p;refine⟨Nt.nd_lt (T:=ntOf vs ps n) (yH u) (ok.ub m i hi),Nt.nd_lt (T:=ntOf vs ps n) (ok.ln m i hi).2 (ok.vb m i hi),?_⟩;have B:i < ps.length:=by
     have J:i∈pbJ ps m n ps.length:=by rw[zsd];exact hi
     exact((zoj ps m n _ (u7 _)).2 i J).1
    show 0<=zmb ps i m;unfold zmb;rw[u4 B];exact(y.pb _ (xE B)).2.2.2.2.2 m
 ·obtain⟨c,I,p⟩:=yZ.mp p;obtain⟨k,q,rfl⟩:=vV.mp p;have q:k < vs.length:=u9.mp q;refine⟨Nt.nd_lt (T:=ntOf vs ps n) (u7 _) q,by show 1 < _;lia,?_⟩;have:=y.fl (n:=n) q;have I:c∈[cW ws,cR vs ws]:=I;rcases vT.mp I with z|z
  ·subst z;exact this.2.2.1
  ·have z:=uaP.mp z;subst z;show 0<=(ntOf vs ps n).rm k - cW ws k;lia
theorem zyy(y:YOk vs ps ws)(p:n<=60):((ntOf vs ps n).arcs (csOf vs ws)).length<=3000:=by
 have q:=zue vs ps n n;have:=Nat.mul_le_mul (show vs.length+ps.length<=36 by have:=y.n2;have:=y.m2;lia) p;have:=y.n2;rw[zyk,vW,vW,u5,u5,wT];lia
end
theorem zbh1{κ:Type}[DecidableEq κ]:∀{l acc:List (κ×D)},((acc++l).map (·.1)).Nodup->l.foldl (λa x=>putD a x.1 x.2) acc=acc++l
|[],acc,_=>by simp
|x :: l,acc,nd=>by
  have h:putD acc x.1 x.2=acc++[x]:=by
   unfold putD;rw[aF];intro z;obtain⟨y,p,e⟩:=List.any_eq_true.mp z;rw[wH,wV]at nd;exact nd.2.2 y.1 (vV.mpr ⟨y,p,rfl⟩) x.1 (by simp) (dB e)
  rw[zK,h,zbh1 (by rw[wD];exact nd),wD];rfl
theorem zkw(side:List Nat)(j:Nat):(getA (side.map λv:Nat=>((.inl (v:Int),.bool true):Key×D)) (.inl (j:Int))).isSome=decide (j∈side):=by
 induction side with
|nil=>rfl
|cons a r p =>
  rw[v9,zg6];by_cases e:j=a
  ·subst e;rw[aH rfl];simp
  ·rw[aF (λz=>e (by injection z with z;lia)),p];simp[e]
def ptL(N c:Nat)(side:List Nat):List D:=(u3 (c - 2)).filterMap λk=>if 2+k∈side then none else some (.tuple [.int ((k / N:Nat):Int),.int ((k % N:Nat):Int)])
def zqa:DSp:=λds Q=>∃(vs:List Va)(ps:List Pi)(n:Nat)(side:List Nat),ds=[.tuple [.list (vs.map Va.d),.list (ps.map Pi.d)],nI n,.list (side.map nI)]/\1<=vs.length/\vs.length<=100/\2<=n/\n<=100/\side.length<=100/\side.Nodup/\Q (.list (ptL vs.length n side))
structure Met(vs:List Va)(ps:List Pi)(ws:List Int)(n:Nat)(M:Int)(f:Fm):Prop where
 val:(ntOf vs ps n).Val (cW ws) M
 fl:(ntOf vs ps n).Fl [cW ws,cR vs ws] f
 src:∀k,k < vs.length->f.a k=(ntOf vs ps n).fl k
 wn:M=ws.sum->∃t s,f.t=[t,s]/\∀k,k < vs.length->cW ws k<=t k
def ptN(vs:List Va)(ps:List Pi)(n:Nat)(side:List Nat):List D:=ptL vs.length ((ntOf vs ps n).nd (n+1) 0) side
def Ovr(vs:List Va)(ps:List Pi)(ws:List Int)(n:Nat)(M:Int)(side:List Nat):Prop:=M=(ntOf vs ps n).over (cW ws) λm k=>(ntOf vs ps n).nd m k ∉ side
theorem zaw(ws:List Int):ws.sum=su (u3 ws.length) (cW ws):=by
 have:(u3 ws.length).map (cW ws)=ws:=by
  refine yX (by simp) λi q p=>?_;rw[uaN,ua3];unfold cW;rw[v4,u4 p];rfl
 unfold su;rw[this]
def zug:DSp:=λds Q=>∃(vs:List Va)(ps:List Pi)(ws:List Int)(n:Nat),ds=[dY vs ps,.list (ws.map .int),.int (n:Int)]/\YOk vs ps ws/\n<=60/\(n+1) * vs.length<=61/\∀(M:Int)(f:Fm)(side:List Nat),Met vs ps ws n M f->Ovr vs ps ws n M side->Q (.tuple [.int M,.list ((zya ps n f.g n).map Le.d),.list (ptN vs ps n side)])
def zbj:DSp:=λds Q=>∃(vs:List Va)(ps:List Pi)(ws:List Int)(n:Nat),ds=[dY vs ps,.list (ws.map .int),.int (n:Int)]/\YOk vs ps ws/\n<=60/\(n+1) * vs.length<=61/\∀(M:Int)(f:Fm)(side:List Nat),Met vs ps ws n M f->Ovr vs ps ws n M side->Q (.tuple [.str (if M=ws.sum then "plan" else "shut"),if M=ws.sum then .list ((zya ps n f.g n).map Le.d)else .list (ptN vs ps n side)])
section
variable {P:aN}{w:aP}{K:Fg}{mg:Str->Option aA}{base:aT}
theorem zl9:FnScope ["yard", "count", "side", "within"] ["yard", "count", "side"] (zh0 ze3):=by walk_at"sc"
theorem zee(M:Md K mg)(T:TopDef K "part_beyond" ze3)(uZ:mg "dict"=none)(jH:mg "range"=none)(p:Def P w K mg base "spot" 1 ["yard", "number"] (spD K za91)):Def P w K mg base "part_beyond" 2 ["yard", "count", "side"] (spD K zqa):=by
 refine zx2 M T zl9 (by walk_at"h") (zy9 (by walk_at"i")) (zv2 ?_);walk_at"g";have nd:=zl9.nd;refine⟨_,_,(zd0 (pset 3 nd (zb3 (zns (K:=K) rfl rfl (Room.units hr)) rfl uZ zm71 (za0 (zp2 (sc:=zh0 ze3) (N:=["yard", "count", "side", "within"]) (own:=["number"]) (ix:=[]) rfl rfl rfl (by walk_at"csc") (pi_W (K:=K) rfl (pv 2)) (λ_ _ _ _=>⟨(pgn 0 (nds ["number"])),zx1,(zq1 (za0 (pv 0) (za0 zom zg0)))⟩)) zg0)))
   (zj0 (za1 (zp2 (sc:=zh0 ze3) (N:=["yard", "count", "side", "within"]) (own:=["number"]) (ix:=[0,3]) rfl rfl rfl (by walk_at"csc") (zdw rfl jH (za0 ze0 (za0 (pv 1) zg0))) (λ_ _ _ _=>⟨(pgn 0 (nds ["number", "yard", "within"])),(zid (zs0 (zjb (w:=w) (K:=K) (Room.units hr) rfl rfl) (pv 0) (pv 2) (by with_unfolding_all rfl))),(zn0 p (rmn hr) rfl (za0 (pv 1) (za0 (pv 0) zg0)))⟩))))),(zl0 (zi4 (RfN.c (zj31 (RfF.e (zr1 (zsm (zb0 2)) (zh1 (i:=0) (n:=1) (by decide)) zm2 (zt2 (zc0 (zi0 0) (zc0 zcm zm0))))))))
   (zi1 (RfF.c (zr1 (RfI.j (zc81 (zc0 zn1 (zc0 (zi0 1) zm0)))) (zh1 (i:=0) (n:=1) (by decide)) (zr0 (zyx (zi0 0) (zv0 2))) (zu0 (zc0 (zi0 1) (zc0 (zi0 0) zm0))))))),?_⟩
 rintro ds Qd ⟨vs,ps,n,side,rfl,I,u,n2,hn,hs,nds,q⟩;walk_at"ds";walk_at"a";refine zof (λv=>.tuple [nI v,.bool true]) (by rw[aQ];lia) (λv Z=>?_) ?_
 ·walk_at"cs";walk_at"dd"
 refine⟨side.map λv:Nat=>((.inl (v:Int),.bool true):Key×D),by rw[wE];rfl,by rw[u5];lia,hJ _ ?_⟩;clear hJ;have O:mD (side.map λv:Nat=>((.inl (v:Int),.bool true):Key×D))=side.map λv:Nat=>((.inl (v:Int),.bool true):Key×D):=by
  unfold mD;rw[zbh1 (acc:=[])]
  ·rfl
  ·rw[List.nil_append,wE];exact List.pairwise_map.mpr (nds.imp λ{a b} q z=>q (by have z:(w6 (a:Int):Key)=.inl (b:Int):=z;injection z with z;lia))
 rw[O];walk_at"dd";refine⟨⟨by lia,by lia⟩,?_⟩;unfold rngD;have Y:((n:Int) - 2).toNat=n - 2:=by lia
 rw[Y];refine zoy (xs:=u3 (n - 2)) (enc:=λk:Nat=>u6 (2+(k:Int))) (λk=>if 2+k∈side then none else some (.tuple [.int ((k / vs.length:Nat):Int),.int ((k % vs.length:Nat):Int)])) (by rw[aQ,wT];lia) (λk hk=>?_) q;have W:(2:Int)+(k:Int)=((2+k:Nat):Int):=by lia
 rw[W];have S:=zkw side (2+k);walk_at"cs";walk_at"dd";rw[S];by_cases h:2+k∈side
 ·rw[aH h,bW h];simp
 ·rw[aF h,bB h];simp only[Bool.not_false,if_true,yB,if_false];refine⟨vs,_,2+k,rfl,I,u,?_⟩;walk_at"dd";rw[show((2+k:Nat):Int) - 2=(k:Int) by lia];rfl
theorem zyd:FnScope ["yard", "wants", "until", "told", "spare", "wanted", "found", "flow", "met"] ["yard", "wants", "until"] (zh0 zsc):=by walk_at"sc"
theorem zem(M:Md K mg)(T:TopDef K "met_most" zsc)(jK:mg "len"=none)(jQ:mg "sum"=none)(kE:DefN P w K mg base "greatest" 4 ["count", "arcs", "source", "sink", "flow"] (spD K zk9))(vQ:Def P w K mg base "net" 6 ["yard", "wants", "until"] (spD K zkg1))(uO:Def P w K mg base "plan_of" 2 ["yard", "until", "flow"] (spD K zjl))(qM:Def P w K mg base "part_beyond" 2 ["yard", "count", "side"] (spD K zqa))(g_SOURCE:mg "SOURCE"=some gv_SOURCE)(p:RelV (.int 0) gv_SOURCE)(g_SINK:mg "SINK"=some gv_SINK)(I:RelV (.int 1) gv_SINK):Def P w K mg base "met_most" 7 ["yard", "wants", "until"] (spD K zug):=by
 refine zx2 M T zyd (by walk_at"h") (zy9 (by walk_at"i")) (zv2 ?_);walk_at"g";have nd:=zyd.nd;refine⟨_,_,(zd0 (pset 3 nd (zn0 vQ (rmn hr) rfl (za0 (pv 0) (za0 (pv 1) (za0 (pv 2) zg0)))))
   (zd0 (pset 4 nd (zp0 (zg1 (K:=K) rfl) rfl jK zg4 (za0 (pix w K hr (pv 0) ze0) zg0)))
   (zd0 (pset 5 nd (zpj (sl_W (K:=K) rfl) (pix w K hr (pv 3) ze0) zcl (zac (zj1 zw9 (zp0 (zg1 (K:=K) rfl) rfl jK zg4 (za0 (pix w K hr (pv 3) ze0) zg0)) (pv 4)))))
   (zd0 (pset 6 nd (zsq kE (rmn hr) rfl (za0 (pix w K hr (pv 3) ze0) (za0 (pv 5) (za0 (zl6 rfl g_SOURCE p) (za0 (zl6 rfl g_SINK I) zg0))))))
   (zd0 (pset 7 nd (pix w K hr (zn0 kE.d (rmn hr) rfl (za0 (pix w K hr (pv 3) ze0) (za0 (pix w K hr (pv 3) ze0) (za0 (zl6 rfl g_SOURCE p) (za0 (zl6 rfl g_SINK I) (za0 (zj1 (zk1 (K:=K) rfl) (pix w K hr (pv 6) ze0) (zj1 zt9 (zc3 (za0 ze0 zg0)) (pv 4))) zg0)))))) ze0))
   (zd0 (pset 8 nd (zp0 (zd2 (K:=K) rfl rfl) rfl jQ zrb (za0 (zpj (sl_W (K:=K) rfl) (pix w K hr (pv 6) ze0) (zac (zj1 zw9 (zp0 (zg1 (K:=K) rfl) rfl jK zg4 (za0 (pv 5) zg0)) (pv 4))) zcl) zg0)))
   (zj0 (za1 (zq1 (za0 (pv 8) (za0 (zn0 uO (rmn hr) rfl (za0 (pv 0) (za0 (pv 2) (za0 (pv 7) zg0)))) (za0 (zn0 qM (rmn hr) rfl (za0 (pv 0) (za0 (pix w K hr (pv 3) ze0) (za0 (pix w K hr (pv 6) ze0) zg0)))) zg0)))))))))))),(zl0 (zb1 (zu0 (zc0 (zi0 0) (zc0 (zi0 1) (zc0 (zi0 2) zm0)))) (rgn 3))
   (zl0 (zb1 (zl5 zvc (zo0 (RfE.v (zk0 r_ix (zb0 0) rvi)) ze1)) (rgn 4))
   (zl0 (zb1 (zae1 (RfE.v (zk0 r_ix (zb0 3) rvi)) zik (zjg (zk0 zyl (RfE.v (zl5 zvc (zo0 (RfE.v (zk0 r_ix (zb0 3) rvi)) ze1))) (zb0 4)))) (rgn 5))
   (zl0 (zb1 (zeo (zc0 (zk0 r_ix (zb0 3) rvi) (zc0 (zi0 5) (zc0 zn1 (zc0 zn1 zm0))))) (rgn 6))
   (zl0 (zb1 (zk0 r_ix (RfE.v (zu0 (zc0 (zk0 r_ix (zb0 3) rvi) (zc0 (zk0 r_ix (zb0 3) rvi) (zc0 zn1 (zc0 zn1 (zc0 (zk0 zg8 (RfE.v (zk0 r_ix (zb0 6) rvi)) (RfE.v (RfF.e (zm81 (zb8 (zc0 zn1 zm0)) (zi0 4))))) zm0))))))) rvi) (rgn 7))
   (zl0 (zb1 (zl5 zoq (zo0 (RfE.v (zae1 (RfE.v (zk0 r_ix (zb0 6) rvi)) (zjg (zk0 zyl (RfE.v (zl5 zvc (zo0 (zb0 5) ze1))) (zb0 4))) zik)) ze1)) (rgn 8))
   (zi1 (RfE.c (zt2 (zc0 (zi0 8) (zc0 (zu0 (zc0 (zi0 0) (zc0 (zi0 2) (zc0 (zi0 7) zm0)))) (zc0 (zu0 (zc0 (zi0 0) (zc0 (zk0 r_ix (zb0 3) rvi) (zc0 (zk0 r_ix (zb0 6) rvi) zm0)))) zm0)))))))))))),?_⟩
 rintro ds Qd ⟨vs,ps,ws,n,rfl,y,hn,hN,q⟩;have hv:=y.n2;have hm:=y.m2;have hw:=y.lw;have ok:=y.ok (n:=n);have l2:=zcv vs ps ws n;have Y:=zyy y hn;have ar:=y.ar (n:=n);have ec:=zi51 vs ps ws n;have hc:(ntOf vs ps n).nd (n+1) 0=2+(n+1) * vs.length:=rfl;have hc2:=Nt.nd2 (T:=ntOf vs ps n) (n+1) 0;rw[ec]at Y ar;rw[vW,l2]at Y;walk_at"ds";walk_at"a";refine⟨vs,ps,ws,n,rfl,y,hn,hJ _ ?_⟩;clear hJ;rw[ec];unfold dY;walk_at"a";walk_at"k";rw[u5];walk_at"b";refine⟨_,rfl,_,rfl,?_⟩;walk_at"dd";rw[zlj,u5,vW,l2,show((((((ntOf vs ps n).arcs [cW ws]).length+vs.length:Nat)):Int) - (vs.length:Int))=((((ntOf vs ps n).arcs [cW ws]).length:Nat):Int) by lia,zt11,List.take_left];walk_at"b";refine⟨_,rfl,(ntOf vs ps n).nd (n+1) 0,(ntOf vs ps n).arcs [cW ws],0,1,.none,vY ((ntOf vs ps n).arcs [cW ws]).length 0,rfl,.inl ⟨rfl,rfl⟩,yR,by lia,by lia,λa Z=>⟨(ar a (xQ _ Z)).1,(ar a (xQ _ Z)).2.1⟩,λk a x h1 O=>?_,by lia,by lia,by decide,λL side b=>hJ _ ?_⟩
 ·rw[xO]at O;split at O
  ·cases O;exact⟨by lia,(ar a (xQ _ (wJ h1))).2.2⟩
  ·cases O
 clear hJ;have hbal:∀v,v≠0->v≠1->_5.bal ((ntOf vs ps n).arcs [cW ws]).length (zt6 ((ntOf vs ps n).arcs [cW ws])) L v=0:=λv h1 O=>by rw[b.up.eqb v h1 O];exact zmr v
 obtain⟨f,fl,ef⟩:=Nt.best ok b hbal;obtain⟨t,ht⟩:∃t,f.t=[t]:=by
  have:=fl.t
  match hf:f.t,this with
 |[t],_=>exact⟨t,rfl⟩
 have val:=Nt.val ok b fl ef ht;have hsd:=zy0 _ side (zw5 b.ris) b.bd;have wi:=b.within;have lF:=Nt.len (T:=ntOf vs ps n) (cs:=[cW ws]) (f:=f) fl.t;have efl:(ntOf vs ps n).flow f=(ntOf vs ps n).flow ⟨f.a,f.r,f.g,[]⟩++(u3 vs.length).map t:=by
  unfold Nt.flow;rw[ht];simp only[wN,yK,wS,wD];rfl
 have lF2:((ntOf vs ps n).flow ⟨f.a,f.r,f.g,[]⟩).length+vs.length=((ntOf vs ps n).arcs [cW ws]).length:=by
  rw[<- lF,efl,vW,u5,wT]
 have eflow:(u3 ((ntOf vs ps n).arcs [cW ws]).length).map (λk=>u6 (lf L (2 * k+1)))=((ntOf vs ps n).flow f).map .int:=by rw[<- ef,wE];rfl
 have wi2:∀k,k < ((ntOf vs ps n).arcs [cW ws]).length->0<=fx ((ntOf vs ps n).flow f) k/\fx ((ntOf vs ps n).flow f) k<=zc9 ((ntOf vs ps n).arcs [cW ws]) k:=λk u=>by
  have:=wi k u;rw[<- ef,zlm u];exact this
 rw[eflow];have e0:(vY ((vs.length:Int)).toNat [u6 0]).flatten=(vY vs.length (0:Int)).map u6:=by
  rw[v6,ubA,ubB]
 walk_at"a";rw[e0];refine⟨_,rfl,_,rfl,_,rfl,by lia,by lia,by lia,?_⟩;walk_at"dd";rw[<- wH];refine⟨by rw[u5,u5,yR];lia,(ntOf vs ps n).nd (n+1) 0,(ntOf vs ps n).arcs [cW ws]++zf51 vs ps ws n,0,1,_,_,rfl,.inr rfl,by rw[vW,vW,yR,lF,l2],by lia,by rw[vW];lia,λa Z=>⟨(ar a Z).1,(ar a Z).2.1⟩,λk a x h1 O=>?_,by lia,by lia,by decide,λM side2 b2=>?_⟩
 ·by_cases u:k < ((ntOf vs ps n).arcs [cW ws]).length
  ·rw[wP u]at h1;rw[wP (by lia)]at O;have:=wi2 k u;have em:zc9 ((ntOf vs ps n).arcs [cW ws]) k=a.2.2:=by unfold zc9;rw[h1];rfl
   rw[em]at this;unfold fx at this;rw[O]at this;exact this
  ·have Z:=(ar a (wJ h1)).2.2;rw[wO (by lia),xO]at O;split at O
   ·cases O;exact⟨by lia,Z⟩
   ·cases O
 walk_at"dd";have hf:∀k,k < (ntOf vs ps n).N->0<=(ntOf vs ps n).fl k/\(ntOf vs ps n).fl k<=(ntOf vs ps n).rm k/\0<=cW ws k/\0<=cR vs ws k/\(ntOf vs ps n).fl k<=cW ws k+cR vs ws k:=λk u=>by
  have h4:=y.fl (n:=n) u;have e:cR vs ws k=(ntOf vs ps n).rm k - cW ws k:=rfl;lia
 have hwd:∀m i,m < (ntOf vs ps n).n->i∈(ntOf vs ps n).P m->0<=(ntOf vs ps n).W i m:=λm i _ hi=>by
  have hi2:i < ps.length:=by
   have hi3:i∈pbJ ps m n ps.length:=by rw[zsd];exact hi
   exact((zoj ps m n _ (u7 _)).2 i hi3).1
  show 0<=zmb ps i m;unfold zmb;rw[u4 hi2];exact(y.pb _ (xE hi2)).2.2.2.2.2 m
 have b3:Best ((ntOf vs ps n).nd (n+1) 0) ((ntOf vs ps n).arcs [cW ws,cR vs ws]) ((ntOf vs ps n).flow f++vY (ntOf vs ps n).N 0) 0 1 M side2:=by
  rw[show(ntOf vs ps n).arcs [cW ws,cR vs ws]=(ntOf vs ps n).arcs [cW ws]++zf51 vs ps ws n from ec];exact b2
 obtain⟨S,t2,s2,fl2,e2,src,ht2,wn⟩:=Nt.again ok fl ht hf hwd b3;have met:Met vs ps ws n (su (u3 (ntOf vs ps n).N) t) S:=⟨val,fl2,src,λz=>⟨t2,s2,ht2,λk u=>by
  rw[zaw,hw]at z;have:=zqs (a:=t) (b:=cW ws) (λk u=>(fl.s (cW ws,t) (by rw[ht];simp) k (u9.mp u)).2) (Int.le_of_eq z.symm) k (u9.mpr u);rw[<- this];exact wn k u⟩⟩
 have ovr:Ovr vs ps ws n (su (u3 (ntOf vs ps n).N) t) side:=by
  have ex:∀k,k < ((ntOf vs ps n).arcs [cW ws]).length->lf L (2 * k+1)=fx ((ntOf vs ps n).flow f) k:=λk u=>by rw[<- ef,zlm u]
  exact Nt.cut ok fl ht (λk u=>by rw[<- ex k u];exact b.tight k u) b.inn b.out b.bd (zw5 b.ris)
 have e2':(u3 ((ntOf vs ps n).arcs [cW ws]++zf51 vs ps ws n).length).map (λk=>u6 (lf M (2 * k+1)))=((ntOf vs ps n).flow S).map .int:=by
  rw[<- e2,wE,show(ntOf vs ps n).arcs [cW ws,cR vs ws]=(ntOf vs ps n).arcs [cW ws]++zf51 vs ps ws n from ec];rfl
 rw[e2'];refine⟨_,rfl,hJ _ ?_⟩;walk_at"c";walk_at"k";rw[zlj,u5,show(((((ntOf vs ps n).arcs [cW ws]).length:Nat):Int) - (vs.length:Int))=((((ntOf vs ps n).flow ⟨f.a,f.r,f.g,[]⟩).length:Nat):Int) by lia,zan,efl,List.drop_left];refine⟨_,ints_map _,hJ _ ?_⟩;clear hJ;walk_at"dd";have eG:(ntOf vs ps n).flow S=zlc ps n ((u3 vs.length).map S.a) (λm=>(u3 vs.length).map (S.r m)) S.g n++S.t.flatMap λt=>(u3 vs.length).map t:=by
  unfold Nt.flow zlc blk;rw[List.flatMap_def];rfl
 refine⟨vs,ps,n,(u3 vs.length).map S.a,S.t.flatMap λt=>(u3 vs.length).map t,λm=>(u3 vs.length).map (S.r m),S.g,by rw[eG],by lia,by lia,by lia,by simp,λm _=>by simp,?_⟩;refine⟨_,rfl,_,rfl,vs,ps,(ntOf vs ps n).nd (n+1) 0,side,rfl,y.n1,by lia,by lia,by lia,by lia,zw5 b.ris,?_⟩;exact q _ S side met ovr
theorem zkk:FnScope ["yard", "wants", "until", "found"] ["yard", "wants", "until"] (zh0 zqi):=by walk_at"sc"
theorem ziw(M:Md K mg)(T:TopDef K "met_at" zqi)(jQ:mg "sum"=none)(I:Def P w K mg base "met_most" 7 ["yard", "wants", "until"] (spD K zug)):Def P w K mg base "met_at" 8 ["yard", "wants", "until"] (spD K zbj):=by
 refine zx2 M T zkk (by walk_at"h") (zy9 (by walk_at"i")) (zv2 ?_);walk_at"g";have nd:=zkk.nd;refine⟨_,_,(zd0 (pset 3 nd (zn0 I (rmn hr) rfl (za0 (pv 0) (za0 (pv 1) (za0 (pv 2) zg0)))))
   (zd0 (zv6 (zs0 (zf4 (K:=K) rfl (Room.units hr)) (pix w K hr (pv 3) ze0) (zp0 (zd2 (K:=K) rfl rfl) rfl jQ zrb (za0 (pv 1) zg0)) (zf1 _)) (zj0 (za1 (zq1 (za0 zi5 (za0 (pix w K hr (pv 3) ze0) zg0))))) zl1)
   (zj0 (za1 (zq1 (za0 zi5 (za0 (pix w K hr (pv 3) ze0) zg0))))))),(zl0 (zb1 (zu0 (zc0 (zi0 0) (zc0 (zi0 1) (zc0 (zi0 2) zm0)))) (rgn 3))
   (zl0 (zu6 (zr0 (zq2 q_eq (RfV.h (RfE.v (zk0 r_ix (zb0 3) rvi))) (RfV.h (RfE.v (zl5 zoq (zo0 (zb0 1) ze1)))))) (zi1 (RfE.c (zt2 (zc0 zf5 (zc0 (zk0 r_ix (zb0 3) rvi) zm0))))) zm1)
   (zi1 (RfE.c (zt2 (zc0 zf5 (zc0 (zk0 r_ix (zb0 3) rvi) zm0))))))),?_⟩
 rintro ds Qd ⟨vs,ps,ws,n,rfl,y,O,S,q⟩;walk_at"ds";walk_at"a";refine⟨vs,ps,ws,n,rfl,y,O,S,λM f side met u=>hJ _ ?_⟩;clear hJ;have p:=q M f side met u;walk_at"a";refine⟨_,rfl,ws,ints_map ws,?_⟩;walk_at"dd";refine two (λz=>⟨_,rfl,by rw[aH z,aH z]at p;exact p⟩) λz=>hJ _ ?_;clear hJ;walk_at"dd";exact⟨_,rfl,by rw[aF z,aF z]at p;exact p⟩
end
structure Pp where
 u:Nat
 v:Nat
 a:D
 b:D
 c:D
def Pp.d(p:Pp):D:=.tuple [nI p.u,nI p.v,p.a,p.b,p.c]
def tY(vs:List Va)(ps:List Pp)(ws:List Int):List Ar:=tA (vs.map Va.fill) (ps.map λp=>(p.u,p.v)) ws ((vs.map Va.fill).sum+1)
def IsCut(vs:List Va)(ps:List Pp)(ws:List Int)(r:D):Prop:=∃(L:List Int)(side:List Nat),Best (2+vs.length) (tY vs ps ws) (vY (tY vs ps ws).length 0) 0 1 L side /\
 r=if - bl (tY vs ps ws).length (aU (tY vs ps ws)) (aV (tY vs ps ws)) (λk=>lf L (2 * k+1)) 0=ws.sum then .none else .list (((u3 vs.length).filter λv=>decide (2+v ∉ side)).map nI)
structure ZOk(vs:List Va)(ps:List Pp)(ws:List Int):Prop where
 n1:1<=vs.length
 n2:vs.length<=12
 m2:ps.length<=24
 lw:ws.length=vs.length
 vf:∀v∈vs,0<=v.fill/\v.fill<=v.room
 wr:∀(k:Nat) v y,vs[k]?=some v->ws[k]?=some y->0<=y/\y<=v.room
 pb:∀p∈ps,p.u < vs.length/\p.v < vs.length
section
variable {vs:List Va}{ps:List Pp}{ws:List Int}
theorem zny{A:List Ar}{s t:Nat}(b:Best n A (vY A.length 0) s t L side):∀v,v≠s->v≠t->bal A.length (zt6 A) L v=0:=λv q p=>by rw[b.up.eqb v q p];exact zmr v
theorem ZOk.cut(y:ZOk vs ps ws)(b:Best n (tY vs ps ws) (vY (tY vs ps ws).length 0) 0 1 L side):Cut (vs.map Va.fill) (ps.map λp=>(p.u,p.v)) ws ((vs.map Va.fill).sum+1) (λk=>lf L (2 * k+1)):=by
 refine⟨by rw[u5];exact y.lw,λp B=>?_,b.within,λw J I=>?_⟩
 ·obtain⟨q,z,rfl⟩:=vV.mp B;rw[u5];exact y.pb q z
 ·have:=zny b w J I;rw[zpv]at this;exact this
theorem ZOk.fill(y:ZOk vs ps ws):∀x∈vs.map Va.fill,0<=x:=λx p=>by
 obtain⟨v,q,rfl⟩:=vV.mp p;exact(y.vf v q).1
theorem ZOk.wn(y:ZOk vs ps ws):∀x∈ws,0<=x:=λx p=>by
 obtain⟨k,q,rfl⟩:=zY p;have hl:=y.lw;exact(y.wr k vs[k] _ (u4 (by lia)) (u4 q)).1
theorem zi91:∀{l:List Int},(∀x∈l,0<=x)->0<=l.sum
|[],_=>by simp
|x :: r,h=>by have:=zi91 (l:=r) λy p=>h y (by simp[p]);have:=h x (by simp);rw[x8];lia
theorem ZOk.ar(y:ZOk vs ps ws):∀a∈tY vs ps ws,a.1 < 2+vs.length/\a.2.1 < 2+vs.length/\0<=a.2.2:=λa z=>by
 have hl:=y.lw;have J:=y.n1;unfold tY tA at z;rcases vX.mp z with z|z
 ·rcases vX.mp z with z|z
  ·obtain⟨i,hi,rfl⟩:=vV.mp z;rw[u9,u5]at hi;exact⟨by show 0 < _;lia,by show 2+i < _;lia,zo51 y.fill i⟩
  ·obtain⟨p,I,rfl⟩:=vV.mp z;obtain⟨q,B,rfl⟩:=vV.mp I;have:=y.pb q B;have:=zi91 y.fill;exact⟨by show 2+q.u < _;lia,by show 2+q.v < _;lia,by show 0<=(vs.map Va.fill).sum+1;lia⟩
 ·obtain⟨i,hi,rfl⟩:=vV.mp z;rw[u9]at hi;exact⟨by show 2+i < _;lia,by show 1 < _;lia,zo51 y.wn i⟩
theorem IsCut.some{r:D}(y:ZOk vs ps ws)(h:IsCut vs ps ws r):(r=.none/\∀S:List Nat,S.Nodup->(∀v∈S,v < vs.length)->(∀p∈ps,p.v∈S->p.u∈S)->(S.map λv=>fx ws v - fx (vs.map Va.fill) v).sum<=0) \/
  ∃l:List Nat,r=.list (l.map nI)/\l≠[]/\l.Pairwise (· < ·)/\(∀v∈l,v < vs.length)/\(∀p∈ps,p.v∈l->p.u∈l)/\0 < (l.map λv=>fx ws v - fx (vs.map Va.fill) v).sum:=by
 obtain⟨L,side,b,rfl⟩:=h;have c:=y.cut b;have hl:(vs.map Va.fill).length=vs.length:=u5 _;split
 ·rename_i e
  refine .inl ⟨rfl,λS nd Z cl=>c.short e nd (by rw[hl];exact Z) λp J I=>?_⟩;obtain⟨q,Y,rfl⟩:=vV.mp J;exact cl q Y I
 ·rename_i ne
  obtain⟨W,B⟩:=c.beyond (by lia) b.tight b.inn b.out (zw5 b.ris);have B:=B ne;rw[hl]at B;refine .inr ⟨_,rfl,λz=>?_,List.pairwise_lt_range.filter _,λv I=>u9.mp (xW.mp I).1,λp J I=>?_,B⟩
  ·rw[z]at B;simp at B
  ·obtain⟨_,O⟩:=xW.mp I;have O:=dB O;exact xW.mpr ⟨u9.mpr (y.pb p J).1,bW λh=>O (W (p.u,p.v) (vV.mpr ⟨p,J,rfl⟩) h)⟩
end
theorem zjs{p:Nat->Prop}[DecidablePred p]:∀l:List Nat,l.filterMap (λk=>if p k then some (nI k)else none)=(l.filter λk=>decide (p k)).map nI
|[]=>rfl
|k :: r=>by
  rw[xK,List.filter_cons,zjs r];by_cases h:p k <;> simp[h]
def zfo:DSp:=λds Q=>∃(A:List Ar)(L:List Int)(src:Nat),ds=[.list (A.map dAr),.list ((u3 A.length).map λk=>.int (lf L (2 * k+1))),nI src]/\A.length<=300/\Q (.int (- bl A.length (aU A) (aV A) (λk=>lf L (2 * k+1)) src))
def zyb:DSp:=λds Q=>∃(vs:List Va)(ps:List Pp)(ws:List Int),ds=[.tuple [.list (vs.map Va.d),.list (ps.map Pp.d)],.list (ws.map .int)]/\ZOk vs ps ws/\Q (.tuple [nI (2+vs.length),.list ((tY vs ps ws).map dAr)])
def zgk:DSp:=λds Q=>∃(vs:List Va)(ps:List Pp)(ws:List Int),ds=[.tuple [.list (vs.map Va.d),.list (ps.map Pp.d)],.list (ws.map .int)]/\ZOk vs ps ws/\∀r,IsCut vs ps ws r->Q r
section
variable {P:aN}{w:aP}{K:Fg}{mg:Str->Option aA}{base:aT}
theorem zpn:FnScope ["arcs", "flow", "source", "gone", "come"] ["arcs", "flow", "source"] (zh0 zyg):=by walk_at"sc"
theorem ziz(M:Md K mg)(T:TopDef K "worth" zyg)(jQ:mg "sum"=none)(uL:mg "zip"=none):Def P w K mg base "worth" 1 ["arcs", "flow", "source"] (spD K zfo):=by
 refine zx2 M T zpn (by walk_at"h") (zy9 (by walk_at"i")) (zv2 ?_);walk_at"g";have nd:=zpn.nd;refine⟨_,(dSeq (dAsg (dCB fSum (zw0 (dF (zxf (dZip (zw0 (zx0 0) (zw0 (zx0 1) dNil))) 2 [2] (gT 2 (zb5 (gN 0) (zb5 (gN 1) ztm))) (ze8 (dOp fEq (dOp fIx (zx0 0) (dC (.int 0))) (zx0 2))) (dVar 1))) dNil)) (gN 3))
   (dSeq (dAsg (dCB fSum (zw0 (dF (zxf (dZip (zw0 (zx0 0) (zw0 (zx0 1) dNil))) 2 [2] (gT 2 (zb5 (gN 0) (zb5 (gN 1) ztm))) (ze8 (dOp fEq (dOp fIx (zx0 0) (dC (.int 1))) (zx0 2))) (dVar 1))) dNil)) (gN 4))
   (dRet (cE (dOp fSub (zx0 3) (zx0 4)))))),(zd0 (pset 3 nd (zp0 (zd2 (K:=K) rfl rfl) rfl jQ zrb (za0 (zp2 (sc:=zh0 zyg) (N:=["arcs", "flow", "source", "gone", "come"]) (own:=["arc", "amount"]) (ix:=[2]) rfl rfl rfl (by walk_at"csc") (zv31 (K:=K) rfl rfl uL (za0 (pv 0) (za0 (pv 1) zg0))) (λ_ _ _ _=>⟨(zb7 (K:=K) (n:=2) rfl rfl (zp1 (pgn 0 (nds ["arc", "amount", "source"])) (zp1 (pgn 1 (nds ["arc", "amount", "source"])) za7))),(zid (zs0 (zf4 (K:=K) rfl (Room.units hr)) (pix w K hr (pv 0) ze0) (pv 2) (zf1 _))),(pv 1)⟩)) zg0)))
   (zd0 (pset 4 nd (zp0 (zd2 (K:=K) rfl rfl) rfl jQ zrb (za0 (zp2 (sc:=zh0 zyg) (N:=["arcs", "flow", "source", "gone", "come"]) (own:=["arc", "amount"]) (ix:=[2]) rfl rfl rfl (by walk_at"csc") (zv31 (K:=K) rfl rfl uL (za0 (pv 0) (za0 (pv 1) zg0))) (λ_ _ _ _=>⟨(zb7 (K:=K) (n:=2) rfl rfl (zp1 (pgn 0 (nds ["arc", "amount", "source"])) (zp1 (pgn 1 (nds ["arc", "amount", "source"])) za7))),(zid (zs0 (zf4 (K:=K) rfl (Room.units hr)) (pix w K hr (pv 0) ze0) (pv 2) (zf1 _))),(pv 1)⟩)) zg0)))
   (zj0 (za1 (zj1 zw9 (pv 3) (pv 4)))))),(zl0 (zb1 (zl5 zoq (zo0 (RfE.v (RfF.e (zr1 (zq31 (zo0 (zb0 0) (zo0 (zb0 1) ze1))) (zjc (zo1 (zh1 (i:=0) (n:=2) (by decide)) (zo1 (zh1 (i:=1) (n:=2) (by decide)) zw6))) (zr0 (zq2 q_eq (RfV.h (RfE.v (zk0 r_ix (zb0 0) rvi))) (RfV.h (zb0 2)))) (zi0 1)))) ze1)) (rgn 3))
   (zl0 (zb1 (zl5 zoq (zo0 (RfE.v (RfF.e (zr1 (zq31 (zo0 (zb0 0) (zo0 (zb0 1) ze1))) (zjc (zo1 (zh1 (i:=0) (n:=2) (by decide)) (zo1 (zh1 (i:=1) (n:=2) (by decide)) zw6))) (zr0 (zq2 q_eq (RfV.h (RfE.v (zk0 r_ix (zb0 0) rvi))) (RfV.h (zb0 2)))) (zi0 1)))) ze1)) (rgn 4))
   (zi1 (RfE.c (zk0 zyl (zb0 3) (zb0 4)))))),?_⟩
 rintro ds Qd ⟨A,L,src,rfl,O,q⟩;walk_at"ds";obtain⟨x1,I,s1⟩:=zlt (λk=>aU A k=src) (λk=>lf L (2 * k+1)) (u3 A.length);obtain⟨x2,z,s2⟩:=zlt (λk=>aV A k=src) (λk=>lf L (2 * k+1)) (u3 A.length);rw[zgz]at q;have u:zipD (A.map dAr) ((u3 A.length).map λk=>u6 (lf L (2 * k+1)))=(u3 A.length).map λk=>.tuple [.tuple [nI (aU A k),nI (aV A k),.int (zc9 A k)],.int (lf L (2 * k+1))]:=by
  rw[show((u3 A.length).map λk=>u6 (lf L (2 * k+1)))=((u3 A.length).map λk=>lf L (2 * k+1)).map u6 by rw[wE];rfl,zlp,zwm (by simp),wE];refine x6 λk p=>?_;have:fx ((u3 A.length).map λk=>lf L (2 * k+1)) k=lf L (2 * k+1):=by
   unfold fx;rw[u8,xI (u9.mp p)];rfl
  show xF [_,u6 (fx _ k)]=_;rw[this];rfl
 walk_at"a";rw[u];refine zoy (λk=>if aU A k=src then some (.int (lf L (2 * k+1)))else none) (by rw[aQ];simp;lia) (λk p=>?_) ?_
 ·walk_at"cs";walk_at"dd";walk_at"k";exact two (λh=>by rw[aH (by lia)]) λh=>by rw[aF (by lia)]
 rw[I];walk_at"dd";walk_at"b";rw[u];refine zoy (λk=>if aV A k=src then some (.int (lf L (2 * k+1)))else none) (by rw[aQ];simp;lia) (λk p=>?_) ?_
 ·walk_at"cs";walk_at"dd";walk_at"k";exact two (λh=>by rw[aH (by lia)]) λh=>by rw[aF (by lia)]
 rw[z];walk_at"dd";walk_at"f";walk_at"dd";rw[s1,s2];unfold sm at q;rw[Int.neg_sub]at q;exact q
theorem zhd:FnScope ["yard", "wants", "wide", "arcs"] ["yard", "wants"] (zh0 zv3):=by walk_at"sc"
theorem zzl(M:Md K mg)(T:TopDef K "timeless" zv3)(jF:mg "enumerate"=none)(jQ:mg "sum"=none)(O:Def P w K mg base "node" 1 ["yard", "moment", "vat"] (spD K zx5))(g_SOURCE:mg "SOURCE"=some gv_SOURCE)(z:RelV (.int 0) gv_SOURCE)(g_SINK:mg "SINK"=some gv_SINK)(I:RelV (.int 1) gv_SINK):Def P w K mg base "timeless" 2 ["yard", "wants"] (spD K zyb):=by
 refine zx2 M T zhd (by walk_at"h") (zy9 (by walk_at"i")) (zv2 ?_);walk_at"g";have nd:=zhd.nd;refine⟨_,(dSeq (dAsg (dOp fAdd (dCB fSum (zw0 (dF (zxf (dIt (dOp fIx (zx0 0) (dC (.int 0)))) 1 [] (gN 0) zki (dOp fIx (zx0 0) (dC (.int 2))))) dNil)) (dC (.int 1))) (gN 2))
   (dSeq (dSet 3 (cF (zxf (zut (zw0 (dOp fIx (zx0 0) (dC (.int 0))) dNil)) 2 [0] (gT 2 (zb5 (gN 0) (zb5 (gN 1) ztm))) zki (dTup (zw0 (dC (.int 0)) (zw0 (zga zx5 (zw0 (dVar 2) (zw0 (dC (.int 0)) (zw0 (dVar 0) dNil)))) (zw0 (dOp fIx (zx0 1) (dC (.int 2))) dNil)))))))
   (dSeq (zxl (cBM "list" mExt (pVar 3) (zw0 (dF (zxf (dIt (dOp fIx (zx0 0) (dC (.int 1)))) 1 [2,0] (gN 0) zki (dTup (zw0 (zga zx5 (zw0 (dVar 2) (zw0 (dC (.int 0)) (zw0 (dOp fIx (zx0 0) (dC (.int 0))) dNil)))) (zw0 (zga zx5 (zw0 (dVar 2) (zw0 (dC (.int 0)) (zw0 (dOp fIx (zx0 0) (dC (.int 1))) dNil)))) (zw0 (dVar 1) dNil)))))) dNil)))
   (dSeq (zxl (cBM "list" mExt (pVar 3) (zw0 (dF (zxf (zut (zw0 (zx0 1) dNil)) 2 [0] (gT 2 (zb5 (gN 0) (zb5 (gN 1) ztm))) zki (dTup (zw0 (zga zx5 (zw0 (dVar 2) (zw0 (dC (.int 0)) (zw0 (dVar 0) dNil)))) (zw0 (dC (.int 1)) (zw0 (dVar 1) dNil)))))) dNil)))
   (dFrz 3 [] (dRet (cE (dTup (zw0 (zga zx5 (zw0 (dVar 0) (zw0 (dC (.int 1)) (zw0 (dC (.int 0)) dNil)))) (zw0 (dVar 3) dNil)))))))))),(zd0 (pset 2 nd (zj1 (zk1 (K:=K) rfl) (zp0 (zd2 (K:=K) rfl rfl) rfl jQ zrb (za0 (zp2 (sc:=zh0 zv3) (N:=["yard", "wants", "wide", "arcs"]) (own:=["vat"]) (ix:=[]) rfl rfl rfl (by walk_at"csc") (pi_W (K:=K) rfl (pix w K hr (pv 0) ze0)) (λ_ _ _ _=>⟨(pgn 0 (nds ["vat"])),zx1,(pix w K hr (pv 0) ze0)⟩)) zg0)) ze0))
   (zd0 (zf3 (i:=3) (sc:=zh0 zv3) (N:=["yard", "wants", "wide", "arcs"]) (own:=["vat", "told"]) (ix:=[0]) rfl rfl rfl (by walk_at"csc") nd rfl rfl (zpa (K:=K) rfl rfl jF (za0 (pix w K hr (pv 0) ze0) zg0)) (λ_ _ _ _=>⟨(zb7 (K:=K) (n:=2) rfl rfl (zp1 (pgn 0 (nds ["vat", "told", "yard"])) (zp1 (pgn 1 (nds ["vat", "told", "yard"])) za7))),zx1,(zq1 (za0 (zl6 rfl g_SOURCE z) (za0 (zn0 O (rmn hr) rfl (za0 (pv 2) (za0 ze0 (za0 (pv 0) zg0)))) (za0 (pix w K hr (pv 1) ze0) zg0))))⟩))
   (zd0 (zk2 (zy8 (K:=K) rfl ğa ğd ğe (zs5 (K:=K) rfl) (pv 3) (za0 (zp2 (sc:=zh0 zv3) (N:=["yard", "wants", "wide", "arcs"]) (own:=["pipe"]) (ix:=[2,0]) rfl rfl rfl (by walk_at"csc") (pi_W (K:=K) rfl (pix w K hr (pv 0) ze0)) (λ_ _ _ _=>⟨(pgn 0 (nds ["pipe", "wide", "yard"])),zx1,(zq1 (za0 (zn0 O (rmn hr) rfl (za0 (pv 2) (za0 ze0 (za0 (pix w K hr (pv 0) ze0) zg0)))) (za0 (zn0 O (rmn hr) rfl (za0 (pv 2) (za0 ze0 (za0 (pix w K hr (pv 0) ze0) zg0)))) (za0 (pv 1) zg0))))⟩)) zg0)))
   (zd0 (zk2 (zy8 (K:=K) rfl ğa ğd ğe (zs5 (K:=K) rfl) (pv 3) (za0 (zp2 (sc:=zh0 zv3) (N:=["yard", "wants", "wide", "arcs"]) (own:=["vat", "want"]) (ix:=[0]) rfl rfl rfl (by walk_at"csc") (zpa (K:=K) rfl rfl jF (za0 (pv 1) zg0)) (λ_ _ _ _=>⟨(zb7 (K:=K) (n:=2) rfl rfl (zp1 (pgn 0 (nds ["vat", "want", "yard"])) (zp1 (pgn 1 (nds ["vat", "want", "yard"])) za7))),zx1,(zq1 (za0 (zn0 O (rmn hr) rfl (za0 (pv 2) (za0 ze0 (za0 (pv 0) zg0)))) (za0 (zl6 rfl g_SINK I) (za0 (pv 1) zg0))))⟩)) zg0)))
   (zj0 (za1 (zq1 (za0 (zn0 O (rmn hr) rfl (za0 (pv 0) (za0 ze0 (za0 ze0 zg0)))) (za0 (pv 3) zg0))))))))),(zl0 (zb1 (zk0 zg8 (RfE.v (zl5 zoq (zo0 (RfE.v (RfF.e (zr1 (zsm (RfE.v (zk0 r_ix (zb0 0) rvi))) (zh1 (i:=0) (n:=1) (by decide)) zm2 (zk0 r_ix (zb0 0) rvi)))) ze1))) rvi) (rgn 2))
   (zl0 (zi4 (RfF.c (zr1 (zvd (zo0 (RfE.v (zk0 r_ix (zb0 0) rvi)) ze1)) (zjc (zo1 (zh1 (i:=0) (n:=2) (by decide)) (zo1 (zh1 (i:=1) (n:=2) (by decide)) zw6))) zm2 (zt2 (zc0 zn1 (zc0 (zu0 (zc0 (zi0 2) (zc0 zn1 (zc0 (zi0 0) zm0)))) (zc0 (zk0 r_ix (zb0 1) rvi) zm0)))))))
   (zl0 (zl2 (zhj zpm (zv0 3) (zc0 (RfF.e (zr1 (zsm (RfE.v (zk0 r_ix (zb0 0) rvi))) (zh1 (i:=0) (n:=1) (by decide)) zm2 (zt2 (zc0 (zu0 (zc0 (zi0 2) (zc0 zn1 (zc0 (zk0 r_ix (zb0 0) rvi) zm0)))) (zc0 (zu0 (zc0 (zi0 2) (zc0 zn1 (zc0 (zk0 r_ix (zb0 0) rvi) zm0)))) (zc0 (zi0 1) zm0)))))) zm0)))
   (zl0 (zl2 (zhj zpm (zv0 3) (zc0 (RfF.e (zr1 (zvd (zo0 (zb0 1) ze1)) (zjc (zo1 (zh1 (i:=0) (n:=2) (by decide)) (zo1 (zh1 (i:=1) (n:=2) (by decide)) zw6))) zm2 (zt2 (zc0 (zu0 (zc0 (zi0 2) (zc0 zn1 (zc0 (zi0 0) zm0)))) (zc0 zn1 (zc0 (zi0 1) zm0)))))) zm0)))
   (zbd 3 [] (zi1 (RfE.c (zt2 (zc0 (zu0 (zc0 (zi0 0) (zc0 zn1 (zc0 zn1 zm0)))) (zc0 (zi0 3) zm0)))))))))),?_⟩
 rintro ds Qd ⟨vs,ps,ws,rfl,y,q⟩;have hn:=y.n2;have hm:=y.m2;have hw:=y.lw;walk_at"ds";walk_at"a";walk_at"k";refine zof (λv=>.int v.fill) (by rw[aQ];lia) (λv hv=>?_) ?_
 ·unfold Va.d;walk_at"cs";walk_at"dd";exact⟨_,rfl,rfl⟩
 have W:zpd (vs.map λv=>u6 v.fill)=some (vs.map Va.fill):=by
  rw[show(vs.map λv=>u6 v.fill)=(vs.map Va.fill).map u6 by rw[wE];rfl];exact ints_map _
 rw[W];walk_at"dd";walk_at"b";walk_at"k";rw[zv5];refine zof (λp=>dAr (0,2+p.1,p.2.fill)) (by rw[aQ,y0];lia) (λp S=>?_) ?_
 ·obtain⟨i,v⟩:=p;unfold Va.d;walk_at"cs";walk_at"dd";exact⟨vs,_,0,i,rfl,by lia,by lia,_,rfl,by simp[dAr,nI]⟩
 walk_at"f";have e1:(vs.mapIdx λi x=>(i,x)).map (λp=>dAr (0,2+p.1,p.2.fill))=((u3 (vs.map Va.fill).length).map λi=>((0,2+i,fx (vs.map Va.fill) i):Ar)).map dAr:=by
  rw[wE,u5];apply yE;intro j;rw[u8,u8,xS];by_cases h:j < vs.length
  ·rw[xI h,u4 h];show some (dAr (0,2+j,vs[j].fill))=some (dAr (0,2+j,fx (vs.map Va.fill) j));unfold fx;rw[u8,u4 h];rfl
  ·rw[wG (by lia),wG (by simpa using h)];rfl
 rw[e1];walk_at"a";walk_at"k";refine zof (λp=>dAr (2+p.u,2+p.v,(vs.map Va.fill).sum+1)) (by rw[aQ];lia) (λp S=>?_) ?_
 ·unfold Pp.d;walk_at"cs";walk_at"dd";exact⟨_,rfl,vs,_,0,p.u,rfl,by lia,by lia,_,rfl,vs,_,0,p.v,rfl,by lia,by lia,by simp[dAr,nI]⟩
 refine⟨by simp;lia,hJ _ ?_⟩;clear hJ;have Z:ps.map (λp=>dAr (2+p.u,2+p.v,(vs.map Va.fill).sum+1))=((ps.map λp=>(p.u,p.v)).map λp=>((2+p.1,2+p.2,(vs.map Va.fill).sum+1):Ar)).map dAr:=by
  rw[wE,wE];rfl
 rw[Z,<- wH];walk_at"a";rw[zv5];refine zof (λp=>dAr (2+p.1,1,p.2)) (by rw[aQ,y0];lia) (λp S=>?_) ?_
 ·obtain⟨i,x⟩:=p;walk_at"cs";walk_at"dd";exact⟨vs,_,0,i,rfl,by lia,by lia,by simp[dAr,nI]⟩
 refine⟨by simp;lia,hJ _ ?_⟩;clear hJ;have Y:(ws.mapIdx λi x=>(i,x)).map (λp=>dAr (2+p.1,1,p.2))=((u3 ws.length).map λi=>((2+i,1,fx ws i):Ar)).map dAr:=by
  rw[wE];apply yE;intro j;rw[u8,u8,xS];by_cases h:j < ws.length
  ·rw[xI h,u4 h];show some (dAr (2+j,1,ws[j]))=some (dAr (2+j,1,fx ws j));unfold fx;rw[u4 h];rfl
  ·rw[wG (by lia),wG (by simpa using h)];rfl
 rw[Y,<- wH];walk_at"dd";refine⟨_,_,rfl,rfl,vs,_,1,0,rfl,by lia,by lia,?_⟩;rw[show 2+1 * vs.length+0=2+vs.length by lia];exact q
theorem zdg:FnScope ["yard", "wants", "told", "found"] ["yard", "wants"] (zh0 zhb):=by walk_at"sc"
theorem zzm(M:Md K mg)(T:TopDef K "cut_off" zhb)(jK:mg "len"=none)(jH:mg "range"=none)(jQ:mg "sum"=none)(W:Def P w K mg base "worth" 1 ["arcs", "flow", "source"] (spD K zfo))(Z:DefN P w K mg base "greatest" 4 ["count", "arcs", "source", "sink", "flow"] (spD K zk9))(jR:Def P w K mg base "node" 1 ["yard", "moment", "vat"] (spD K zx5))(Y:Def P w K mg base "timeless" 2 ["yard", "wants"] (spD K zyb))(g_SOURCE:mg "SOURCE"=some gv_SOURCE)(p:RelV (.int 0) gv_SOURCE)(g_SINK:mg "SINK"=some gv_SINK)(u:RelV (.int 1) gv_SINK):Def P w K mg base "cut_off" 5 ["yard", "wants"] (spD K zgk):=by
 refine zx2 M T zdg (by walk_at"h") (zy9 (by walk_at"i")) (zv2 ?_);walk_at"g";have nd:=zdg.nd;refine⟨_,(dSeq (dAsg (zga zyb (zw0 (dVar 0) (zw0 (dVar 1) dNil))) (gN 2))
   (dSeq (dAsg (zs21 zk9 (zw0 (dOp fIx (zx0 2) (dC (.int 0))) (zw0 (dOp fIx (zx0 2) (dC (.int 1))) (zw0 (dC (.int 0)) (zw0 (dC (.int 1)) dNil))))) (gN 3))
   (dSeq (dIf (ze8 (dOp fEq (zga zfo (zw0 (dOp fIx (zx0 2) (dC (.int 1))) (zw0 (dOp fIx (zx0 3) (dC (.int 0))) (zw0 (dC (.int 0)) dNil)))) (dCB fSum (zw0 (zx0 1) dNil)))) (dRet (cE (dC .none))) zfe)
   (dRet (cF (zxf (zx01 (zw0 (dCB fLen (zw0 (dOp fIx (zx0 0) (dC (.int 0))) dNil)) dNil)) 1 [0,3] (gN 0) (ze8 (dOp (fIn true) (zga zx5 (zw0 (dVar 1) (zw0 (dC (.int 0)) (zw0 (dVar 0) dNil)))) (dOp fIx (zx0 2) (dC (.int 1))))) (dVar 0))))))),(zd0 (pset 2 nd (zn0 Y (rmn hr) rfl (za0 (pv 0) (za0 (pv 1) zg0))))
   (zd0 (pset 3 nd (zsq Z (rmn hr) rfl (za0 (pix w K hr (pv 2) ze0) (za0 (pix w K hr (pv 2) ze0) (za0 (zl6 rfl g_SOURCE p) (za0 (zl6 rfl g_SINK u) zg0))))))
   (zd0 (zv6 (zs0 (zf4 (K:=K) rfl (Room.units hr)) (zn0 W (rmn hr) rfl (za0 (pix w K hr (pv 2) ze0) (za0 (pix w K hr (pv 3) ze0) (za0 (zl6 rfl g_SOURCE p) zg0)))) (zp0 (zd2 (K:=K) rfl rfl) rfl jQ zrb (za0 (pv 1) zg0)) (zf1 _)) (zj0 (za1 zzg)) zl1)
   (zj0 (za1 (zp2 (sc:=zh0 zhb) (N:=["yard", "wants", "told", "found"]) (own:=["vat"]) (ix:=[0,3]) rfl rfl rfl (by walk_at"csc") (zy1 rfl jH (za0 (zp0 (zg1 (K:=K) rfl) rfl jK zg4 (za0 (pix w K hr (pv 0) ze0) zg0)) zg0)) (λ_ _ _ _=>⟨(pgn 0 (nds ["vat", "yard", "found"])),(zid (zs0 (zjb (w:=w) (K:=K) (Room.units hr) rfl rfl) (zn0 jR (rmn hr) rfl (za0 (pv 1) (za0 ze0 (za0 (pv 0) zg0)))) (pix w K hr (pv 2) ze0) (by with_unfolding_all rfl))),(pv 0)⟩))))))),(zl0 (zb1 (zu0 (zc0 (zi0 0) (zc0 (zi0 1) zm0))) (rgn 2))
   (zl0 (zb1 (zeo (zc0 (zk0 r_ix (zb0 2) rvi) (zc0 (zk0 r_ix (zb0 2) rvi) (zc0 zn1 (zc0 zn1 zm0))))) (rgn 3))
   (zl0 (zu6 (zr0 (zq2 q_eq (RfV.h (RfE.v (zu0 (zc0 (zk0 r_ix (zb0 2) rvi) (zc0 (zk0 r_ix (zb0 3) rvi) (zc0 zn1 zm0)))))) (RfV.h (RfE.v (zl5 zoq (zo0 (zb0 1) ze1)))))) (zi1 (RfE.c zyf)) zm1)
   (zi1 (RfF.c (zr1 (RfI.j (zk6 (zc0 (zl5 zvc (zo0 (RfE.v (zk0 r_ix (zb0 0) rvi)) ze1)) zm0))) (zh1 (i:=0) (n:=1) (by decide)) (zr0 (zk0 znx (RfE.v (zu0 (zc0 (zi0 1) (zc0 zn1 (zc0 (zi0 0) zm0))))) (RfE.v (zk0 r_ix (zb0 2) rvi)))) (zi0 0))))))),?_⟩
 rintro ds Qd ⟨vs,ps,ws,rfl,y,q⟩;have hn:=y.n2;have hm:=y.m2;have hw:=y.lw;walk_at"ds";walk_at"a";refine⟨vs,ps,ws,rfl,y,hJ _ ?_⟩;clear hJ;have hA:(tY vs ps ws).length<=48:=by unfold tY;rw[zse,u5,u5];lia
 have ar:=y.ar;have O:∀L side,Best (2+vs.length) (tY vs ps ws) (vY (tY vs ps ws).length 0) 0 1 L side->IsCut vs ps ws (if - bl (tY vs ps ws).length (aU (tY vs ps ws)) (aV (tY vs ps ws)) (λk=>lf L (2 * k+1)) 0=ws.sum then .none else .list (((u3 vs.length).filter λv=>decide (2+v ∉ side)).map nI)):=λL side b=>⟨L,side,b,rfl⟩
 generalize hG:tY vs ps ws=A at hA ar O;walk_at"a";refine⟨_,rfl,_,rfl,2+vs.length,A,0,1,.none,vY A.length 0,rfl,.inl ⟨rfl,rfl⟩,yR,by lia,by lia,λa S=>⟨(ar a S).1,(ar a S).2.1⟩,λk a x h1 I=>?_,by lia,by lia,by decide,λL side b=>hJ _ ?_⟩
 ·rw[xO]at I;split at I
  ·cases I;exact⟨by lia,(ar a (wJ h1)).2.2⟩
  ·cases I
 clear hJ;have z:=O L side b;have hsd:=zy0 _ side (zw5 b.ris) b.bd;walk_at"a";refine⟨_,rfl,_,rfl,A,L,0,rfl,by lia,ws,ints_map ws,?_⟩;walk_at"dd";refine two (λh=>?_) λh=>hJ _ ?_
 ·rw[aH h]at z;exact q _ z
 clear hJ;rw[aF h]at z;walk_at"dd";walk_at"k";rw[u5];refine⟨by lia,by lia,?_⟩;rw[v6];unfold rngD;refine zoy (λk=>if 2+k ∉ side then some (nI k)else none) (by rw[aQ];simp;lia) (λk hk=>?_) ?_
 ·walk_at"cs";walk_at"dd";rw[show(0:Int)+(k:Int)=(k:Int) by lia];refine⟨vs,_,0,k,rfl,by lia,by lia,_,rfl,?_⟩;have i1:((side.map nI).any λy=>eqF y (.int ((2+0 * vs.length+k:Nat):Int)))=decide (2+0 * vs.length+k∈side):=zrv _ _;have i2:2+0 * vs.length+k=2+k:=by lia
  walk_at"dd";rw[i1,i2];refine⟨zzr side,two (λh=>?_) λh=>?_⟩
  ·rw[aH (by simpa using h)]
  ·rw[aF (by simpa using h)]
 rw[zjs];exact q _ z
end
def Pi.pp(p:Pi):Pp:=⟨p.u,p.v,.int (p.len:Int),.int p.pr,p.g.d⟩
def zbe:DSp:=λds Q=>∃(vs:List Va)(ps:List Pi)(ws:List Int)(l:Nat)(f:Fm),ds=[dY vs ps,.list (ws.map .int),.int (l:Int),.list ((zya ps l f.g l).map Le.d)]/\YOk vs ps ws/\l<=60/\(l+1) * vs.length<=61/\Met vs ps ws l ws.sum f /\
 ∀m f pt,m<=l->Met vs ps ws m ws.sum f->Q (.tuple [.str "met",.int (m:Int),.list ((zya ps m f.g m).map Le.d),pt])
def zek:DSp:=λds Q=>∃(vs:List Va)(ps:List Pi)(ws:List Int)(l:Nat),ds=[dY vs ps,.list (ws.map .int),.int (l:Int)]/\YOk vs ps ws/\ZOk vs (ps.map Pi.pp) ws/\l<=60/\(l+1) * vs.length<=61 /\
 (IsCut vs (ps.map Pi.pp) ws .none->∀M side,Ovr vs ps ws l M side->M < ws.sum->False) /\
 (∀r:List Nat,IsCut vs (ps.map Pi.pp) ws (.list (r.map nI))->Q (.tuple [.str "never",.list (r.map nI)])) /\
 ∀m f pt,m<=l->Met vs ps ws m ws.sum f->Q (.tuple [.str "met",.int (m:Int),.list ((zya ps m f.g m).map Le.d),pt])
theorem Met.lt{vs:List Va}{ps:List Pi}{ws:List Int}{f:Fm}(h:Met vs ps ws n M f)(hl:ws.length=vs.length)(ne:M≠ws.sum):M < ws.sum:=by
 have:=h.val.le;rw[zaw,hl];rw[zaw,hl]at ne;exact Int.lt_iff_le_and_ne.mpr ⟨this,ne⟩
section
variable {P:aN}{w:aP}{K:Fg}{mg:Str->Option aA}{base:aT}
theorem zgc:FnScope ["yard", "wants", "last", "plan", "met", "shut", "part", "middle", "found"] ["yard", "wants", "last", "plan"] (zh0 zha):=by walk_at"sc"
theorem zfi(M:Md K mg)(T:TopDef K "first_met" zha)(Y:Def P w K mg base "met_at" 8 ["yard", "wants", "until"] (spD K zbj)):Def P w K mg base "first_met" 9 ["yard", "wants", "last", "plan"] (spD K zbe):=by
 refine zx2 M T zgc (by walk_at"h") (zy9 (by walk_at"i")) (zv2 ?_);walk_at"g";have nd:=zgc.nd;refine⟨_,_,(zd0 (pset 4 nd (pv 2))
   (zd0 (pset 5 nd (zgj1 zfe1 ze0))
   (zd0 (pset 6 nd (zc3 zg0))
   (zd0 (zv9 aW (zs0 zxt (zj1 zw9 (pv 4) (pv 5)) ze0 (zf1 _)) (zd0 (pset 7 nd (zj1 zv1 (zj1 (zk1 (K:=K) rfl) (pv 4) (pv 5)) ze0))
   (zd0 (pset 8 nd (zn0 Y (rmn hr) rfl (za0 (pv 0) (za0 (pv 1) (za0 (pv 7) zg0)))))
   (zj0 (zv6 (zs0 (zf4 (K:=K) rfl (Room.units hr)) (pix w K hr (pv 8) ze0) zi5 (zf1 _)) (zd0 (pset 4 nd (pv 7))
   (zj0 (pset 3 nd (pix w K hr (pv 8) ze0)))) (zd0 (pset 5 nd (pv 7))
   (zj0 (pset 6 nd (pix w K hr (pv 8) ze0)))))))))
   (zj0 (za1 (zq1 (za0 zi5 (za0 (pv 4) (za0 (pv 3) (za0 (pv 6) zg0))))))))))),(zl0 (zb1 (zi0 2) (rgn 4))
   (zl0 (zb1 (zke1 zn1) (rgn 5))
   (zl0 (zb1 (RfF.e (zb8 zm0)) (rgn 6))
   (zl0 (zca (zr0 (zk0 r_gt (RfE.v (zk0 zyl (zb0 4) (zb0 5))) rvi)) (zl0 (zb1 (zk0 znh (RfE.v (zk0 zg8 (zb0 4) (zb0 5))) rvi) (rgn 7))
   (zl0 (zb1 (zu0 (zc0 (zi0 0) (zc0 (zi0 1) (zc0 (zi0 7) zm0)))) (rgn 8))
   (zu6 (zr0 (zq2 q_eq (RfV.h (RfE.v (zk0 r_ix (zb0 8) rvi))) (RfV.h (RfE.v zf5)))) (zl0 (zb1 (zi0 7) (rgn 4))
   (zb1 (zk0 r_ix (zb0 8) rvi) (rgn 3))) (zl0 (zb1 (zi0 7) (rgn 5))
   (zb1 (zk0 r_ix (zb0 8) rvi) (rgn 6)))))))
   (zi1 (RfE.c (zt2 (zc0 zf5 (zc0 (zi0 4) (zc0 (zi0 3) (zc0 (zi0 6) zm0))))))))))),?_⟩
 rintro ds Qd ⟨vs,ps,ws,l,f,rfl,y,hl,hN,Z,q⟩;walk_at"ds";walk_at"dn";walk_at"dn";walk_at"dn";refine zf0 λJ hJ=>?_;refine⟨λμ U=>∃(m:Nat)(s:Int)(f:Fm)(pt:D)(O I:Sl),μ=((m:Int) - s).toNat/\m<=l/\-1<=s/\s < (m:Int)/\Met vs ps ws m ws.sum f/\U=[.sh (dY vs ps),.sh (.list (ws.map .int)),.sh (.int (l:Int)),.sh (.list ((zya ps m f.g m).map Le.d)),.sh (.int (m:Int)),.sh (.int s),.sh pt,O,I],⟨_,l,-1,f,_,.un,.un,rfl,u7 _,by lia,by lia,Z,rfl⟩,?_⟩;rintro μ U ⟨m,s,f,pt,O,I,rfl,S,h2,h3,met,rfl⟩;walk_at"dd";refine two (λz=>?_) λz=>hJ _ ?_
 ·walk_at"c";walk_at"f";obtain⟨h,W⟩:=xV (show 0<=((m:Int)+s) / 2 by lia);have e1:s < (h:Int):=by lia
  have e2:(h:Int) < (m:Int):=by lia
  rw[W];clear W;have u:(h+1) * vs.length<=61:=wX (yM _ (by lia)) hN;walk_at"a";refine⟨vs,ps,ws,h,rfl,y,by lia,u,λM f' side p ovr=>hJ _ ?_⟩;clear hJ;by_cases e:M=ws.sum
  ·subst e;rw[aH rfl,aH rfl];walk_at"dd";walk_at"k";walk_at"dn";walk_at"dd";exact⟨_,rfl,((h:Int) - s).toNat,by lia,h,s,f',pt,_,_,rfl,by lia,h2,by lia,p,rfl⟩
  ·rw[aF e,aF e];walk_at"dd";walk_at"k";rw[aF (by decide +kernel)];walk_at"dn";walk_at"dd";exact⟨_,rfl,((m:Int) - (h:Int)).toNat,by lia,m,(h:Int),f,_,_,_,rfl,S,by lia,e2,met,rfl⟩
 ·clear hJ;walk_at"dd";exact q m f pt S met
theorem zbg:FnScope ["yard", "wants", "last", "vats", "found"] ["yard", "wants", "last"] (zh0 zbf):=by walk_at"sc"
theorem zdr(M:Md K mg)(T:TopDef K "soonest" zbf)(O:Def P w K mg base "met_at" 8 ["yard", "wants", "until"] (spD K zbj))(z:Def P w K mg base "cut_off" 5 ["yard", "wants"] (spD K zgk))(I:Def P w K mg base "first_met" 9 ["yard", "wants", "last", "plan"] (spD K zbe)):Def P w K mg base "soonest" 10 ["yard", "wants", "last"] (spD K zek):=by
 refine zx2 M T zbg (by walk_at"h") (zy9 (by walk_at"i")) (zv2 ?_);walk_at"g";have nd:=zbg.nd;refine⟨_,_,(zd0 (pset 3 nd (zn0 z (rmn hr) rfl (za0 (pv 0) (za0 (pv 1) zg0))))
   (zd0 (zv6 (zs0 zir (pv 3) zzg (zf1 _)) (zj0 (za1 (zq1 (za0 zi5 (za0 (pv 3) zg0))))) zl1)
   (zd0 (pset 4 nd (zn0 O (rmn hr) rfl (za0 (pv 0) (za0 (pv 1) (za0 (pv 2) zg0)))))
   (zd0 (zv6 (zs0 (zf4 (K:=K) rfl (Room.units hr)) (pix w K hr (pv 4) ze0) zi5 (zf1 _)) (zj0 (za1 (zq1 (za0 zi5 (za0 (pix w K hr (pv 4) ze0) zg0))))) zl1)
   (zj0 (za1 (zn0 I (rmn hr) rfl (za0 (pv 0) (za0 (pv 1) (za0 (pv 2) (za0 (pix w K hr (pv 4) ze0) zg0))))))))))),(zl0 (zb1 (zu0 (zc0 (zi0 0) (zc0 (zi0 1) zm0))) (rgn 3))
   (zl0 (zu6 (zr0 (zk0 zyz (zb0 3) (RfE.v zyf))) (zi1 (RfE.c (zt2 (zc0 zf5 (zc0 (zi0 3) zm0))))) zm1)
   (zl0 (zb1 (zu0 (zc0 (zi0 0) (zc0 (zi0 1) (zc0 (zi0 2) zm0)))) (rgn 4))
   (zl0 (zu6 (zr0 (zq2 q_eq (RfV.h (RfE.v (zk0 r_ix (zb0 4) rvi))) (RfV.h (RfE.v zf5)))) (zi1 (RfE.c (zt2 (zc0 zf5 (zc0 (zk0 r_ix (zb0 4) rvi) zm0))))) zm1)
   (zi1 (RfE.c (zu0 (zc0 (zi0 0) (zc0 (zi0 1) (zc0 (zi0 2) (zc0 (zk0 r_ix (zb0 4) rvi) zm0))))))))))),?_⟩
 rintro ds Qd ⟨vs,ps,ws,l,rfl,y,q,hl,u,no,W,S⟩;have Y:ps.map Pi.d=(ps.map Pi.pp).map Pp.d:=by rw[wE];rfl
 walk_at"ds";walk_at"a";refine⟨vs,ps.map Pi.pp,ws,by unfold dY;rw[Y],q,λr hr=>hJ _ ?_⟩;clear hJ;rcases IsCut.some q hr with⟨rfl,_⟩|⟨r,rfl,_⟩
 ·walk_at"a";walk_at"b";refine⟨vs,ps,ws,l,rfl,y,hl,u,λM f side met p=>hJ _ ?_⟩;clear hJ;have e:M=ws.sum:=Classical.byContradiction λe=>no hr M side p (met.lt y.lw e);subst e;rw[aH rfl,aH rfl];walk_at"a";walk_at"k";rw[aF (by decide +kernel)];walk_at"f";walk_at"dd";exact⟨_,rfl,vs,ps,ws,l,f,rfl,y,hl,u,met,S⟩
 ·walk_at"a";exact W r hr
end
theorem ga(h:List Int)(v:Nat)(p:v < h.length):atI (h.map u6) ((v:Nat):Int)=some (.int (h.getD v 0)):=zxc (by lia) (by rw[v6,u8,v4,u4 p];rfl)
theorem gm{α:Type}{l:List α}(f:α->D){x:α}(h:l[i]?=some x):atI (l.map f) ((i:Nat):Int)=some (f x):=zxc (by lia) (by rw[v6,u8,h];rfl)
def zq7:DSp:=λds Q=>∃(ns:List Int)(k:Nat),ds=[.list (ns.map .int),.int (k:Int)]/\k<=1000/\∀m:Int,Q (.int m)
def zb2:DSp:=λds Q=>∃i:Int,ds=[.int i]/\Q (.bool true)
def Sms(n:Nat)(l:List Int):Prop:=l.length=n/\∀x∈l,0<=x/\x < 100000000000
def zqg:DSp:=λds Q=>∃(cs:List Int)(n:Nat),ds=[.list (cs.map .int),.int (n:Int)]/\cs.length<=80/\1<=n/\n<=4/\∀l,Sms n l->Q (.list (l.map .int))
def zja:DSp:=λds Q=>∃(g:Gt)(m:Nat),ds=[g.d,.int (m:Int)]/\g.ok/\Q (.int (g.at m))
def zpl:Gt->Nat
|.la _ f=>f
|_=>0
def Gw(g:Gt):Prop:=g.okk/\(∀m,g.at m<=100000000000)/\zpl g<=2/\∀m,zpl g<=m->1<=g.at m
def Px(n:Nat)(p:Pi):Prop:=PiOk n p/\p.len<=2/\Gw p.g
def zrg:DSp:=λds Q=>∃(c:Int)(n:Nat),ds=[.int c,.int (n:Int)]/\2<=n/\n<=3/\∀p:Pi,Px n p->Q p.d
structure Yw(fl:List Int)(ps:List Pi):Prop where
 n1:1<=fl.length
 n3:fl.length<=3
 f:∀x∈fl,0<=x/\x < 100000000000
 m4:ps.length<=4
 p:∀p∈ps,PiOk fl.length p/\p.len<=3/\∀m,p.g.at m<=100000000000
section
variable {P:aN}{w:aP}{K:Fg}{mg:Str->Option aA}{base:aT}
theorem zl8:FnScope ["script", "k"] ["script", "k"] (zh0 za6):=by walk_at"sc"
theorem zcd(M:Md K mg)(T:TopDef K "_law_cell_at" za6)(jK:mg "len"=none):Def P w K mg base "_law_cell_at" 1 ["script", "k"] (spD K zq7):=by
 refine zx2 M T zl8 (by walk_at"h") (zy9 (by walk_at"i")) (zv2 ?_);walk_at"g";have nd:=zl8.nd;refine⟨_,_,(zd0 (zv6 (zs0 zov (pv 1) (zp0 (zg1 (K:=K) rfl) rfl jK zg4 (za0 (pv 0) zg0)) (zf1 _)) (zj0 (za1 (pix w K hr (pv 0) (pv 1)))) zl1)
   (zj0 (za1 ze0))),(zl0 (zu6 (zr0 (zk0 r_lt (zb0 1) (RfE.v (zl5 zvc (zo0 (zb0 0) ze1))))) (zi1 (RfE.c (zk0 r_ix (zb0 0) (zb0 1)))) zm1)
   (zi1 (RfE.c zn1))),?_⟩
 rintro ds Qd ⟨ns,k,rfl,p,q⟩;walk_at"ds";walk_at"a";rw[u5];refine two (λh=>⟨_,ga ns k (by lia),q _⟩) λh=>hJ _ ?_;clear hJ;walk_at"dd";exact q _
theorem zsa:FnScope ["found"] ["found"] (zh0 zb9):=by walk_at"sc"
theorem zqf(M:Md K mg)(T:TopDef K "_law_whole" zb9)(kt:Kit K)(vA:mg "bool"=none)(uW:mg "int"=none)(jI:mg "isinstance"=none):Def P w K mg base "_law_whole" 1 ["found"] (spD K zb2):=by
 refine zx2 M T zsa (by walk_at"h") (zy9 (by walk_at"i")) (zv2 ?_);walk_at"g";have nd:=zsa.nd;refine⟨_,_,(zj0 (za1 (zl01 (zp0 (zea (K:=K) rfl) rfl jI zc2 (za0 (pv 0) (za0 (zod (v:=.ty "int") rfl uW zsa1 rfl) zg0))) (zn31 (zhc1 (zp0 (zea (K:=K) rfl) rfl jI zc2 (za0 (pv 0) (za0 (zod (v:=.ty "bool") rfl vA zg71 rfl) zg0)))))))),(zi1 (RfE.c (zon (zk51 kt (by simp) (zb0 0)) (zpa1 (zk51 kt (by simp) (zb0 0)))))),?_⟩;rintro ds Qd ⟨i,rfl,q⟩;walk_at"ds";walk_at"dd";exact⟨λ_=>trivial,λ_=>trivial,q⟩
theorem znb:FnScope ["cells", "count", "sums", "k", "at", "made"] ["cells", "count"] (zh0 zh8):=by walk_at"sc"
theorem zai(M:Md K mg)(T:TopDef K "_law_sums" zh8)(jK:mg "len"=none)(jH:mg "range"=none):Def P w K mg base "_law_sums" 1 ["cells", "count"] (spD K zqg):=by
 refine zx2 M T znb (by walk_at"h") (zy9 (by walk_at"i")) (zv2 ?_);walk_at"g";have nd:=znb.nd;refine⟨_,_,(zd0 (zf3 (i:=2) (sc:=zh0 zh8) (N:=["cells", "count", "sums", "k", "at", "made"]) (own:=["k"]) (ix:=[]) rfl rfl rfl (by walk_at"csc") nd rfl rfl (zy1 rfl jH (za0 (pv 1) zg0)) (λ_ _ _ _=>⟨(pgn 0 (nds ["k"])),zx1,(pv 0)⟩))
   (zd0 (zo5 aW rfl (zy1 rfl jH (za0 (zp0 (zg1 (K:=K) rfl) rfl jK zg4 (za0 (pv 0) zg0)) zg0)) (pgn 3 nd) (zd0 (pset 4 nd (zj1 zd3 (pv 3) (pv 1)))
   (zd0 (pset 5 nd (zj1 (zk1 (K:=K) rfl) (zj1 zt9 (zj1 zd3 (pix w K hr (pv 0) (pv 3)) (zj1 zpp ze0 ze0)) (zj1 (zk1 (K:=K) rfl) ze0 (pv 3))) (zj1 zd3 (zj1 zv1 (pix w K hr (pv 0) (pv 3)) ze0) ze0)))
   (zj0 (zgv (zj1 zd3 (zj1 (zk1 (K:=K) rfl) (zj1 zt9 (pix w K hr (pv 2) (pv 4)) ze0) (pv 5)) (zj1 zpp ze0 ze0)) (znv (pv 2) (pv 4) (zru (Room.units hr))))))))
   (zj0 (za1 (pv 2))))),(zl0 (zi4 (RfF.c (zr1 (RfI.j (zk6 (zc0 (zi0 1) zm0))) (zh1 (i:=0) (n:=1) (by decide)) zm2 (zi0 0))))
   (zl0 (zr5 (zk6 (zc0 (zl5 zvc (zo0 (zb0 0) ze1)) zm0)) (rgn 3) (zl0 (zb1 (zk0 zxa (zb0 3) (zb0 1)) (rgn 4))
   (zl0 (zb1 (zk0 zg8 (RfE.v (zk0 zi21 (RfE.v (zk0 zxa (RfE.v (zk0 r_ix (zb0 0) (zb0 3))) (RfE.v (zk0 ze81 rvi rvi)))) (RfE.v (zk0 zg8 rvi (zb0 3))))) (RfE.v (zk0 zxa (RfE.v (zk0 znh (RfE.v (zk0 r_ix (zb0 0) (zb0 3))) rvi)) rvi))) (rgn 5))
   (zkv (zk0 zxa (RfE.v (zk0 zg8 (RfE.v (zk0 zi21 (RfE.v (zk0 r_ix (zb0 2) (zb0 4))) rvi)) (zb0 5))) (RfE.v (zk0 ze81 rvi rvi))) (zv0 2) (zi0 4)))))
   (zva (i:=2)))),?_⟩
 rintro ds Qd ⟨cs,n,rfl,hl,n1,n4,q⟩;walk_at"ds";walk_at"a";refine⟨by lia,by lia,?_⟩;rw[v6];unfold rngD;refine zof (λk:Nat=>.int (k:Int)) (by rw[aQ,wT];lia) (λk _=>?_) (hJ _ ?_)
 ·walk_at"cs";walk_at"dd";rw[show(0:Int)+(k:Int)=(k:Int) by lia]
 clear hJ;have e0:(u3 n).map (λk:Nat=>u6 (k:Int))=((u3 n).map λk:Nat=>(k:Int)).map .int:=by rw[wE];rfl
 rw[e0];have Y:Sms n ((u3 n).map λk:Nat=>(k:Int)):=⟨by simp,λx p=>by
  obtain⟨k,Z,rfl⟩:=vV.mp p;have:=u9.mp Z;lia⟩
 walk_at"a";rw[u5];refine⟨by lia,by lia,?_⟩;rw[v6];unfold rngD;refine zj2 (λ_ U=>∃(l:List Int)(s3 I u:Sl),Sms n l/\U=[.sh (.list (cs.map .int)),.sh (.int (n:Int)),.ow (.li (l.map .int)),s3,I,u]) ⟨_,.un,.un,.un,Y,rfl⟩ ?_ ?_
 ·rintro i k U p ⟨l,s3,I,u,S,rfl⟩;obtain⟨h1,O⟩:=wI.mp p;simp at h1 O;subst O;rw[show(0:Int)+(i:Int)=(i:Int) by lia];have a0:=zE (i:Int) (b:=(n:Int)) (by lia);have a1:=zF (i:Int) (b:=(n:Int)) (by lia);obtain⟨j,hj⟩:=xV a0;have W:=S.1;walk_at"a";refine⟨by lia,hJ _ ?_⟩;clear hJ;rw[hj]at a1 ⊢;walk_at"a";refine⟨_,ga cs i (by lia),by decide,?_⟩;walk_at"dd";refine⟨.inr ⟨by lia,by lia⟩,_,ga cs i (by lia),?_⟩;walk_at"dd";walk_at"f";generalize cs.getD i 0 % 100000000000 * (39373+(i:Int))+cs.getD i 0 / 11 % 1019=made;walk_at"dd";refine⟨_,ga l j (by lia),?_⟩;walk_at"dd";refine⟨.inr ⟨by decide,by decide⟩,by decide,j,zgm (by rw[u5];lia),l.set j ((l.getD j 0 * 7+made) % 100000000000),.sh (.int (i:Int)),.sh (.int (j:Int)),.sh (.int made),⟨by rw[wK];exact W,λx p=>?_⟩,?_⟩
  ·rcases List.mem_or_eq_of_mem_set p with z|z
   ·exact S.2 x z
   ·rw[z];exact⟨zE _ (by decide),zF _ (by decide)⟩
  ·rw[zD]
 ·rintro U ⟨l,s3,I,u,S,rfl⟩;walk_at"f";walk_at"dd";exact q l S
theorem zza:FnScope ["gate", "moment"] ["gate", "moment"] (zh0 zq8):=by walk_at"sc"
theorem zeg(M:Md K mg)(T:TopDef K "_law_width" zq8) :Def P w K mg base "_law_width" 1 ["gate", "moment"] (spD K zja):=by
 refine zx2 M T zza (by walk_at"h") (zy9 (by walk_at"i")) (zv2 ?_);walk_at"g";have nd:=zza.nd;refine⟨_,_,(zd0 (zv6 (PW.pt (zao (zs0 (zf4 (K:=K) rfl (Room.units hr)) (pix w K hr (pv 0) ze0) zi5 (zf1 _)) (zdh (zs0 zov (pv 1) (pix w K hr (pv 0) ze0) (zf1 _))))) (zj0 (za1 ze0)) zl1)
   (zd0 (zv6 (PW.pt (zao (zs0 (zf4 (K:=K) rfl (Room.units hr)) (pix w K hr (pv 0) ze0) zi5 (zf1 _)) (zdh (zs0 zxt (zj1 zd3 (pv 1) (pix w K hr (pv 0) ze0)) ze0 (zf1 _))))) (zj0 (za1 (pix w K hr (pv 0) ze0))) zl1)
   (zj0 (za1 (pix w K hr (pv 0) ze0))))),(zl0 (zu6 (zlr (zr0 (zq2 q_eq (RfV.h (RfE.v (zk0 r_ix (zb0 0) rvi))) (RfV.h (RfE.v zf5)))) (zr0 (zk0 r_lt (zb0 1) (RfE.v (zk0 r_ix (zb0 0) rvi))))) (zi1 (RfE.c zn1)) zm1)
   (zl0 (zu6 (zlr (zr0 (zq2 q_eq (RfV.h (RfE.v (zk0 r_ix (zb0 0) rvi))) (RfV.h (RfE.v zf5)))) (zr0 (zk0 r_gt (RfE.v (zk0 zxa (zb0 1) (RfE.v (zk0 r_ix (zb0 0) rvi)))) rvi))) (zi1 (RfE.c (zk0 r_ix (zb0 0) rvi))) zm1)
   (zi1 (RfE.c (zk0 r_ix (zb0 0) rvi))))),?_⟩
 rintro ds Qd ⟨g,m,rfl,ok,q⟩;walk_at"ds";cases g with
|st x =>
  unfold Gt.d;walk_at"a";walk_at"k";rw[aF (by decide +kernel)];walk_at"b";walk_at"k";rw[aF (by decide +kernel)];walk_at"f";walk_at"dd";exact⟨_,rfl,q⟩
|la x f =>
  unfold Gt.d;walk_at"a";walk_at"k";walk_at"k";refine two (λh=>?_) λh=>hJ _ ?_
  ·have e:Gt.at (.la x f) m=0:=aF (by lia);rw[e]at q;exact q
  walk_at"c";walk_at"k";rw[aF (by decide +kernel)];walk_at"f";walk_at"dd";have e:Gt.at (.la x f) m=x:=aH (by lia);rw[e]at q;exact⟨_,rfl,q⟩
|ti x y t =>
  obtain⟨p,o2⟩:=ok;unfold Gt.d;walk_at"a";walk_at"k";rw[aF (by decide +kernel)];walk_at"b";walk_at"k";walk_at"k";refine⟨by lia,two (λh=>⟨_,rfl,?_⟩) λh=>hJ _ ?_⟩
  ·have e:Gt.at (.ti x y t) m=y:=aF (by lia);rw[e]at q;exact q
  clear hJ;walk_at"dd";have e:Gt.at (.ti x y t) m=x:=aH (by lia);rw[e]at q;exact⟨_,rfl,q⟩
theorem zhc:FnScope ["cell", "many", "here", "there", "wide", "gate"] ["cell", "many"] (zh0 zfa):=by walk_at"sc"
theorem zji(M:Md K mg)(T:TopDef K "_law_pipe" zfa) :Def P w K mg base "_law_pipe" 1 ["cell", "many"] (spD K zrg):=by
 refine zx2 M T zhc (by walk_at"h") (zy9 (by walk_at"i")) (zv2 ?_);walk_at"g";have nd:=zhc.nd;refine⟨_,_,(zd0 (pset 2 nd (zj1 zd3 (pv 0) (pv 1)))
   (zd0 (pset 3 nd (zj1 zd3 (zj1 (zk1 (K:=K) rfl) (zj1 (zk1 (K:=K) rfl) (pv 2) ze0) (zj1 zd3 (zj1 zv1 (pv 0) ze0) (zj1 zw9 (pv 1) ze0))) (pv 1)))
   (zd0 (pset 4 nd (zj1 (zk1 (K:=K) rfl) ze0 (zj1 zd3 (zj1 zv1 (pv 0) ze0) ze0)))
   (zd0 (zv6 (zs0 (zf4 (K:=K) rfl (Room.units hr)) (pv 4) ze0 (zf1 _)) (zj0 (pset 4 nd (zj1 (zk1 (K:=K) rfl) ze0 (zj1 zd3 (zj1 zv1 (pv 0) ze0) (zj1 zpp ze0 ze0))))) zl1)
   (zd0 (pset 5 nd (zq1 (za0 zi5 (za0 (pv 4) zg0))))
   (zd0 (zv6 (zs0 (zf4 (K:=K) rfl (Room.units hr)) (zj1 zd3 (zj1 zv1 (pv 0) ze0) ze0) ze0 (zf1 _)) (zj0 (pset 5 nd (zq1 (za0 zi5 (za0 (pv 4) (za0 (zj1 zd3 (zj1 zv1 (pv 0) ze0) ze0) zg0)))))) zl1)
   (zd0 (zv6 (zs0 (zf4 (K:=K) rfl (Room.units hr)) (zj1 zd3 (zj1 zv1 (pv 0) ze0) ze0) ze0 (zf1 _)) (zj0 (pset 5 nd (zq1 (za0 zi5 (za0 (pv 4) (za0 (zj1 (zk1 (K:=K) rfl) ze0 (zj1 zd3 (zj1 zv1 (pv 0) ze0) ze0)) (za0 (zj1 (zk1 (K:=K) rfl) ze0 (zj1 zd3 (zj1 zv1 (pv 0) ze0) ze0)) zg0))))))) zl1)
   (zj0 (za1 (zq1 (za0 (pv 2) (za0 (pv 3) (za0 (zj1 (zk1 (K:=K) rfl) ze0 (zj1 zd3 (zj1 zv1 (pv 0) ze0) ze0)) (za0 (zj1 zd3 (zj1 zv1 (pv 0) ze0) ze0) (za0 (pv 5) zg0))))))))))))))),(zl0 (zb1 (zk0 zxa (zb0 0) (zb0 1)) (rgn 2))
   (zl0 (zb1 (zk0 zxa (RfE.v (zk0 zg8 (RfE.v (zk0 zg8 (zb0 2) rvi)) (RfE.v (zk0 zxa (RfE.v (zk0 znh (zb0 0) rvi)) (RfE.v (zk0 zyl (zb0 1) rvi)))))) (zb0 1)) (rgn 3))
   (zl0 (zb1 (zk0 zg8 rvi (RfE.v (zk0 zxa (RfE.v (zk0 znh (zb0 0) rvi)) rvi))) (rgn 4))
   (zl0 (zu6 (zr0 (zq2 q_eq (RfV.h (zb0 4)) (RfV.h rvi))) (zb1 (zk0 zg8 rvi (RfE.v (zk0 zxa (RfE.v (zk0 znh (zb0 0) rvi)) (RfE.v (zk0 ze81 rvi rvi))))) (rgn 4)) zm1)
   (zl0 (zb1 (zt2 (zc0 zf5 (zc0 (zi0 4) zm0))) (rgn 5))
   (zl0 (zu6 (zr0 (zq2 q_eq (RfV.h (RfE.v (zk0 zxa (RfE.v (zk0 znh (zb0 0) rvi)) rvi))) (RfV.h rvi))) (zb1 (zt2 (zc0 zf5 (zc0 (zi0 4) (zc0 (zk0 zxa (RfE.v (zk0 znh (zb0 0) rvi)) rvi) zm0)))) (rgn 5)) zm1)
   (zl0 (zu6 (zr0 (zq2 q_eq (RfV.h (RfE.v (zk0 zxa (RfE.v (zk0 znh (zb0 0) rvi)) rvi))) (RfV.h rvi))) (zb1 (zt2 (zc0 zf5 (zc0 (zi0 4) (zc0 (zk0 zg8 rvi (RfE.v (zk0 zxa (RfE.v (zk0 znh (zb0 0) rvi)) rvi))) (zc0 (zk0 zg8 rvi (RfE.v (zk0 zxa (RfE.v (zk0 znh (zb0 0) rvi)) rvi))) zm0))))) (rgn 5)) zm1)
   (zi1 (RfE.c (zt2 (zc0 (zi0 2) (zc0 (zi0 3) (zc0 (zk0 zg8 rvi (RfE.v (zk0 zxa (RfE.v (zk0 znh (zb0 0) rvi)) rvi))) (zc0 (zk0 zxa (RfE.v (zk0 znh (zb0 0) rvi)) rvi) (zc0 (zi0 5) zm0))))))))))))))),?_⟩
 rintro ds Qd ⟨c,n,rfl,n2,n3,q⟩;walk_at"ds";walk_at"a";have W:=zE c (b:=(n:Int)) (by lia);have S:=zF c (b:=(n:Int)) (by lia);obtain⟨u,Z⟩:=xV W;refine⟨by lia,hJ _ ?_⟩;clear hJ;rw[Z]at S ⊢;walk_at"a";have O:=zE ((u:Int)+1+c / 3 % ((n:Int) - 1)) (b:=(n:Int)) (by lia);have I:=zF ((u:Int)+1+c / 3 % ((n:Int) - 1)) (b:=(n:Int)) (by lia);obtain⟨v,Y⟩:=xV O;refine⟨by lia,by lia,hJ _ ?_⟩;clear hJ;rw[Y]at I ⊢;walk_at"dn";refine zef (λU=>∃x:Int,1<=x/\x<=100000000000/\U=[.sh (.int c),.sh (.int (n:Int)),.sh (.int (u:Int)),.sh (.int (v:Int)),.sh (.int x),.un]) ?_ ?_
 ·walk_at"dd";exact two (λ_=>⟨by decide,_,by lia,by lia,rfl⟩) λ_=>⟨_,by lia,by lia,rfl⟩
 rintro U ⟨x,z,x1,rfl⟩;walk_at"dn";refine zef (λU=>∃g:Gt,Gw g/\U=[.sh (.int c),.sh (.int (n:Int)),.sh (.int (u:Int)),.sh (.int (v:Int)),.sh (.int x),.sh g.d]) ?_ ?_
 ·walk_at"dd";refine two (λ_=>?_) λ_=>⟨.st x,⟨⟨trivial,λ_=>by show 0<=x;lia⟩,λ_=>x1,wU _,λ_ _=>z⟩,rfl⟩
  obtain⟨f,hf⟩:=xV (show 0<=c / 108 % 3 by lia);rw[hf];refine⟨.la x f,⟨⟨trivial,λm=>?_⟩,λm=>?_,by show f<=2;lia,λm (hm:f<=m)=>?_⟩,rfl⟩
  ·show 0<=if f<=m then x else 0
   split <;> lia
  ·show(if f<=m then x else 0)<=_;split <;> lia
  ·show 1<=if f<=m then x else 0
   rw[aH hm];exact z
 rintro U ⟨g,p,rfl⟩;refine zef (λU=>∃g:Gt,Gw g/\U=[.sh (.int c),.sh (.int (n:Int)),.sh (.int (u:Int)),.sh (.int (v:Int)),.sh (.int x),.sh g.d]) ?_ ?_
 ·walk_at"dd";refine two (λ_=>?_) λ_=>⟨g,p,rfl⟩
  obtain⟨f,hf⟩:=xV (show 0<=2+c / 324 % 3 by lia);rw[hf];have:∀m,1<=Gt.at (.ti x (1+c / 108 % 3) f) m/\Gt.at (.ti x (1+c / 108 % 3) f) m<=100000000000:=λm=>by
   show 1<=(if m % f=0 then x else _)/\(if m % f=0 then x else _)<=_;split <;> lia
  exact⟨.ti x (1+c / 108 % 3) f,⟨⟨⟨by lia,by lia⟩,λm=>by have:=(this m).1;lia⟩,λm=>(this m).2,wU _,λm _=>(this m).1⟩,rfl⟩
 clear p g;rintro U ⟨g,p,rfl⟩;walk_at"dd";obtain⟨l,hl⟩:=xV (show 0<=1+c / 6 % 2 by lia);rw[hl];exact q ⟨u,v,l,_,g⟩ ⟨⟨by show u < n;lia,by show v < n;lia,by show 1<=l;lia,by show l<=20;lia,p.1⟩,by show l<=2;lia,p⟩
end
def gL(L:List Le)(m i:Nat):Int:=su L λl=>if l.t=m/\l.at_=i then l.am else 0
theorem zra1(L:List Le)(l:Le)(m i:Nat):gL (L++[l]) m i=gL L m i+if l.t=m/\l.at_=i then l.am else 0:=by unfold gL;rw[zt5,zz0,zs6];lia
theorem ztb1{α:Type}{l:List α}{f:α->Int}(h:∀x∈l,0<=f x):0<=su l f:=by
 have:=zfv (l:=l) (f:=λ_=>0) (g:=f) h
 rwa [zwa]at this
theorem zia1{ps:List Pi}(hi:i < ps.length)(h:m+pl ps i<=n):i∈pb ps m n:=by
 unfold pb;refine yP.mpr ⟨(i,ps[i]),?_,?_⟩
 ·exact wJ (i:=i) (by rw[xS,u4 hi];rfl)
 ·have:pl ps i=ps[i].len:=by unfold pl;rw[u4 hi];rfl
  show(if m+ps[i].len<=n then some i else none)=some i;rw[aH (by lia)]
theorem zdx{ps:List Pi} :(pb ps m n).Nodup/\∀i∈pb ps m n,i < ps.length/\m+pl ps i<=n:=by
 rw[<- zsd];exact zoj ps m n _ (u7 _)
def arr(ps:List Pi)(L:List Le)(m k:Nat):Int:=su L λl=>if l.t+pl ps l.at_=m/\zp9 ps l.at_=k then l.am else 0
def outL(ps:List Pi)(L:List Le)(m k:Nat):Int:=su L λl=>if l.t=m/\zs1 ps l.at_=k then l.am else 0
def lieR(ps:List Pi)(fl:List Int)(L:List Le)(m k:Nat):Int:=fl.getD k 0+(su L λl=>if l.t+pl ps l.at_<=m/\zp9 ps l.at_=k then l.am else 0) - su L λl=>if l.t<=m/\zs1 ps l.at_=k then l.am else 0
theorem zhf(ps:List Pi)(fl:List Int)(L:List Le)(m k:Nat):lieR ps fl L m k=(if m=0 then fl.getD k 0 else lieR ps fl L (m - 1) k)+arr ps L m k - outL ps L m k:=by
 unfold lieR arr outL;cases m with
|zero =>
  rw[aH rfl];congr 1
  ·congr 1;exact zt0 λl _=>by simp only[Nat.le_zero]
  ·exact zt0 λl _=>by simp only[Nat.le_zero]
|succ m =>
  rw[aF (zR m),uaQ];have q:(su L λl=>if l.t+pl ps l.at_<=m+1/\zp9 ps l.at_=k then l.am else 0)=(su L λl=>if l.t+pl ps l.at_<=m/\zp9 ps l.at_=k then l.am else 0)+su L λl=>if l.t+pl ps l.at_=m+1/\zp9 ps l.at_=k then l.am else 0:=by
   rw[<- zi9];refine zt0 λl _=>?_;by_cases g:zp9 ps l.at_=k
   ·simp only[g,and_true];split <;> split <;> split <;> lia
   ·simp only[g,and_false,if_false];rfl
  have p:(su L λl=>if l.t<=m+1/\zs1 ps l.at_=k then l.am else 0)=(su L λl=>if l.t<=m/\zs1 ps l.at_=k then l.am else 0)+su L λl=>if l.t=m+1/\zs1 ps l.at_=k then l.am else 0:=by
   rw[<- zi9];refine zt0 λl _=>?_;by_cases g:zs1 ps l.at_=k
   ·simp only[g,and_true];split <;> split <;> split <;> lia
   ·simp only[g,and_false,if_false];rfl
  rw[q,p];lia
structure Pln(u:Nat)(fl:List Int)(ps:List Pi)(L:List Le):Prop where
 lt:∀l∈L,l.t < u/\l.at_ < ps.length/\1<=l.am
 cap:∀m i,i < ps.length->gL L m i<=zmb ps i m
 nn:∀m k,m<=u->k < fl.length->0<=lieR ps fl L m k
theorem zlh1(G:Nat->Nat->Int)(m:Nat)(φ:Le->Int):∀is:List Nat,su (pmL G m is) φ=su is λi=>if 0 < G m i then φ ⟨m,i,G m i⟩else 0
|[]=>rfl
|i :: r=>by
  have p:=zlh1 G m φ r;unfold pmL at p ⊢;rw[xK,zz0];by_cases h:0 < G m i
  ·simp only[aH h];rw[zz0,p]
  ·simp only[aF h];rw[p];lia
theorem zze(ps:List Pi)(n:Nat)(G:Nat->Nat->Int)(φ:Le->Int):∀k,su (zya ps n G k) φ=su (u3 k) λm=>su (pb ps m n) λi=>if 0 < G m i then φ ⟨m,i,G m i⟩else 0
|0=>rfl
|k+1=>by rw[zbc,zt5,zze ps n G φ k,xZ,zt5,zz0,zs6,zlh1];lia
section
variable {vs:List Va}{ps:List Pi}{ws:List Int}{n:Nat}{f:Fm}{M:Int}
theorem zis(u:∀m i,m < n->i∈pb ps m n->0<=f.g m i)(m k:Nat):arr ps (zya ps n f.g n) m k=(ntOf vs ps n).inn f m k:=by
 unfold arr;rw[zze];show _=su (u3 n) λp=>su (pb ps p n) λi=>if p+pl ps i=m/\zp9 ps i=k then f.g p i else 0
 refine zt0 λp q=>zt0 λi hi=>?_;by_cases h:0 < f.g p i
 ·rw[aH h]
 ·have:=u p i (u9.mp q) hi;rw[aF h];split <;> lia
theorem zlk(B:∀m i,m < n->i∈pb ps m n->0<=f.g m i)(m k:Nat):outL ps (zya ps n f.g n) m k=(ntOf vs ps n).out f m k:=by
 unfold outL;rw[zze];have e:∀p∈u3 n,(su (pb ps p n) λi=>if 0 < f.g p i then(if p=m/\zs1 ps i=k then f.g p i else 0)else 0)=if p=m then su (pb ps p n) (λi=>if zs1 ps i=k then f.g p i else 0)else 0:=λp u=>by
  by_cases z:p=m
  ·rw[aH z];refine zt0 λi hi=>?_;have:=B p i (u9.mp u) hi;by_cases h:0 < f.g p i
   ·rw[aH h];by_cases w:zs1 ps i=k
    ·rw[aH ⟨z,w⟩,aH w]
    ·rw[aF (λq=>w q.2),aF w]
   ·rw[aF h];split <;> lia
  ·rw[aF z];exact su_zero' λi _=>by rw[aF (λq:p=m/\_=>z q.1)];split <;> rfl
 rw[show(su (u3 n) λp=>su (pb ps p n) λi=>if 0 < f.g p i then(if(⟨p,i,f.g p i⟩:Le).t=m/\zs1 ps (⟨p,i,f.g p i⟩:Le).at_=k then(⟨p,i,f.g p i⟩:Le).am else 0)else 0)=_ from zt0 e];show _=if m < n then su (pb ps m n) (λi=>if zs1 ps i=k then f.g m i else 0)else 0
 by_cases h:m < n
 ·rw[aH h];exact zbb (λp=>su (pb ps p n) λi=>if zs1 ps i=k then f.g p i else 0) h
 ·rw[aF h];exact su_zero' λp u=>aF (by have:=u9.mp u;lia)
theorem zof1{is:List Nat}{l:Le}(h:l∈pmL G m is):∃i∈is,0 < G m i/\l=⟨m,i,G m i⟩:=by
 obtain⟨i,hi,e⟩:=yP.mp h;by_cases z:0 < G m i
 ·rw[aH z]at e;exact⟨i,hi,z,(w8.inj e).symm⟩
 ·rw[aF z]at e;cases e
theorem zv21{k:Nat}{l:Le}(h:l∈zya ps n G k):∃m i,m < k/\i∈pb ps m n/\0 < G m i/\l=⟨m,i,G m i⟩:=by
 obtain⟨x,p,hl⟩:=List.mem_flatten.mp h;obtain⟨m,q,rfl⟩:=vV.mp p;obtain⟨i,hi,z,e⟩:=zof1 hl;exact⟨m,i,u9.mp q,hi,z,e⟩
theorem zf61(I:∀m i,m < n->i∈pb ps m n->0<=f.g m i/\f.g m i<=zmb ps i m)(hi:i < ps.length)(hw:0<=zmb ps i m):gL (zya ps n f.g n) m i<=zmb ps i m:=by
 unfold gL;rw[zze];have e:∀p∈u3 n,(su (pb ps p n) λu=>if 0 < f.g p u then(if(⟨p,u,f.g p u⟩:Le).t=m/\(⟨p,u,f.g p u⟩:Le).at_=i then(⟨p,u,f.g p u⟩:Le).am else 0)else 0)=if p=m then(if i∈pb ps p n then f.g p i else 0)else 0:=λp B=>by
  by_cases z:p=m
  ·rw[aH z,<- zbt _ zdx.1 λi hi=>(zdx.2 i hi).1,<- zbb (λu=>if u∈pb ps p n then f.g p u else 0) hi];refine zt0 λu _=>?_;by_cases y:u∈pb ps p n
   ·rw[aH y];have:=(I p u (u9.mp B) y).1;show(if 0 < f.g p u then(if p=m/\u=i then f.g p u else 0)else 0)=_;by_cases x:u=i
    ·have q:p=m/\u=i:=⟨z,x⟩
     rw[aH x,aH q,aH y];split <;> lia
    ·have q:¬(p=m/\u=i):=λq=>x q.2;rw[aF x,aF q];split <;> rfl
   ·rw[aF y];by_cases x:u=i
    ·rw[aH x,aF y]
    ·rw[aF x]
  ·rw[aF z];exact su_zero' λu _=>by
    show(if 0 < f.g p u then(if p=m/\u=i then f.g p u else 0)else 0)=_;have q:¬(p=m/\u=i):=λq=>z q.1;rw[aF q];split <;> rfl
 rw[zt0 e];by_cases B:m < n
 ·rw[zbb (λp=>if i∈pb ps p n then f.g p i else 0) B];split
  ·rename_i y;exact(I m i B y).2
  ·exact hw
 ·rw[su_zero' λp h=>aF (by have:=u9.mp h;lia)];exact hw
theorem Met.pln{fl:List Int}(Y:Yw fl ps)(I:vs.length=fl.length)(hf:∀k,k < fl.length->(ntOf vs ps n).fl k=fl.getD k 0)(mt:Met vs ps ws n M f)(e:M=ws.sum) :
  Pln n fl ps (zya ps n f.g n)/\(∀m k,m<=n->k < fl.length->lieR ps fl (zya ps n f.g n) m k<=(ntOf vs ps n).rm k)/\∀k,k < fl.length->cW ws k<=lieR ps fl (zya ps n f.g n) n k:=by
 obtain⟨t,s,O,hw⟩:=mt.wn e;have B:∀m i,m < n->i∈pb ps m n->0<=f.g m i/\f.g m i<=zmb ps i m:=λm i u hi=>mt.fl.g m i u hi;have J:∀k,k < vs.length->(0<=t k/\t k<=cW ws k)/\0<=s k/\s k<=cR vs ws k:=λk q=>⟨mt.fl.s (cW ws,t) (by rw[O];simp) k q,mt.fl.s (cR vs ws,s) (by rw[O];simp) k q⟩
 have st:∀k,(su f.t λt=>t k)=t k+s k:=λk=>by rw[O,zz0,zz0,zs6];lia
 have key:∀m k,m<=n->k < fl.length->lieR ps fl (zya ps n f.g n) m k=if m < n then f.r m k else t k+s k:=λm k=>by
  induction m with
 |zero =>
   intro u q;rw[zhf,zis (vs:=vs) λm i u hi=>(B m i u hi).1,zlk (vs:=vs) λm i u hi=>(B m i u hi).1,aH rfl];have b:=mt.fl.b 0 k u (by rw[<- I]at q;exact q);rw[st,aH rfl,mt.src k (by lia),hf k q]at b;have b:_=(ntOf vs ps n).out f 0 k+(if 0 < n then f.r 0 k else t k+s k):=b;lia
 |succ m S =>
   intro u q;rw[zhf,zis (vs:=vs) λm i u hi=>(B m i u hi).1,zlk (vs:=vs) λm i u hi=>(B m i u hi).1,aF (zR m),uaQ,S (by lia) q,aH (by lia)];have b:=mt.fl.b (m+1) k u (by rw[<- I]at q;exact q);rw[st,aF (zR m),uaQ]at b;have b:_=(ntOf vs ps n).out f (m+1) k+(if m+1 < n then f.r (m+1) k else t k+s k):=b;lia
 have W:∀k,cR vs ws k=(ntOf vs ps n).rm k - cW ws k:=λ_=>rfl;refine⟨⟨λl hl=>?_,λm i hi=>zf61 B hi ?_,λm k u q=>?_⟩,λm k u q=>?_,λk q=>?_⟩
 ·obtain⟨m,i,u,hi,z,rfl⟩:=zv21 hl;exact⟨u,(zdx.2 i hi).1,by show 1<=f.g m i;lia⟩
 ·unfold zmb;rw[u4 hi];exact(Y.p _ (xE hi)).1.2.2.2.2.2 m
 ·rw[key m k u q];by_cases z:m < n
  ·rw[aH z];exact(mt.fl.r m k z (by rw[<- I]at q;exact q)).1
  ·rw[aF z];have:=J k (by lia);lia
 ·rw[key m k u q];by_cases z:m < n
  ·rw[aH z];exact(mt.fl.r m k z (by rw[<- I]at q;exact q)).2
  ·rw[aF z];have:=J k (by lia);have:=W k;lia
 ·rw[key n k (u7 _) q,aF (xB _)];have:=J k (by lia);have:=hw k (by lia);lia
end
def rg(N:Nat)(φ:Nat->Int):List Int:=(u3 N).map φ
theorem zcw(N:Nat)(φ:Nat->Int):(rg N φ).length=N:=by simp[rg]
theorem zqc1{k:Nat}(h:k < N):(rg N φ).getD k 0=φ k:=by
 unfold rg;rw[v4,u8,xI h];rfl
theorem zjb1{k:Nat}(h:k < N):atI ((rg N φ).map u6) ((k:Nat):Int)=some (.int (φ k)):=by
 rw[ga _ k (by rw[zcw];exact h),zqc1 h]
theorem zlf1{k:Nat}(h:k < N):((rg N φ).map u6)[((k:Nat):Int).toNat]?=some (.int (φ k)):=by
 unfold rg;rw[v6,u8,u8,xI h];rfl
theorem zo7(h:∀k,k < N->φ k=ψ k):rg N φ=rg N ψ:=x6 λk p=>h k (u9.mp p)
theorem za01{v:Nat}(x:Int)(I:v < N)(B:ψ v=x)(u:∀k,k < N->k≠v->ψ k=φ k):((rg N φ).map u6).set v (.int x)=(rg N ψ).map u6:=by
 unfold rg;refine yX (by simp) λi p q=>?_;simp at q;rw[List.getElem_set];by_cases e:v=i
 ·subst e;simp[B]
 ·rw[aF e];simp[u i q (λz=>e z.symm)]
theorem zkf{α:Type}{l:List α}{x:α}(h:l[i]?=some x):l.take (i+1)=l.take i++[x]:=by
 rw[List.take_add_one,h];rfl
theorem zhp{α:Type}(l:List α)(x:α)(f:α->Int):su (l++[x]) f=su l f+f x:=by rw[zt5,zz0,zs6];lia
def stL(ps:List Pi)(fl:List Int)(L:List Le)(m k:Nat):Int:=if m=0 then fl.getD k 0 else lieR ps fl L (m - 1) k
theorem zhh{α:Type}{l:List α}{f:α->Int}(h:∀x∈l,0<=f x)(j:Nat):su (l.take j) f<=su l f:=by
 have e:su l f=su (l.take j) f+su (l.drop j) f:=by rw[<- zt5,zC]
 have:=ztb1 (l:=l.drop j) (f:=f) λx p=>h x (List.mem_of_mem_drop p);lia
def zoa:DSp:=λds Q=>∃(vs:List Va)(ps:List Pi)(fl:List Int)(L:List Le)(n:Nat),ds=[.list (vs.map Va.d),.list (ps.map Pi.d),.list (L.map Le.d),.int (n:Int)]/\Yw fl ps/\n<=60/\vs.length=fl.length/\(∀(k:Nat) v,vs[k]?=some v->v.fill=fl.getD k 0/\∀m,m<=n->lieR ps fl L m k<=v.room)/\Pln n fl ps L/\Q (.list ((rg fl.length (lieR ps fl L n)).map .int))
section
variable {P:aN}{w:aP}{K:Fg}{mg:Str->Option aA}{base:aT}
theorem zk8:FnScope ["vats", "pipes", "plan", "until", "lies", "moment", "used", "one", "k"] ["vats", "pipes", "plan", "until"] (zh0 zh2):=by walk_at"sc"
theorem zyc(M:Md K mg)(T:TopDef K "_law_brought" zh2)(jK:mg "len"=none)(jH:mg "range"=none)(qR:Def P w K mg base "_law_width" 1 ["gate", "moment"] (spD K zja)):Def P w K mg base "_law_brought" 2 ["vats", "pipes", "plan", "until"] (spD K zoa):=by
 refine zx2 M T zk8 (by walk_at"h") (zy9 (by walk_at"i")) (zv2 ?_);walk_at"g";have nd:=zk8.nd;refine⟨_,(dSeq (dSet 4 (cF (zxf (dIt (zx0 0)) 1 [] (gN 0) zki (dOp fIx (zx0 0) (dC (.int 2))))))
   (dSeq (dFor (zx01 (zw0 (dOp fAdd (zx0 3) (dC (.int 1))) dNil)) (gN 5) (dSeq (dSet 6 (cF (zxf (dIt (zx0 1)) 1 [] (gN 0) zki (dC (.int 0)))))
   (dSeq (dFor (dIt (dVar 2)) (gN 7) (dIf (ze8 (dOp fEq (dOp fAdd (dOp fIx (zx0 7) (dC (.int 0))) (dOp fIx (dOp fIx (zx0 1) (dOp fIx (zx0 7) (dC (.int 1)))) (dC (.int 2)))) (zx0 5))) (zg21 (λi j=>i+j) (pVar 4) (dOp fIx (dOp fIx (zx0 1) (dOp fIx (zx0 7) (dC (.int 1)))) (dC (.int 1))) (dOp fIx (zx0 7) (dC (.int 2)))) zfe))
   (dSeq (dFor (dIt (dVar 2)) (gN 7) (dIf (ze8 (dOp fEq (dOp fIx (zx0 7) (dC (.int 0))) (zx0 5))) (dSeq (zg21 (λi j=>i - j) (pVar 4) (dOp fIx (dOp fIx (zx0 1) (dOp fIx (zx0 7) (dC (.int 1)))) (dC (.int 0))) (dOp fIx (zx0 7) (dC (.int 2))))
   (dSeq (zg21 (λi j=>i+j) (pVar 6) (dOp fIx (zx0 7) (dC (.int 1))) (dOp fIx (zx0 7) (dC (.int 2))))
   (dIf (dOr (ze8 (dOp fGt (dOp fIx (zx0 6) (dOp fIx (zx0 7) (dC (.int 1)))) (zga zja (zw0 (dOp fIx (dOp fIx (zx0 1) (dOp fIx (zx0 7) (dC (.int 1)))) (dC (.int 4))) (zw0 (dVar 5) dNil))))) (ze8 (dOp fLt (dOp fIx (zx0 4) (dOp fIx (dOp fIx (zx0 1) (dOp fIx (zx0 7) (dC (.int 1)))) (dC (.int 0)))) (dC (.int 0))))) (dRet (cE (dC .none))) zfe))) zfe))
   (dFor (zx01 (zw0 (dCB fLen (zw0 (zx0 0) dNil)) dNil)) (gN 8) (dIf (ze8 (dOp fGt (dOp fIx (zx0 4) (zx0 8)) (dOp fIx (dOp fIx (zx0 0) (zx0 8)) (dC (.int 1))))) (dRet (cE (dC .none))) zfe))))))
   (zwt 4))),(zd0 (zf3 (i:=4) (sc:=zh0 zh2) (N:=["vats", "pipes", "plan", "until", "lies", "moment", "used", "one", "k"]) (own:=["vat"]) (ix:=[]) rfl rfl rfl (by walk_at"csc") nd rfl rfl (pi_W (K:=K) rfl (pv 0)) (λ_ _ _ _=>⟨(pgn 0 (nds ["vat"])),zx1,(pix w K hr (pv 0) ze0)⟩))
   (zd0 (zo5 aW rfl (zy1 rfl jH (za0 (zj1 (zk1 (K:=K) rfl) (pv 3) ze0) zg0)) (pgn 5 nd) (zd0 (zf3 (i:=6) (sc:=zh0 zh2) (N:=["vats", "pipes", "plan", "until", "lies", "moment", "used", "one", "k"]) (own:=["pipe"]) (ix:=[]) rfl rfl rfl (by walk_at"csc") nd rfl rfl (pi_W (K:=K) rfl (pv 1)) (λ_ _ _ _=>⟨(pgn 0 (nds ["pipe"])),zx1,ze0⟩))
   (zd0 (zo5 aW rfl (pi_W (K:=K) rfl (pv 2)) (pgn 7 nd) (zj0 (zv6 (zs0 (zf4 (K:=K) rfl (Room.units hr)) (zj1 (zk1 (K:=K) rfl) (pix w K hr (pv 7) ze0) (pix w K hr (pix w K hr (pv 1) (pix w K hr (pv 7) ze0)) ze0)) (pv 5) (zf1 _)) (zj0 (ztg (pv 4) (pix w K hr (pix w K hr (pv 1) (pix w K hr (pv 7) ze0)) ze0) (zka1 (K:=K) (Room.units hr) rfl) (pix w K hr (pv 7) ze0) zuq (zru (Room.units hr)))) zl1)))
   (zd0 (zo5 aW rfl (pi_W (K:=K) rfl (pv 2)) (pgn 7 nd) (zj0 (zv6 (zs0 (zf4 (K:=K) rfl (Room.units hr)) (pix w K hr (pv 7) ze0) (pv 5) (zf1 _)) (zd0 (ztg (pv 4) (pix w K hr (pix w K hr (pv 1) (pix w K hr (pv 7) ze0)) ze0) (zka1 (K:=K) (Room.units hr) rfl) (pix w K hr (pv 7) ze0) zga1 (zru (Room.units hr)))
   (zd0 (ztg (pv 6) (pix w K hr (pv 7) ze0) (zka1 (K:=K) (Room.units hr) rfl) (pix w K hr (pv 7) ze0) zuq (zru (Room.units hr)))
   (zj0 (zv6 (PW.pt (zog (zs0 zxt (pix w K hr (pv 6) (pix w K hr (pv 7) ze0)) (zn0 qR (rmn hr) rfl (za0 (pix w K hr (pix w K hr (pv 1) (pix w K hr (pv 7) ze0)) ze0) (za0 (pv 5) zg0))) (zf1 _)) (zgf (zs0 zov (pix w K hr (pv 4) (pix w K hr (pix w K hr (pv 1) (pix w K hr (pv 7) ze0)) ze0)) ze0 (zf1 _))))) (zj0 (za1 zzg)) zl1)))) zl1)))
   (zj0 (zo5 aW rfl (zy1 rfl jH (za0 (zp0 (zg1 (K:=K) rfl) rfl jK zg4 (za0 (pv 0) zg0)) zg0)) (pgn 8 nd) (zj0 (zv6 (zs0 zxt (pix w K hr (pv 4) (pv 8)) (pix w K hr (pix w K hr (pv 0) (pv 8)) ze0) (zf1 _)) (zj0 (za1 zzg)) zl1))))))))
   (zj0 (za1 (pv 4))))),(zl0 (zi4 (RfF.c (zr1 (zsm (zb0 0)) (zh1 (i:=0) (n:=1) (by decide)) zm2 (zk0 r_ix (zb0 0) rvi))))
   (zl0 (zr5 (zk6 (zc0 (zk0 zg8 (zb0 3) rvi) zm0)) (rgn 5) (zl0 (zi4 (RfF.c (zr1 (zsm (zb0 1)) (zh1 (i:=0) (n:=1) (by decide)) zm2 zn1)))
   (zl0 (zr5 (zlo (zi0 2)) (rgn 7) (zu6 (zr0 (zq2 q_eq (RfV.h (RfE.v (zk0 zg8 (RfE.v (zk0 r_ix (zb0 7) rvi)) (RfE.v (zk0 r_ix (RfE.v (zk0 r_ix (zb0 1) (RfE.v (zk0 r_ix (zb0 7) rvi)))) rvi))))) (RfV.h (zb0 5)))) (zfh (zv0 4) (zk0 r_ix (RfE.v (zk0 r_ix (zb0 1) (RfE.v (zk0 r_ix (zb0 7) rvi)))) rvi) (zk0 r_ix (zb0 7) rvi)) zm1))
   (zl0 (zr5 (zlo (zi0 2)) (rgn 7) (zu6 (zr0 (zq2 q_eq (RfV.h (RfE.v (zk0 r_ix (zb0 7) rvi))) (RfV.h (zb0 5)))) (zl0 (zfh (zv0 4) (zk0 r_ix (RfE.v (zk0 r_ix (zb0 1) (RfE.v (zk0 r_ix (zb0 7) rvi)))) rvi) (zk0 r_ix (zb0 7) rvi))
   (zl0 (zfh (zv0 6) (zk0 r_ix (zb0 7) rvi) (zk0 r_ix (zb0 7) rvi))
   (zu6 (zvg (zr0 (zk0 r_gt (RfE.v (zk0 r_ix (zb0 6) (RfE.v (zk0 r_ix (zb0 7) rvi)))) (RfE.v (zu0 (zc0 (zk0 r_ix (RfE.v (zk0 r_ix (zb0 1) (RfE.v (zk0 r_ix (zb0 7) rvi)))) rvi) (zc0 (zi0 5) zm0)))))) (zr0 (zk0 r_lt (RfE.v (zk0 r_ix (zb0 4) (RfE.v (zk0 r_ix (RfE.v (zk0 r_ix (zb0 1) (RfE.v (zk0 r_ix (zb0 7) rvi)))) rvi)))) rvi))) (zi1 (RfE.c zyf)) zm1))) zm1))
   (zr5 (zk6 (zc0 (zl5 zvc (zo0 (zb0 0) ze1)) zm0)) (rgn 8) (zu6 (zr0 (zk0 r_gt (RfE.v (zk0 r_ix (zb0 4) (zb0 8))) (RfE.v (zk0 r_ix (RfE.v (zk0 r_ix (zb0 0) (zb0 8))) rvi)))) (zi1 (RfE.c zyf)) zm1))))))
   (zva (i:=4)))),?_⟩
 rintro ds Qd ⟨vs,ps,fl,L,n,rfl,Yv,hn,hN,hv,G,q⟩;have n1:=Yv.n1;have n3:=Yv.n3;have m4:=Yv.m4;have pgp:∀l∈L,∃p,ps[l.at_]?=some p/\zs1 ps l.at_=p.u/\zp9 ps l.at_=p.v/\pl ps l.at_=p.len/\p.u < fl.length/\p.v < fl.length/\p.g.ok/\∀m,zmb ps l.at_ m=p.g.at m:=λl hl=>by
  have hi:=(G.lt l hl).2.1;have e:ps[l.at_]?=some ps[l.at_]:=u4 hi;obtain⟨Y,Z,h3,_,h5,h6⟩:=(Yv.p _ (xE hi)).1;exact⟨_,e,by unfold zs1;rw[e];rfl,by unfold zp9;rw[e];rfl,by unfold pl;rw[e];rfl,Y,Z,h5,λm=>by unfold zmb;rw[e];rfl⟩
 walk_at"ds";walk_at"a";refine zof (λv=>.int v.fill) (by rw[aQ];lia) (λv _=>?_) (hJ _ ?_)
 ·unfold Va.d;walk_at"cs";walk_at"dd";exact⟨_,rfl,rfl⟩
 clear hJ;have ef:vs.map (λv=>u6 v.fill)=(rg fl.length (stL ps fl L 0)).map .int:=by
  unfold rg;rw[wE];refine yX (by simp[hN]) λi Y Z=>?_;simp at Y;have:=(hv i vs[i] (u4 Y)).1;simp[this,stL]
 rw[ef];walk_at"a";rw[show((n:Int)+1).toNat=n+1 by lia];unfold rngD;refine⟨by lia,by lia,?_⟩;refine zj2 (λm U=>∃s5 s6 I O:Sl,U=[.sh (.list (vs.map Va.d)),.sh (.list (ps.map Pi.d)),.sh (.list (L.map Le.d)),.sh (.int (n:Int)),.ow (.li ((rg fl.length (stL ps fl L m)).map .int)),s5,s6,I,O]) ⟨.un,.un,.un,.un,rfl⟩ ?_ ?_
 ·rintro m x U hx ⟨s5,s6,I,O,rfl⟩;clear hJ;obtain⟨Y,Z⟩:=wI.mp hx;simp at Y Z;subst Z;rw[show(0:Int)+(m:Int)=(m:Int) by lia];walk_at"dd";walk_at"a";refine zof (λ_:Pi=>.int 0) (by rw[aQ];lia) (λp _=>rfl) (hJ _ ?_);clear hJ;have eu:ps.map (λ_=>u6 0)=(rg ps.length λ_=>0).map .int:=by
   unfold rg;rw[wE];exact yX (by simp) λi Y Z=>by simp
  rw[eu];walk_at"a";refine zj2 (λj U=>∃I:Sl,U=[.sh (.list (vs.map Va.d)),.sh (.list (ps.map Pi.d)),.sh (.list (L.map Le.d)),.sh (.int (n:Int)),.ow (.li ((rg fl.length (λk=>stL ps fl L m k+su (L.take j) λl=>if l.t+pl ps l.at_=m/\zp9 ps l.at_=k then l.am else 0)).map .int)),.sh (.int (m:Int)),.ow (.li ((rg ps.length λ_=>0).map .int)),I,O]) ⟨I,?_⟩ ?_ ?_
  ·rw[zo7 (φ:=stL ps fl L m) (ψ:=λk=>stL ps fl L m k+su (L.take 0) λl=>if l.t+pl ps l.at_=m/\zp9 ps l.at_=k then l.am else 0) λk _=>by rw[z5,zs6,Int.add_zero]]
  ·rintro j l U hl ⟨I,rfl⟩;obtain⟨p,ep,e1,e2,e3,pu,pv,pok,hw⟩:=pgp l (wJ hl);have gp:atI (ps.map Pi.d) ((l.at_:Nat):Int)=some (.tuple [.int (p.u:Int),.int (p.v:Int),.int (p.len:Int),.int p.pr,p.g.d]):=gm Pi.d ep;rw[zkf hl];simp only[zhp];generalize hφ:(λk=>stL ps fl L m k+su (L.take j) λl=>if l.t+pl ps l.at_=m/\zp9 ps l.at_=k then l.am else 0)=φ;have hψ:∀k,stL ps fl L m k+((su (L.take j) λl=>if l.t+pl ps l.at_=m/\zp9 ps l.at_=k then l.am else 0)+if l.t+pl ps l.at_=m/\zp9 ps l.at_=k then l.am else 0)=φ k+if l.t+p.len=m/\p.v=k then l.am else 0:=λk=>by subst hφ;rw[e2,e3];exact(Int.add_assoc _ _ _).symm
   simp only[hψ];clear hφ hψ;obtain⟨lt,la,W⟩:=l;generalize L.map Le.d=LD;dsimp only[Le.d]at gp ⊢;walk_at"dd";refine⟨_,rfl,_,rfl,?_⟩;walk_at"dd";refine⟨_,gp,?_⟩;walk_at"dd";walk_at"k";refine two (λz=>⟨_,rfl,?_⟩) λz=>⟨.sh (.tuple [.int (lt:Int),.int (la:Int),.int W]),?_⟩
   ·walk_at"dd";refine⟨_,gp,?_⟩;walk_at"dd";walk_at"k";refine⟨by lia,_,zlf1 pv,_,rfl,?_⟩;walk_at"dd";refine⟨p.v,zgm (by rw[u5,zcw];exact pv),.sh (.tuple [.int (lt:Int),.int (la:Int),.int W]),?_⟩;rw[za01 (ψ:=λk=>φ k+if lt+p.len=m/\p.v=k then W else 0) _ pv (by rw[aH ⟨by lia,rfl⟩]) λk _ hk=>by rw[aF λy=>hk y.2.symm];lia]
   ·rw[zo7 (φ:=φ) (ψ:=λk=>φ k+if lt+p.len=m/\p.v=k then W else 0) λk _=>by rw[aF λy=>z (by lia)];lia]
  ·rintro U ⟨I,rfl⟩;rw[xM];walk_at"b";refine zj2 (λj U=>∃I:Sl,U=[.sh (.list (vs.map Va.d)),.sh (.list (ps.map Pi.d)),.sh (.list (L.map Le.d)),.sh (.int (n:Int)),.ow (.li ((rg fl.length (λk=>stL ps fl L m k+arr ps L m k - su (L.take j) λl=>if l.t=m/\zs1 ps l.at_=k then l.am else 0)).map .int)),.sh (.int (m:Int)),.ow (.li ((rg ps.length (gL (L.take j) m)).map .int)),I,O]) ⟨I,?_⟩ ?_ ?_
   ·rw[zo7 (φ:=λk=>stL ps fl L m k+su L λl=>if l.t+pl ps l.at_=m/\zp9 ps l.at_=k then l.am else 0) (ψ:=λk=>stL ps fl L m k+arr ps L m k - su (L.take 0) λl=>if l.t=m/\zs1 ps l.at_=k then l.am else 0) λk _=>by rw[z5,zs6,Int.sub_zero];rfl];rfl
   ·rintro j l U hl ⟨I,rfl⟩;have hlm:=G.lt l (wJ hl);obtain⟨p,ep,e1,e2,e3,pu,pv,pok,hw⟩:=pgp l (wJ hl);have gp:atI (ps.map Pi.d) ((l.at_:Nat):Int)=some (.tuple [.int (p.u:Int),.int (p.v:Int),.int (p.len:Int),.int p.pr,p.g.d]):=gm Pi.d ep;have amn:∀(c:Le->Prop) [DecidablePred c],∀l∈L,0<=if c l then l.am else 0:=λc _ l hl=>by have:=(G.lt l hl).2.2;split <;> lia
    have c1:=zhh (amn λx=>x.t=m/\x.at_=l.at_) (j+1);have c2:=zhh (amn λx=>x.t=m/\zs1 ps x.at_=p.u) (j+1);have c3:=G.cap m l.at_ hlm.2.1;have c4:=G.nn m p.u (by lia) pu;have c5:=zhf ps fl L m p.u;rw[zkf hl,zhp]at c1 c2;rw[hw m]at c3;have f1:l.t=m->gL (L.take j) m l.at_+l.am<=p.g.at m:=λz=>by
     have c1:gL (L.take j) m l.at_+(if l.t=m/\l.at_=l.at_ then l.am else 0)<=gL L m l.at_:=c1;rw[aH ⟨z,rfl⟩]at c1;lia
    have f2:l.t=m->0<=(stL ps fl L m p.u+arr ps L m p.u - su (L.take j) λl=>if l.t=m/\zs1 ps l.at_=p.u then l.am else 0) - l.am:=λz=>by
     rw[aH ⟨z,e1⟩]at c2;have c5:lieR ps fl L m p.u=stL ps fl L m p.u+arr ps L m p.u - su L λl=>if l.t=m/\zs1 ps l.at_=p.u then l.am else 0:=c5
     lia
    clear c1 c2 c3 c4 c5;have gs:gL (L.take j++[l]) m=λi=>gL (L.take j) m i+if l.t=m/\l.at_=i then l.am else 0:=funext λi=>zra1 _ _ _ _
    rw[zkf hl,gs];simp only[zhp];generalize hφ:(λk=>stL ps fl L m k+arr ps L m k - su (L.take j) λl=>if l.t=m/\zs1 ps l.at_=k then l.am else 0)=φ;have hψ:∀k,stL ps fl L m k+arr ps L m k - ((su (L.take j) λl=>if l.t=m/\zs1 ps l.at_=k then l.am else 0)+if l.t=m/\zs1 ps l.at_=k then l.am else 0)=φ k - if l.t=m/\p.u=k then l.am else 0:=λk=>by subst hφ;rw[e1];exact(Int.sub_sub _ _ _).symm
    have f2:l.t=m->0<=φ p.u - l.am:=λz=>by subst hφ;exact f2 z
    simp only[hψ];clear hφ hψ gs;generalize gL (L.take j) m=υ at f1 ⊢;have S:=hlm.2.1;obtain⟨lt,la,W⟩:=l;generalize L.map Le.d=LD;dsimp only[Le.d]at gp f1 f2 S ⊢;walk_at"dd";walk_at"k";refine two (λz=>?_) λz=>⟨.sh (.tuple [.int (lt:Int),.int (la:Int),.int W]),?_⟩
    ·have z:lt=m:=by lia
     have f1:=f1 z;have f2:=f2 z;walk_at"a";walk_at"k";refine⟨_,gp,?_⟩;walk_at"dd";walk_at"k";refine⟨by lia,_,zlf1 pu,_,rfl,?_⟩;walk_at"dd";refine⟨p.u,zgm (by rw[u5,zcw];exact pu),hJ _ ?_⟩;clear hJ;rw[za01 (ψ:=λk=>φ k - if lt=m/\p.u=k then W else 0) _ pu (by rw[aH ⟨z,rfl⟩]) λk _ hk=>by rw[aF λy=>hk y.2.symm];lia];walk_at"a";walk_at"k";refine⟨by lia,_,zlf1 S,_,rfl,?_⟩;walk_at"dd";refine⟨la,zgm (by rw[u5,zcw];exact S),hJ _ ?_⟩;clear hJ;rw[za01 (ψ:=λi=>υ i+if lt=m/\la=i then W else 0) _ S (by rw[aH ⟨z,rfl⟩]) λk _ hk=>by rw[aF λy=>hk y.2.symm];lia];walk_at"dd";walk_at"k";refine⟨_,zjb1 S,_,rfl,?_⟩;walk_at"dd";refine⟨_,gp,?_⟩;walk_at"dd";refine⟨_,rfl,p.g,m,rfl,pok,?_⟩;walk_at"dd";rw[aH z,aF (by lia)];walk_at"k";refine⟨_,gp,?_⟩;walk_at"dd";walk_at"k";refine⟨_,zjb1 pu,?_⟩;walk_at"dd";rw[aH z,aF (by lia)];exact⟨_,rfl⟩
    ·rw[zo7 (φ:=φ) (ψ:=λk=>φ k - if lt=m/\p.u=k then W else 0) λk _=>by rw[aF λy=>z (by lia)];lia,zo7 (φ:=υ) (ψ:=λi=>υ i+if lt=m/\la=i then W else 0) λk _=>by rw[aF λy=>z (by lia)];lia]
   ·rintro U ⟨I,rfl⟩;rw[xM];walk_at"f";have e:rg fl.length (λk=>stL ps fl L m k+arr ps L m k - su L λl=>if l.t=m/\zs1 ps l.at_=k then l.am else 0)=rg fl.length (lieR ps fl L m):=zo7 λk _=>(zhf ps fl L m k).symm;rw[e];walk_at"dd";rw[u5,v6];refine⟨by lia,by lia,?_⟩;refine zj2 (λi U=>∃O:Sl,U=[.sh (.list (vs.map Va.d)),.sh (.list (ps.map Pi.d)),.sh (.list (L.map Le.d)),.sh (.int (n:Int)),.ow (.li ((rg fl.length (lieR ps fl L m)).map .int)),.sh (.int (m:Int)),.ow (.li ((rg ps.length (gL L m)).map .int)),I,O]) ⟨O,rfl⟩ ?_ ?_
    ·rintro i k U hk ⟨O,rfl⟩;obtain⟨Y,Z⟩:=wI.mp hk;simp at Y Z;subst Z;rw[show(0:Int)+(i:Int)=(i:Int) by lia];have ev:vs[i]?=some vs[i]:=u4 Y;have hr:=(hv i _ ev).2 m (by lia);walk_at"dd";refine⟨_,zjb1 (by lia),_,gm Va.d ev,?_⟩;unfold Va.d;walk_at"dd";walk_at"k";rw[aF (by lia)];exact⟨_,rfl⟩
    ·rintro U ⟨O,rfl⟩;refine⟨.sh (.int (m:Int)),.ow (.li ((rg ps.length (gL L m)).map .int)),I,O,?_⟩;rw[zo7 (φ:=stL ps fl L (m+1)) (ψ:=lieR ps fl L m) λk _=>aF (zR m)]
 ·rintro U ⟨s5,s6,I,O,rfl⟩;rw[wT];walk_at"f";walk_at"dd";rw[zo7 (φ:=stL ps fl L (n+1)) (ψ:=lieR ps fl L n) λk _=>aF (zR n)];exact q
end
def zu9:List Pi->Nat
|[]=>0
|p :: r=>max (zpl p.g) (zu9 r)
theorem zhg(p:Pi):∀l,zu9 (l++[p])=max (zu9 l) (zpl p.g)
|[]=>Nat.max_comm _ _
|q :: r=>by show max _ (zu9 (r++[p]))=_;rw[zhg p r];exact(Nat.max_assoc _ _ _).symm
theorem zxi:∀{l:List Pi}{p:Pi},p∈l->zpl p.g<=zu9 l
|q :: r,p,h=>by
  rcases vT.mp h with rfl|h
  ·exact Nat.le_max_left _ _
  ·exact wX (zxi h) (Nat.le_max_right _ _)
theorem zoe:∀l:List Pi,zu9 l=0 \/ ∃p∈l,zpl p.g=zu9 l
|[]=>.inl rfl
|q :: r=>by
  have e:zu9 (q :: r)=max (zpl q.g) (zu9 r):=rfl;rcases Nat.le_total (zu9 r) (zpl q.g)with h|h
  ·exact .inr ⟨q,by simp,by lia⟩
  ·rcases zoe r with z|⟨p,u,z⟩
   ·exact .inl (by lia)
   ·exact .inr ⟨p,by simp[u],by lia⟩
def zhm(p:Pi):Option Int:=match p.g with
|.la _ f=>some (f:Int)
|_=>none
theorem zjh{p:Pi}{x:Int}(h:zhm p=some x):x=(zpl p.g:Int):=by
 unfold zhm at h;generalize p.g=g at h ⊢;cases g <;> cases h;rfl
theorem zwf{p:Pi}(h:zhm p=none):zpl p.g=0:=by
 unfold zhm at h;generalize p.g=g at h ⊢;cases g <;> first|rfl|cases h
theorem zv11{ps:List Pi}(h:M∈ps.filterMap zhm)(J:∀y∈ps.filterMap zhm,y<=M):M=(zu9 ps:Int):=by
 obtain⟨p,I,e⟩:=yP.mp h;have:=zxi I;have:=zjh e;rcases zoe ps with z|⟨B,u,z⟩
 ·lia
 ·cases q:zhm B with
 |none=>have:=zwf q;lia
 |some x =>
   have:=zjh q;have:=J x (yP.mpr ⟨B,u,q⟩);lia
theorem zdz{ps:List Pi}(h:ps.filterMap zhm=[]):zu9 ps=0:=by
 rcases zoe ps with z|⟨p,q,z⟩
 ·exact z
 ·rw[<- z];cases e:zhm p with
 |none=>exact zwf e
 |some x =>
   have:x∈ps.filterMap zhm:=yP.mpr ⟨p,q,e⟩;rw[h]at this;simp at this
def lenL(ps:List Pi):Int:=(ps.map λp=>(p.len:Int)).sum
def lkO(x:Va×Int):Int:=if 0 > x.2 - x.1.fill then 0 else x.2 - x.1.fill
def lkS(vs:List Va)(ws:List Int):Int:=((vs.zip ws).map lkO).sum
def zym:DSp:=λds Q=>∃(vs:List Va)(ps:List Pi)(ws:List Int),ds=[dY vs ps,.list (ws.map .int)]/\vs.length<=12/\ps.length<=24/\CMul (lkS vs ws) (lenL ps)/\Q (.int ((zu9 ps:Int)+lkS vs ws * lenL ps))
def ztc:DSp:=λds Q=>∃(ps:List Pi)(k:Int),ds=[.list (ps.map Pi.d),.int k]/\ps.length<=24/\CMul k (lenL ps)/\Q (.int ((zu9 ps:Int)+k * lenL ps))
section
variable {P:aN}{w:aP}{K:Fg}{mg:Str->Option aA}{base:aT}
theorem znl{α:Type}(l:List α)(f:α->Int):zpd (l.map λx=>u6 (f x))=some (l.map f):=by
 rw[show(l.map λx=>u6 (f x))=(l.map f).map u6 by rw[wE];rfl];exact ints_map _
theorem zzk:FnScope ["yard", "wants", "late", "lacking"] ["yard", "wants"] (zh0 zba):=by walk_at"sc"
theorem zdv(M:Md K mg)(T:TopDef K "surely" zba)(qG:mg "max"=none)(jQ:mg "sum"=none)(uL:mg "zip"=none):Def P w K mg base "surely" 1 ["yard", "wants"] (spD K zym):=by
 refine zx2 M T zzk (by walk_at"h") (zy9 (by walk_at"i")) (zv2 ?_);walk_at"g";have nd:=zzk.nd;refine⟨_,_,(zd0 (pset 2 nd (zdd1 (K:=K) rfl rfl rfl qG zsr (zp2 (sc:=zh0 zba) (N:=["yard", "wants", "late", "lacking"]) (own:=["pipe"]) (ix:=[]) rfl rfl rfl (by walk_at"csc") (pi_W (K:=K) rfl (pix w K hr (pv 0) ze0)) (λ_ _ _ _=>⟨(pgn 0 (nds ["pipe"])),(zid (zs0 (zf4 (K:=K) rfl (Room.units hr)) (pix w K hr (pix w K hr (pv 0) ze0) ze0) zi5 (zf1 _))),(pix w K hr (pix w K hr (pv 0) ze0) ze0)⟩)) ze0))
   (zd0 (pset 3 nd (zp0 (zd2 (K:=K) rfl rfl) rfl jQ zrb (za0 (zp2 (sc:=zh0 zba) (N:=["yard", "wants", "late", "lacking"]) (own:=["vat", "want"]) (ix:=[]) rfl rfl rfl (by walk_at"csc") (zv31 (K:=K) rfl rfl uL (za0 (pix w K hr (pv 0) ze0) (za0 (pv 1) zg0))) (λ_ _ _ _=>⟨(zb7 (K:=K) (n:=2) rfl rfl (zp1 (pgn 0 (nds ["vat", "want"])) (zp1 (pgn 1 (nds ["vat", "want"])) za7))),zx1,(zp0 (zib rfl) rfl qG zsr (za0 (zj1 zw9 (pv 1) (pix w K hr (pv 0) ze0)) (za0 ze0 zg0)))⟩)) zg0)))
   (zj0 (za1 (zj1 (zk1 (K:=K) rfl) (pv 2) (zj1 zt9 (pv 3) (zp0 (zd2 (K:=K) rfl rfl) rfl jQ zrb (za0 (zp2 (sc:=zh0 zba) (N:=["yard", "wants", "late", "lacking"]) (own:=["pipe"]) (ix:=[]) rfl rfl rfl (by walk_at"csc") (pi_W (K:=K) rfl (pix w K hr (pv 0) ze0)) (λ_ _ _ _=>⟨(pgn 0 (nds ["pipe"])),zx1,(pix w K hr (pv 0) ze0)⟩)) zg0)))))))),(zl0 (zb1 (zvd1 (RfF.e (zr1 (zsm (RfE.v (zk0 r_ix (zb0 0) rvi))) (zh1 (i:=0) (n:=1) (by decide)) (zr0 (zq2 q_eq (RfV.h (RfE.v (zk0 r_ix (RfE.v (zk0 r_ix (zb0 0) rvi)) rvi))) (RfV.h (RfE.v zf5)))) (zk0 r_ix (RfE.v (zk0 r_ix (zb0 0) rvi)) rvi))) zn1) (rgn 2))
   (zl0 (zb1 (zl5 zoq (zo0 (RfE.v (RfF.e (zr1 (zq31 (zo0 (RfE.v (zk0 r_ix (zb0 0) rvi)) (zo0 (zb0 1) ze1))) (zjc (zo1 (zh1 (i:=0) (n:=2) (by decide)) (zo1 (zh1 (i:=1) (n:=2) (by decide)) zw6))) zm2 (zl5 zsv (zo0 (RfE.v (zk0 zyl (zb0 1) (RfE.v (zk0 r_ix (zb0 0) rvi)))) (zo0 rvi ze1)))))) ze1)) (rgn 3))
   (zi1 (RfE.c (zk0 zg8 (zb0 2) (RfE.v (zk0 zi21 (zb0 3) (RfE.v (zl5 zoq (zo0 (RfE.v (RfF.e (zr1 (zsm (RfE.v (zk0 r_ix (zb0 0) rvi))) (zh1 (i:=0) (n:=1) (by decide)) zm2 (zk0 r_ix (zb0 0) rvi)))) ze1)))))))))),?_⟩
 rintro ds Qd ⟨vs,ps,ws,rfl,Y,Z,I,q⟩;walk_at"ds";walk_at"a";walk_at"k";refine zoy (λp=>(zhm p).map u6) (by rw[aQ];lia) (λp _=>?_) ?_
 ·clear hJ;obtain⟨u,v,l,pr,g⟩:=p;cases g with
 |la x f =>
   walk_at"cs";unfold Pi.d Gt.d;walk_at"dd";walk_at"k";walk_at"k";walk_at"k";exact⟨_,rfl,rfl⟩
 |_ =>
   walk_at"cs";unfold Pi.d Gt.d;walk_at"dd";walk_at"k";walk_at"k";rw[aF (by decide +kernel)];rfl
 have W:ps.filterMap (λp=>(zhm p).map u6)=(ps.filterMap zhm).map u6:=by rw[k9]
 rw[W];have hJ:J [.sh (dY vs ps),.sh (.list (ws.map .int)),.sh (.int (zu9 ps:Int)),.un]:=hJ _ (by
  walk_at"c";walk_at"k";rw[zlp];refine zof (λx=>.int (lkO x)) (by rw[aQ,z9];lia) (λx _=>?_) ⟨_,znl _ _,hJ _ ?_⟩
  ·obtain⟨v,y⟩:=x;unfold Va.d;walk_at"cs";walk_at"dd";walk_at"k";rfl
  clear hJ;walk_at"dd";walk_at"k";refine zof (λp=>.int (p.len:Int)) (by rw[aQ];lia) (λp _=>?_) ⟨_,znl ps λp=>(p.len:Int),I,q⟩;unfold Pi.d;walk_at"cs";walk_at"dd";exact⟨_,rfl,rfl⟩)
 refine⟨_,_,rfl,ints_map _,λz=>?_,λ_ M S O=>?_⟩
 ·rw[zdz z]at hJ;exact hJ
 ·rw[zv11 S O];exact hJ
theorem zd9:FnScope ["pipes", "lack", "late", "pipe"] ["pipes", "lack"] (zh0 zm4):=by walk_at"sc"
theorem zjf(M:Md K mg)(T:TopDef K "_law_surely" zm4)(qG:mg "max"=none)(jQ:mg "sum"=none):Def P w K mg base "_law_surely" 1 ["pipes", "lack"] (spD K ztc):=by
 refine zx2 M T zd9 (by walk_at"h") (zy9 (by walk_at"i")) (zv2 ?_);walk_at"g";have nd:=zd9.nd;refine⟨_,_,(zd0 (pset 2 nd ze0)
   (zd0 (zo5 aW rfl (pi_W (K:=K) rfl (pv 0)) (pgn 3 nd) (zj0 (zv6 (zs0 (zf4 (K:=K) rfl (Room.units hr)) (pix w K hr (pix w K hr (pv 3) ze0) ze0) zi5 (zf1 _)) (zj0 (pset 2 nd (zp0 (zib rfl) rfl qG zsr (za0 (pv 2) (za0 (pix w K hr (pix w K hr (pv 3) ze0) ze0) zg0))))) zl1)))
   (zj0 (za1 (zj1 (zk1 (K:=K) rfl) (pv 2) (zj1 zt9 (pv 1) (zp0 (zd2 (K:=K) rfl rfl) rfl jQ zrb (za0 (zp2 (sc:=zh0 zm4) (N:=["pipes", "lack", "late", "pipe"]) (own:=["pipe"]) (ix:=[]) rfl rfl rfl (by walk_at"csc") (pi_W (K:=K) rfl (pv 0)) (λ_ _ _ _=>⟨(pgn 0 (nds ["pipe"])),zx1,(pix w K hr (pv 0) ze0)⟩)) zg0)))))))),(zl0 (zb1 zn1 (rgn 2))
   (zl0 (zr5 (zlo (zi0 0)) (rgn 3) (zu6 (zr0 (zq2 q_eq (RfV.h (RfE.v (zk0 r_ix (RfE.v (zk0 r_ix (zb0 3) rvi)) rvi))) (RfV.h (RfE.v zf5)))) (zb1 (zl5 zsv (zo0 (zb0 2) (zo0 (RfE.v (zk0 r_ix (RfE.v (zk0 r_ix (zb0 3) rvi)) rvi)) ze1))) (rgn 2)) zm1))
   (zi1 (RfE.c (zk0 zg8 (zb0 2) (RfE.v (zk0 zi21 (zb0 1) (RfE.v (zl5 zoq (zo0 (RfE.v (RfF.e (zr1 (zsm (zb0 0)) (zh1 (i:=0) (n:=1) (by decide)) zm2 (zk0 r_ix (zb0 0) rvi)))) ze1)))))))))),?_⟩
 rintro ds Qd ⟨ps,k,rfl,S,O,q⟩;walk_at"ds";walk_at"dn";walk_at"a";refine zj2 (λi U=>∃s3:Sl,U=[.sh (.list (ps.map Pi.d)),.sh (.int k),.sh (.int (zu9 (ps.take i):Int)),s3]) ⟨.un,rfl⟩ ?_ ?_
 ·rintro i p U I ⟨s3,rfl⟩;clear hJ;have z:zu9 (ps.take (i+1))=max (zu9 (ps.take i)) (zpl p.g):=by rw[List.take_add_one,I];exact zhg _ _
  generalize zu9 (ps.take i)=a at z ⊢;rw[z];clear z I O q;generalize ps.map Pi.d=W;obtain⟨u,v,l,pr,g⟩:=p;unfold Pi.d;cases g with
 |la x f =>
   unfold Gt.d;walk_at"dd";walk_at"k";walk_at"k";walk_at"k";walk_at"k";rw[show(if(f:Int) > (a:Int)then(f:Int)else(a:Int))=((max a (zpl (.la x f)):Nat):Int) by show _=((max a f:Nat):Int);split <;> lia];exact⟨_,rfl⟩
 |_ =>
   unfold Gt.d;walk_at"dd";walk_at"k";walk_at"k";rw[aF (by decide +kernel)];rw[show ∀g:Gt,zpl g=0->max a (zpl g)=a from λg e=>by rw[e];lia]
   ·exact⟨_,rfl⟩
   ·rfl
 ·rintro U ⟨s3,rfl⟩;rw[xM];walk_at"f";walk_at"dd";refine zof (λp=>.int (p.len:Int)) (by rw[aQ];lia) (λp _=>?_) ⟨_,znl ps λp=>(p.len:Int),O,q⟩;unfold Pi.d;walk_at"cs";walk_at"dd";exact⟨_,rfl,rfl⟩
end
theorem zax{α:Type}(l:List α)(g:α->Int)(f:Nat->Int)(h:∀i x,l[i]?=some x->f i=g x):su (u3 l.length) f=(l.map g).sum:=by
 unfold su;congr 1;refine yX (by simp) λi p q=>?_;simp at p;simp[h i l[i] (u4 p)]
theorem sum_nn'{α:Type}{l:List α}{f:α->Int}(h:∀x∈l,0<=f x):0<=(l.map f).sum:=ztb1 h
section
variable {vs:List Va}{ps:List Pi}{ws:List Int}{n:Nat}
theorem zff1(x:Va×Int):0<=lkO x:=by unfold lkO;split <;> lia
theorem zbd1:0<=lkS vs ws:=sum_nn' λx _=>zff1 x
theorem zsx:0<=lenL ps:=sum_nn' λp _=>by lia
theorem sure(y:YOk vs ps ws)(W:∀p∈ps,Px vs.length p)(hn:(n:Int)=(zu9 ps:Int)+lkS vs ws * lenL ps)
  (cl:∀S:List Nat,S.Nodup->(∀v∈S,v < vs.length)->(∀p∈ps.map Pi.pp,p.v∈S->p.u∈S)->(S.map λv=>fx ws v - fx (vs.map Va.fill) v).sum<=0) :
  (ntOf vs ps n).Sure (cW ws) ps.length (lenL ps).toNat (zu9 ps) (lkS vs ws).toNat:=by
 have Z:∀i,i < ps.length->∃p,ps[i]?=some p/\p∈ps:=λi hi=>⟨_,u4 hi,xE hi⟩
 have gv:∀k,k < vs.length->∃v x,vs[k]?=some v/\v∈vs/\ws[k]?=some x:=λk Y=>⟨_,_,u4 Y,xE Y,u4 (by have:=y.lw;lia)⟩
 have ef:∀k,(ntOf vs ps n).fl k=fx (vs.map Va.fill) k:=λk=>by
  show((vs[k]?).map Va.fill).getD 0=_;unfold fx;rw[u8]
 have ec:∀k,cW ws k=fx ws k:=λk=>by
  unfold cW fx;rw[v4]
 have J:=zbd1 (vs:=vs) (ws:=ws);have O:=zsx (ps:=ps);refine⟨λk Y=>?_,λi hi=>?_,λm i hi h=>zia1 hi h,λm i hi=>?_,λm i hi B=>?_,?_,?_,?_,λS nd hb hc=>?_⟩
 ·obtain⟨v,x,I,e2,e3⟩:=gv k Y;have a:(ntOf vs ps n).fl k=v.fill:=by show((vs[k]?).map Va.fill).getD 0=_;rw[I];rfl
  have b:(ntOf vs ps n).rm k=v.room:=by show((vs[k]?).map Va.room).getD 0=_;rw[I];rfl
  have c:cW ws k=x:=by unfold cW;rw[v4,e3];rfl
  have:=y.vf v e2;have:=y.wr k v x I e3;rw[a,b,c];exact⟨by lia,by lia,by lia,by lia⟩
 ·obtain⟨p,e,B⟩:=Z i hi;have a:(ntOf vs ps n).U i=p.u:=by show((ps[i]?).map Pi.u).getD 0=_;rw[e];rfl
  have b:(ntOf vs ps n).Ln i=p.len:=by show((ps[i]?).map Pi.len).getD 0=_;rw[e];rfl
  rw[a,b];exact⟨(W p B).1.1,(W p B).1.2.2.1⟩
 ·obtain⟨p,e,B⟩:=Z i (zdx.2 i hi).1;show 0<=zmb ps i m;unfold zmb;rw[e];exact(W p B).2.2.1.2 m
 ·obtain⟨p,e,z⟩:=Z i hi;show 1<=zmb ps i m;unfold zmb;rw[e];exact(W p z).2.2.2.2.2 m (wX (zxi z) B)
 ·rw[zN O];exact zax ps _ _ λi p e=>by show((((ps[i]?).map Pi.len).getD 0:Nat):Int)=_;rw[e];rfl
 ·show zu9 ps+(lkS vs ws).toNat * (lenL ps).toNat<=n;have:((zu9 ps+(lkS vs ws).toNat * (lenL ps).toNat:Nat):Int)=(n:Int):=by
   rw[Int.natCast_add,Int.natCast_mul,zN J,zN O,hn]
  lia
 ·rw[zN J];refine Int.le_of_eq ?_;have hz:(vs.zip ws).length=vs.length:=by rw[z9,y.lw,Nat.min_self]
  show su (u3 vs.length) _=_;rw[<- hz];refine zax (vs.zip ws) _ _ λi x e=>?_;obtain⟨v,x⟩:=x;obtain⟨I,e2⟩:=List.getElem?_zip_eq_some.mp e;have a:(ntOf vs ps n).fl i=v.fill:=by show((vs[i]?).map Va.fill).getD 0=_;rw[I];rfl
  have c:cW ws i=x:=by unfold cW;rw[v4,e2];rfl
  rw[a,c];unfold lkO;show(if v.fill < x then x - v.fill else 0)=if 0 > x - v.fill then 0 else x - v.fill
  split <;> split <;> lia
 ·have:=cl S nd hb λq hq hv=>by
   obtain⟨p,z,rfl⟩:=vV.mp hq;obtain⟨i,hi,e⟩:=zY z;have e:ps[i]?=some p:=by rw[u4 hi,e]
   have a:(ntOf vs ps n).U i=p.u:=by show((ps[i]?).map Pi.u).getD 0=_;rw[e];rfl
   have b:(ntOf vs ps n).V i=p.v:=by show((ps[i]?).map Pi.v).getD 0=_;rw[e];rfl
   have:=hc i hi (by rw[b];exact hv);rw[a]at this;exact this
  unfold su;rw[x6 λv _=>show cW ws v - (ntOf vs ps n).fl v=fx ws v - fx (vs.map Va.fill) v by rw[ef,ec]];exact this
theorem zmm(y:YOk vs ps ws)(z:ZOk vs (ps.map Pi.pp) ws)(u:∀p∈ps,Px vs.length p)(B:(n:Int)=(zu9 ps:Int)+lkS vs ws * lenL ps)(I:IsCut vs (ps.map Pi.pp) ws .none)(q:Ovr vs ps ws n M side)(h:M < ws.sum):False:=by
 rcases I.some z with⟨_,cl⟩|⟨l,e,_⟩
 ·have:=(sure y u B cl).met (X:=λm k=>(ntOf vs ps n).nd m k ∉ side);rw[show(ntOf vs ps n).over (cW ws) (λm k=>(ntOf vs ps n).nd m k ∉ side)=M from q.symm]at this;rw[zaw,y.lw]at h;exact aL h (Int.not_lt.mpr this)
 ·cases e
end
def zm9:DSp:=λds Q=>∃(L:List Le)(ps:List Pi)(n:Nat),ds=[.list (L.map Le.d),.list (ps.map Pi.d),.int (n:Int)]/\(∀l∈L,l.t < n/\l.at_ < ps.length/\1<=l.am)/\Q (.bool true)
def zjd:DSp:=λds Q=>∃(vs:List Va)(ps:List Pi)(ws:List Int)(l:List Nat),ds=[.list (vs.map Va.d),.list (ps.map Pi.d),.list (ws.map .int),.list (l.map nI)]/\vs.length<=3/\ws.length=vs.length/\l.Pairwise (· < ·)/\(∀v∈l,v < vs.length)/\(∀p∈ps,p.v∈l->p.u∈l)/\0 < (l.map λv=>fx ws v - fx (vs.map Va.fill) v).sum/\Q (.bool true)
section
variable {P:aN}{w:aP}{K:Fg}{mg:Str->Option aA}{base:aT}
theorem zr7:FnScope ["plan", "pipes", "until", "one"] ["plan", "pipes", "until"] (zh0 zw4):=by walk_at"sc"
theorem ztb(M:Md K mg)(T:TopDef K "_law_lettings" zw4)(kt:Kit K)(jI:mg "isinstance"=none)(jK:mg "len"=none)(jW:mg "list"=none)(qL:mg "tuple"=none)(p:Def P w K mg base "_law_whole" 1 ["found"] (spD K zb2)):Def P w K mg base "_law_lettings" 2 ["plan", "pipes", "until"] (spD K zm9):=by
 refine zx2 M T zr7 (by walk_at"h") (zy9 (by walk_at"i")) (zv2 ?_);walk_at"g";have nd:=zr7.nd;refine⟨_,(dSeq (dIf (dNot (dTru (dIs "list" (zx0 0)))) (dRet (cE (dC (.bool false)))) zfe)
   (dSeq (dFor (dIt (dVar 0)) (gN 3) (dSeq (dIf (dOr (dNot (dTru (dIs "tuple" (zx0 3)))) (ze8 (dOp fNe (dCB fLen (zw0 (zx0 3) dNil)) (dC (.int 3))))) (dRet (cE (dC (.bool false)))) zfe)
   (dSeq (dIf (dOr (dNot (dTru (zga zb2 (zw0 (dOp fIx (zx0 3) (dC (.int 0))) dNil)))) (dOr (dNot (dTru (zga zb2 (zw0 (dOp fIx (zx0 3) (dC (.int 1))) dNil)))) (dNot (dTru (zga zb2 (zw0 (dOp fIx (zx0 3) (dC (.int 2))) dNil)))))) (dRet (cE (dC (.bool false)))) zfe)
   (dIf (dOr (ze8 (dOp fLt (dOp fIx (zx0 3) (dC (.int 0))) (dC (.int 0)))) (dOr (ze8 (dOp fGe (dOp fIx (zx0 3) (dC (.int 0))) (zx0 2))) (dOr (ze8 (dOp fLt (dOp fIx (zx0 3) (dC (.int 1))) (dC (.int 0)))) (dOr (ze8 (dOp fGe (dOp fIx (zx0 3) (dC (.int 1))) (dCB fLen (zw0 (zx0 1) dNil)))) (ze8 (dOp fLt (dOp fIx (zx0 3) (dC (.int 2))) (dC (.int 1)))))))) (dRet (cE (dC (.bool false)))) zfe))))
   (dRet (cE (dC (.bool true)))))),(zd0 (zv6 (zsb (zl3 (K:=K) rfl (zp0 (zea (K:=K) rfl) rfl jI zc2 (za0 (pv 0) (za0 (zod (v:=.ty "list") rfl jW ze9 rfl) zg0))) (λ_=>rfl))) (zj0 (za1 zom)) zl1)
   (zd0 (zo5 aW rfl (pi_W (K:=K) rfl (pv 0)) (pgn 3 nd) (zd0 (zv6 (PW.pt (zog (zsb (zl3 (K:=K) rfl (zp0 (zea (K:=K) rfl) rfl jI zc2 (za0 (pv 3) (za0 (zod (v:=.ty "tuple") rfl qL zbs rfl) zg0))) (λ_=>rfl))) (zgf (zs0 (zam (K:=K) rfl (Room.units hr)) (zp0 (zg1 (K:=K) rfl) rfl jK zg4 (za0 (pv 3) zg0)) ze0 (zf1 _))))) (zj0 (za1 zom)) zl1)
   (zd0 (zv6 (PW.pt (zog (zsb (zl3 (K:=K) rfl (zn0 p (rmn hr) rfl (za0 (pix w K hr (pv 3) ze0) zg0)) (λ_=>rfl))) (zog (zsb (zl3 (K:=K) rfl (zn0 p (rmn hr) rfl (za0 (pix w K hr (pv 3) ze0) zg0)) (λ_=>rfl))) (zgf (zsb (zl3 (K:=K) rfl (zn0 p (rmn hr) rfl (za0 (pix w K hr (pv 3) ze0) zg0)) (λ_=>rfl))))))) (zj0 (za1 zom)) zl1)
   (zj0 (zv6 (PW.pt (zog (zs0 zov (pix w K hr (pv 3) ze0) ze0 (zf1 _)) (zog (zs0 zha1 (pix w K hr (pv 3) ze0) (pv 2) (zf1 _)) (zog (zs0 zov (pix w K hr (pv 3) ze0) ze0 (zf1 _)) (zog (zs0 zha1 (pix w K hr (pv 3) ze0) (zp0 (zg1 (K:=K) rfl) rfl jK zg4 (za0 (pv 1) zg0)) (zf1 _)) (zgf (zs0 zov (pix w K hr (pv 3) ze0) ze0 (zf1 _)))))))) (zj0 (za1 zom)) zl1)))))
   (zj0 (za1 zom)))),(zl0 (zu6 (zxb (zi8 (RfE.v (zk51 kt (by simp) (zb0 0))))) (zi1 (RfE.c zcm)) zm1)
   (zl0 (zr5 (zlo (zi0 0)) (rgn 3) (zl0 (zu6 (zvg (zxb (zi8 (RfE.v (zk51 kt (by simp) (zb0 3))))) (zr0 (zq2 q_ne (RfV.h (RfE.v (zl5 zvc (zo0 (zb0 3) ze1)))) (RfV.h rvi)))) (zi1 (RfE.c zcm)) zm1)
   (zl0 (zu6 (zvg (zxb (zi8 (RfE.v (zu0 (zc0 (zk0 r_ix (zb0 3) rvi) zm0))))) (zvg (zxb (zi8 (RfE.v (zu0 (zc0 (zk0 r_ix (zb0 3) rvi) zm0))))) (zxb (zi8 (RfE.v (zu0 (zc0 (zk0 r_ix (zb0 3) rvi) zm0))))))) (zi1 (RfE.c zcm)) zm1)
   (zu6 (zvg (zr0 (zk0 r_lt (RfE.v (zk0 r_ix (zb0 3) rvi)) rvi)) (zvg (zr0 (zk0 r_ge (RfE.v (zk0 r_ix (zb0 3) rvi)) (zb0 2))) (zvg (zr0 (zk0 r_lt (RfE.v (zk0 r_ix (zb0 3) rvi)) rvi)) (zvg (zr0 (zk0 r_ge (RfE.v (zk0 r_ix (zb0 3) rvi)) (RfE.v (zl5 zvc (zo0 (zb0 1) ze1))))) (zr0 (zk0 r_lt (RfE.v (zk0 r_ix (zb0 3) rvi)) rvi)))))) (zi1 (RfE.c zcm)) zm1))))
   (zi1 (RfE.c zcm)))),?_⟩
 rintro ds Qd ⟨L,ps,n,rfl,hl,q⟩;walk_at"ds";walk_at"a";refine⟨λ_=>trivial,hJ _ ?_⟩;walk_at"c";refine zj2 (λ_ U=>∃s3:Sl,U=[.sh (.list (L.map Le.d)),.sh (.list (ps.map Pi.d)),.sh (.int (n:Int)),s3]) ⟨.un,rfl⟩ ?_ ?_
 ·rintro j l U u ⟨s3,rfl⟩;clear hJ;obtain⟨O,I,z⟩:=hl l (wJ u);generalize L.map Le.d=W;obtain⟨lt,la,S⟩:=l;dsimp only[Le.d]at O I z ⊢;walk_at"a";refine⟨λ_=>trivial,?_⟩;rw[aF (by decide)];walk_at"b";refine⟨_,rfl,_,rfl,?_⟩;walk_at"dd";refine⟨_,rfl,_,rfl,?_⟩;walk_at"dd";refine⟨_,rfl,_,rfl,?_⟩;walk_at"dd";walk_at"f";walk_at"dd";walk_at"k";rw[aF (by lia)];walk_at"k";rw[aF (by lia)];walk_at"k";rw[aF (by lia)];walk_at"k";rw[u5,aF (by lia)];walk_at"k";rw[aF (by lia)];exact⟨_,rfl⟩
 ·rintro U ⟨s3,rfl⟩;walk_at"f";walk_at"dd";exact q
theorem zna:FnScope ["vats", "pipes", "wants", "some", "vat", "pipe"] ["vats", "pipes", "wants", "some"] (zh0 zf6):=by walk_at"sc"
theorem zlh(M:Md K mg)(T:TopDef K "_law_lacks" zf6)(kt:Kit K)(jI:mg "isinstance"=none)(jK:mg "len"=none)(jW:mg "list"=none)(vK:mg "set"=none)(kX:mg "sorted"=none)(jQ:mg "sum"=none)(jN:Def P w K mg base "_law_whole" 1 ["found"] (spD K zb2)):Def P w K mg base "_law_lacks" 2 ["vats", "pipes", "wants", "some"] (spD K zjd):=by
 refine zx2 M T zna (by walk_at"h") (zy9 (by walk_at"i")) (zv2 ?_);walk_at"g";have nd:=zna.nd;refine⟨_,(dSeq (dIf (dOr (dNot (dTru (dIs "list" (zx0 3)))) (ze8 (dOp fNe (zx0 3) (dF (znz (dVar 3)))))) (dRet (cE (dC (.bool false)))) zfe)
   (dSeq (dFor (dIt (dVar 3)) (gN 4) (dIf (dOr (dNot (dTru (zga zb2 (zw0 (dVar 4) dNil)))) (dOr (ze8 (dOp fLt (zx0 4) (dC (.int 0)))) (ze8 (dOp fGe (zx0 4) (dCB fLen (zw0 (zx0 0) dNil)))))) (dRet (cE (dC (.bool false)))) zfe))
   (dSeq (dFor (dIt (dVar 1)) (gN 5) (dIf (dAnd (ze8 (dOp (fIn false) (dOp fIx (zx0 5) (dC (.int 1))) (zx0 3))) (ze8 (dOp (fIn true) (dOp fIx (zx0 5) (dC (.int 0))) (zx0 3)))) (dRet (cE (dC (.bool false)))) zfe))
   (dRet (cE (dOp fGt (dCB fSum (zw0 (dF (zxf (dIt (zx0 3)) 1 [2,0] (gN 0) zki (dOp fSub (dOp fIx (zx0 1) (zx0 0)) (dOp fIx (dOp fIx (zx0 2) (zx0 0)) (dC (.int 2)))))) dNil)) (dC (.int 0)))))))),(zd0 (zv6 (PW.pt (zog (zsb (zl3 (K:=K) rfl (zp0 (zea (K:=K) rfl) rfl jI zc2 (za0 (pv 3) (za0 (zod (v:=.ty "list") rfl jW ze9 rfl) zg0))) (λ_=>rfl))) (zgf (zs0 (zam (K:=K) rfl (Room.units hr)) (pv 3) (zp0 (zfq rfl) rfl kX zrk (za0 (zb3 (zbu (K:=K) rfl rfl) rfl vK zpd1 (za0 (pv 3) zg0)) zg0)) (zf1 _))))) (zj0 (za1 zom)) zl1)
   (zd0 (zo5 aW rfl (pi_W (K:=K) rfl (pv 3)) (pgn 4 nd) (zj0 (zv6 (PW.pt (zog (zsb (zl3 (K:=K) rfl (zn0 jN (rmn hr) rfl (za0 (pv 4) zg0)) (λ_=>rfl))) (zog (zs0 zov (pv 4) ze0 (zf1 _)) (zgf (zs0 zha1 (pv 4) (zp0 (zg1 (K:=K) rfl) rfl jK zg4 (za0 (pv 0) zg0)) (zf1 _)))))) (zj0 (za1 zom)) zl1)))
   (zd0 (zo5 aW rfl (pi_W (K:=K) rfl (pv 1)) (pgn 5 nd) (zj0 (zv6 (PW.pt (zao (zs0 (zea1 (w:=w) (K:=K) (Room.units hr) rfl rfl) (pix w K hr (pv 5) ze0) (pv 3) (by with_unfolding_all rfl)) (zdh (zs0 (zjb (w:=w) (K:=K) (Room.units hr) rfl rfl) (pix w K hr (pv 5) ze0) (pv 3) (by with_unfolding_all rfl))))) (zj0 (za1 zom)) zl1)))
   (zj0 (za1 (zld zxt (zp0 (zd2 (K:=K) rfl rfl) rfl jQ zrb (za0 (zp2 (sc:=zh0 zf6) (N:=["vats", "pipes", "wants", "some", "vat", "pipe"]) (own:=["vat"]) (ix:=[2,0]) rfl rfl rfl (by walk_at"csc") (pi_W (K:=K) rfl (pv 3)) (λ_ _ _ _=>⟨(pgn 0 (nds ["vat", "wants", "vats"])),zx1,(zj1 zw9 (pix w K hr (pv 1) (pv 0)) (pix w K hr (pix w K hr (pv 2) (pv 0)) ze0))⟩)) zg0)) ze0 (zf1 _))))))),(zl0 (zu6 (zvg (zxb (zi8 (RfE.v (zk51 kt (by simp) (zb0 3))))) (zr0 (zq2 q_ne (RfV.h (zb0 3)) (RfV.h (RfE.v (RfF.e (zry (zi0 3)))))))) (zi1 (RfE.c zcm)) zm1)
   (zl0 (zr5 (zlo (zi0 3)) (rgn 4) (zu6 (zvg (zxb (zi8 (RfE.v (zu0 (zc0 (zi0 4) zm0))))) (zvg (zr0 (zk0 r_lt (zb0 4) rvi)) (zr0 (zk0 r_ge (zb0 4) (RfE.v (zl5 zvc (zo0 (zb0 0) ze1))))))) (zi1 (RfE.c zcm)) zm1))
   (zl0 (zr5 (zlo (zi0 1)) (rgn 5) (zu6 (zlr (zr0 (zk0 r_in (RfE.v (zk0 r_ix (zb0 5) rvi)) (zb0 3))) (zr0 (zk0 znx (RfE.v (zk0 r_ix (zb0 5) rvi)) (zb0 3)))) (zi1 (RfE.c zcm)) zm1))
   (zi1 (RfE.c (zk0 r_gt (RfE.v (zl5 zoq (zo0 (RfE.v (RfF.e (zr1 (zsm (zb0 3)) (zh1 (i:=0) (n:=1) (by decide)) zm2 (zk0 zyl (RfE.v (zk0 r_ix (zb0 1) (zb0 0))) (RfE.v (zk0 r_ix (RfE.v (zk0 r_ix (zb0 2) (zb0 0))) rvi)))))) ze1))) rvi)))))),?_⟩
 rintro ds Qd ⟨vs,ps,ws,l,rfl,hn,hw,S,I,hlc,hlp,q⟩;walk_at"ds";have nd:l.Nodup:=S.imp λz=>wF z;have ll:=zy0 vs.length l nd I;have el:yN nI l=(l.map λv:Nat=>(v:Int)).map u6:=by rw[wE];rfl
 have fl:Fit 1 (.list (l.map nI)):=zs61 λ_ _=>Fit.int _;walk_at"a";refine⟨λ_=>trivial,l.map λv:Nat=>(v:Int),by rw[el],?_,λk hk=>?_,by rw[u5];lia,?_⟩
 ·rw[List.pairwise_map];exact S.imp λz=>by lia
 ·obtain⟨v,W,rfl⟩:=vV.mp hk;have:=I v W;exact⟨by lia,by lia⟩
 rw[<- el];refine⟨fl.shaped (by decide),fl.shaped (by decide),?_⟩;rw[_4.eqv_refl fl];refine two (λz=>by cases z) λ_=>hJ _ ?_;walk_at"c";refine zj2 (λ_ U=>∃Y,U=[.sh (.list (vs.map Va.d)),.sh (.list (ps.map Pi.d)),.sh (.list (ws.map .int)),.sh (.list (l.map nI)),Y,.un]) ⟨_,rfl⟩ ?_ ?_
 ·rintro i v U W ⟨Y,rfl⟩;clear hJ;have O:=I v (wJ W);walk_at"dd";walk_at"k";rw[u5,aF (by lia),aF (by lia)];exact⟨_,rfl⟩
 rintro U ⟨Y,rfl⟩;walk_at"b";refine zj2 (λ_ U=>∃Z,U=[.sh (.list (vs.map Va.d)),.sh (.list (ps.map Pi.d)),.sh (.list (ws.map .int)),.sh (.list (l.map nI)),Y,Z]) ⟨_,rfl⟩ ?_ ?_
 ·rintro j p U hp ⟨Z,rfl⟩;clear hJ;have hpm:=wJ hp;have i1:((l.map nI).any λy=>eqF y (.int (p.u:Nat)))=decide (p.u∈l):=zrv _ _;have i2:((l.map nI).any λy=>eqF y (.int (p.v:Nat)))=decide (p.v∈l):=zrv _ _;have ff:=zzr l;unfold Pi.d;walk_at"dd";walk_at"k";rw[i2];refine⟨ff,two (λa1=>?_) λa1=>⟨_,rfl⟩⟩;walk_at"k";rw[i1];refine⟨ff,two (λa2=>?_) λa2=>⟨_,rfl⟩⟩;exact aL (hlc p hpm (dB a1)) (by simpa using a2)
 rintro U ⟨Z,rfl⟩;walk_at"f";walk_at"dd";refine zof (λv=>.int (fx ws v - fx (vs.map Va.fill) v)) (by rw[aQ];lia) (λv W=>?_) ?_
 ·have O:=I v W;have gw:atI (ws.map u6) ((v:Nat):Int)=some (.int (fx ws v)):=zxc (by lia) (by
   rw[v6,u8];unfold fx;rw[u4 (by lia)];rfl)
  have gv:=gm Va.d (u4 O);have es:(vs[v]'O).fill=fx (vs.map Va.fill) v:=by unfold fx;rw[u8,u4 O];rfl
  walk_at"cs";walk_at"dd";refine⟨_,gw,_,gv,?_⟩;unfold Va.d;walk_at"dd";walk_at"k";rw[es]
 have e2:zpd (l.map λv=>u6 (fx ws v - fx (vs.map Va.fill) v))=some (l.map λv=>fx ws v - fx (vs.map Va.fill) v):=by
  rw[show(l.map λv=>u6 (fx ws v - fx (vs.map Va.fill) v))=(l.map λv=>fx ws v - fx (vs.map Va.fill) v).map u6 by rw[wE];rfl];exact ints_map _
 refine⟨_,e2,?_⟩;rw[bW hlp];exact q
end
structure Wk(far:Bool)(fl ws:List Int)(lk:Int)(a b:Nat):Prop where
 len:ws.length=fl.length
 ha:a < fl.length
 hb:b < fl.length
 hf:far=true->a=b
 hk:lk=if a=b then 1 else 2
 one:∀k,k=a \/ k=b->ws.getD k 0=fl.getD k 0+1
 no:∀k,k < fl.length->k≠a->k≠b->0<=ws.getD k 0/\ws.getD k 0<=fl.getD k 0
def zdd:DSp:=λds Q=>∃(ns fl:List Int)(p:Bool),ds=[.list (ns.map .int),.list (fl.map .int),.bool p]/\2<=fl.length/\fl.length<=3/\(∀x∈fl,0<=x/\x < 100000000000)/\∀ws q a b,Wk p fl ws q a b->Q (.tuple [.list (ws.map .int),.int q])
section
variable {P:aN}{w:aP}{K:Fg}{mg:Str->Option aA}{base:aT}
theorem zma:FnScope ["script", "fills", "far", "wants", "k", "cell", "less", "first", "second"] ["script", "fills", "far"] (zh0 zs8):=by walk_at"sc"
theorem zgh(M:Md K mg)(T:TopDef K "_law_wants" zs8)(uW:mg "int"=none)(jK:mg "len"=none)(qG:mg "max"=none)(jH:mg "range"=none)(Y:Def P w K mg base "_law_cell_at" 1 ["script", "k"] (spD K zq7)):Def P w K mg base "_law_wants" 2 ["script", "fills", "far"] (spD K zdd):=by
 refine zx2 M T zma (by walk_at"h") (zy9 (by walk_at"i")) (zv2 ?_);walk_at"g";have nd:=zma.nd;refine⟨_,_,(zd0 (pset 3 nd (zc3 zg0))
   (zd0 (zo5 aW rfl (zy1 rfl jH (za0 (zp0 (zg1 (K:=K) rfl) rfl jK zg4 (za0 (pv 1) zg0)) zg0)) (pgn 4 nd) (zd0 (pset 5 nd (zn0 Y (rmn hr) rfl (za0 (pv 0) (za0 (zj1 (zk1 (K:=K) rfl) ze0 (pv 4)) zg0))))
   (zd0 (pset 6 nd (pix w K hr (zc3 (za0 ze0 (za0 ze0 (za0 ze0 (za0 (zj1 zd3 (zj1 zv1 (pv 5) ze0) (zj1 zpp ze0 ze0)) zg0))))) (zj1 zd3 (pv 5) ze0)))
   (zj0 (zk2 (zy8 (K:=K) rfl ğa ğb ğc zz2 (pv 3) (za0 (zp0 (zib rfl) rfl qG zsr (za0 ze0 (za0 (zj1 zw9 (pix w K hr (pv 1) (pv 4)) (pv 6)) zg0))) zg0)))))))
   (zd0 (pset 7 nd (zj1 zd3 (zn0 Y (rmn hr) rfl (za0 (pv 0) (za0 ze0 zg0))) (zp0 (zg1 (K:=K) rfl) rfl jK zg4 (za0 (pv 1) zg0))))
   (zd0 (zgv (zj1 (zk1 (K:=K) rfl) (pix w K hr (pv 1) (pv 7)) ze0) (znv (pv 3) (pv 7) (zru (Room.units hr))))
   (zd0 (pset 8 nd (zj1 zd3 (zj1 zv1 (zn0 Y (rmn hr) rfl (za0 (pv 0) (za0 ze0 zg0))) ze0) (zp0 (zg1 (K:=K) rfl) rfl jK zg4 (za0 (pv 1) zg0))))
   (zd0 (zv6 (zl3 (K:=K) rfl (pv 2) (λ_=>rfl)) (zj0 (pset 8 nd (pv 7))) zl1)
   (zd0 (zgv (zj1 (zk1 (K:=K) rfl) (pix w K hr (pv 1) (pv 8)) ze0) (znv (pv 3) (pv 8) (zru (Room.units hr))))
   (zj0 (za1 (zq1 (za0 (pv 3) (za0 (zj1 zw9 ze0 (zb3 zfw rfl uW zsa1 (za0 (zld (zf4 (K:=K) rfl (Room.units hr)) (pv 7) (pv 8) (zf1 _)) zg0))) zg0)))))))))))),(zl0 (zi4 (RfF.c (zb8 zm0)))
   (zl0 (zr5 (zk6 (zc0 (zl5 zvc (zo0 (zb0 1) ze1)) zm0)) (rgn 4) (zl0 (zb1 (zu0 (zc0 (zi0 0) (zc0 (zk0 zg8 rvi (zb0 4)) zm0))) (rgn 5))
   (zl0 (zb1 (zk0 r_ix (RfE.v (RfF.e (zb8 (zc0 zn1 (zc0 zn1 (zc0 zn1 (zc0 (zk0 zxa (RfE.v (zk0 znh (zb0 5) rvi)) (RfE.v (zk0 ze81 rvi rvi))) zm0))))))) (RfE.v (zk0 zxa (zb0 5) rvi))) (rgn 6))
   (zl2 (zhj zaf (zv0 3) (zc0 (zl5 zsv (zo0 rvi (zo0 (RfE.v (zk0 zyl (RfE.v (zk0 r_ix (zb0 1) (zb0 4))) (zb0 6))) ze1))) zm0))))))
   (zl0 (zb1 (zk0 zxa (RfE.v (zu0 (zc0 (zi0 0) (zc0 zn1 zm0)))) (RfE.v (zl5 zvc (zo0 (zb0 1) ze1)))) (rgn 7))
   (zl0 (zkv (zk0 zg8 (RfE.v (zk0 r_ix (zb0 1) (zb0 7))) rvi) (zv0 3) (zi0 7))
   (zl0 (zb1 (zk0 zxa (RfE.v (zk0 znh (RfE.v (zu0 (zc0 (zi0 0) (zc0 zn1 zm0)))) rvi)) (RfE.v (zl5 zvc (zo0 (zb0 1) ze1)))) (rgn 8))
   (zl0 (zu6 (zi8 (zb0 2)) (zb1 (zi0 7) (rgn 8)) zm1)
   (zl0 (zkv (zk0 zg8 (RfE.v (zk0 r_ix (zb0 1) (zb0 8))) rvi) (zv0 3) (zi0 8))
   (zbd 3 [] (zi1 (RfE.c (zt2 (zc0 (zi0 3) (zc0 (zk0 zyl rvi (RfE.v (zl5 zbj1 (zo0 (RfE.v (zq2 q_eq (RfV.h (zb0 7)) (RfV.h (zb0 8)))) ze1)))) zm0))))))))))))),?_⟩
 rintro ds Qd ⟨ns,fl,u,rfl,n2,n3,hf,q⟩;have f0:∀k,k < fl.length->0<=fl.getD k 0:=λk p=>(hf _ (by rw[v4,u4 p];exact xE _)).1;walk_at"ds";walk_at"dn";walk_at"a";rw[u5];refine⟨by lia,by lia,?_⟩;rw[v6];unfold rngD;refine zj2 (λi U=>∃(ws:List Int)(W S O:Sl),ws.length=i/\(∀k,k < i->0<=ws.getD k 0/\ws.getD k 0<=fl.getD k 0)/\U=[.sh (.list (ns.map .int)),.sh (.list (fl.map .int)),.sh (.bool u),.ow (.li (ws.map .int)),W,S,O,.un,.un]) ⟨[],.un,.un,.un,rfl,λk h=>by lia,rfl⟩ ?_ ?_
 ·rintro i k U hx ⟨ws,W,S,O,hl,hw,rfl⟩;clear hJ;obtain⟨Z,h2⟩:=wI.mp hx;simp at Z h2;subst h2;rw[show(0:Int)+(i:Int)=(i:Int) by lia];walk_at"a";refine⟨ns,5+i,by rw[show(5:Int)+(i:Int)=((5+i:Nat):Int) by lia],by lia,λc=>hJ _ ?_⟩;clear hJ;obtain⟨x,hx0,hx1⟩:∃x:Int,atI [u6 0,.int 1,.int 2,.int (c / 4 % 100000000000)] (c % 4)=some (.int x)/\0<=x:=by
   rcases(show c % 4=0 \/ c % 4=1 \/ c % 4=2 \/ c % 4=3 by lia)with h|h|h|h <;> rw[h]
   ·exact⟨0,rfl,by lia⟩
   ·exact⟨1,rfl,by lia⟩
   ·exact⟨2,rfl,by lia⟩
   ·exact⟨_,rfl,by lia⟩
  walk_at"a";refine⟨by decide,_,hx0,hJ _ ?_⟩;clear hJ;walk_at"dd";refine⟨_,ga fl i Z,?_⟩;walk_at"dd";have f1:=f0 i Z;refine⟨by rw[u5];lia,ws++[if fl.getD i 0 - x > 0 then fl.getD i 0 - x else 0],_,_,_,by rw[vW,hl];rfl,λk p=>?_,by rw[wH];rfl⟩;rw[v4];by_cases e:k < i
  ·rw[wP (by lia),<- v4];exact hw k e
  ·obtain rfl:k=i:=by lia
   rw[wO (by lia),hl,Nat.sub_self];show 0<=(if fl.getD k 0 - x > 0 then fl.getD k 0 - x else 0)/\(if fl.getD k 0 - x > 0 then fl.getD k 0 - x else 0)<=_;split <;> lia
 ·rintro U ⟨ws,W,S,O,hl,hw,rfl⟩;rw[wT]at hl hw;walk_at"b";refine⟨ns,8,rfl,by lia,λc=>?_⟩;walk_at"dd";rw[u5];have a0:=zE c (b:=(fl.length:Int)) (by lia);have a1:=zF c (b:=(fl.length:Int)) (by lia);obtain⟨a,ha⟩:=xV a0;refine⟨by lia,hJ _ ?_⟩;clear hJ;rw[ha]at a1 ⊢;clear ha a0;walk_at"a";refine⟨_,ga fl a (by lia),?_⟩;walk_at"dd";refine⟨a,zgm (by rw[u5];lia),hJ _ ?_⟩;clear hJ;rw[<- zD];walk_at"a";refine⟨ns,8,rfl,by lia,λc2=>?_⟩;walk_at"dd";rw[u5];have b0:=zE (c2 / 3) (b:=(fl.length:Int)) (by lia);have I:=zF (c2 / 3) (b:=(fl.length:Int)) (by lia);obtain⟨b,hb⟩:=xV b0;refine⟨by lia,hJ _ ?_⟩;clear hJ;rw[hb]at I ⊢;clear hb b0;refine zef (λU=>∃b:Nat,b < fl.length/\(u=true->a=b)/\U=[.sh (.list (ns.map .int)),.sh (.list (fl.map .int)),.sh (.bool u),.ow (.li ((ws.set a (fl.getD a 0+1)).map .int)),W,S,O,.sh (.int (a:Int)),.sh (.int (b:Int))]) ?_ ?_
  ·walk_at"dd";exact two (λz=>⟨a,by lia,λ_=>rfl,rfl⟩) λz=>⟨b,by lia,λy=>aL y z,rfl⟩
  clear I b;rintro U ⟨b,I,hfa,rfl⟩;walk_at"a";refine⟨_,ga fl b I,?_⟩;walk_at"dd";refine⟨b,zgm (by rw[u5,wK];lia),hJ _ ?_⟩;clear hJ;rw[<- zD];walk_at"dd";have g:∀(l:List Int)(j k:Nat)(x:Int),j < l.length->(l.set j x).getD k 0=if k=j then x else l.getD k 0:=λl j k x hj=>by
   rw[v4,v4,xT];by_cases e:j=k
   ·subst e;rw[aH rfl,aH rfl,aH hj];rfl
   ·rw[aF e,aF λz=>e z.symm]
  have g2:∀k,((ws.set a (fl.getD a 0+1)).set b (fl.getD b 0+1)).getD k 0=if k=b then fl.getD b 0+1 else if k=a then fl.getD a 0+1 else ws.getD k 0:=λk=>by
   rw[g _ _ _ _ (by rw[wK];lia),g _ _ _ _ (by lia)]
  refine⟨_,_,rfl,rfl,q _ _ a b ⟨by rw[wK,wK];exact hl,by lia,I,hfa,?_,λk p=>?_,λk p ka kb=>?_⟩⟩
  ·by_cases e:a=b
   ·rw[aH (by lia),aH e];rfl
   ·rw[aF (by lia),aF e];rfl
  ·rw[g2];by_cases e:k=b
   ·rw[aH e,e]
   ·rw[aF e,aH (p.resolve_right e),p.resolve_right e]
  ·rw[g2,aF kb,aF ka];exact hw k p
end
section
variable {vs:List Va}{ps:List Pi}{ws fl:List Int}{lk:Int}{a b:Nat}{far:Bool}
theorem zgd1(W:Wk far fl ws lk a b)(n2:2<=fl.length)(Z:fl.length<=3)(p:vs.length=fl.length)(hf:∀(k:Nat) v,vs[k]?=some v->v.fill=fl.getD k 0):lkS vs ws=lk:=by
 have tk:∀(k:Nat) v x,vs[k]?=some v->ws[k]?=some x->lkO (v,x)=if k=a \/ k=b then 1 else 0:=λk v x I O=>by
  have h1:=hf k v I;have h2:ws.getD k 0=x:=by rw[v4,O];rfl
  have Y:k < fl.length:=by have:=(wI.mp I).1;lia
  show(if 0 > x - v.fill then 0 else x - v.fill)=_;by_cases e:k=a \/ k=b
  ·have:=W.one k e;rw[aH e,aF (by lia)];lia
  ·have:=W.no k Y (λz=>e (.inl z)) λz=>e (.inr z);rw[aF e];split <;> lia
 have ha:=W.ha;have hb:=W.hb;rw[W.hk];have hw:=W.len;unfold lkS
 match vs,ws,p,hw,tk with
|[B,u],[q,x1],p,hw,tk =>
  have S:=tk 0 B q rfl rfl;have I:=tk 1 u x1 rfl rfl;have e:(([B,u].zip [q,x1]).map lkO).sum=lkO (B,q)+(lkO (u,x1)+0):=rfl;have hl:fl.length=2:=p.symm;rw[e,S,I];rcases(show a=0 \/ a=1 by lia)with rfl|rfl <;> rcases(show b=0 \/ b=1 by lia)with rfl|rfl <;> rfl
|[B,u,J],[q,x1,x2],p,hw,tk =>
  have S:=tk 0 B q rfl rfl;have I:=tk 1 u x1 rfl rfl;have O:=tk 2 J x2 rfl rfl;have e:(([B,u,J].zip [q,x1,x2]).map lkO).sum=lkO (B,q)+(lkO (u,x1)+(lkO (J,x2)+0)):=rfl;have hl:fl.length=3:=p.symm;rw[e,S,I,O];rcases(show a=0 \/ a=1 \/ a=2 by lia)with rfl|rfl|rfl <;> rcases(show b=0 \/ b=1 \/ b=2 by lia)with rfl|rfl|rfl <;> rfl
|[],_,p,_,_=>exact aL p (by simp;lia)
|[_],_,p,_,_=>exact aL p (by simp;lia)
|_ :: _ :: _ :: _ :: r,_,p,_,_=>exact aL p (by simp;lia)
|[_,_],[],p,hw,_=>exact aL hw (by simp;lia)
|[_,_],[_],p,hw,_=>exact aL (p.trans hw.symm) (by simp)
|[_,_],_ :: _ :: _ :: _,p,hw,_=>exact aL (p.trans hw.symm) (by simp)
|[_,_,_],[],p,hw,_=>exact aL hw (by simp;lia)
|[_,_,_],[_],p,hw,_=>exact aL (p.trans hw.symm) (by simp)
|[_,_,_],[_,_],p,hw,_=>exact aL (p.trans hw.symm) (by simp)
|[_,_,_],_ :: _ :: _ :: _ :: _,p,hw,_=>exact aL (p.trans hw.symm) (by simp)
theorem zey:∀{ps:List Pi},(∀p∈ps,p.len<=2)->lenL ps<=2 * (ps.length:Int)
|[],_=>by decide
|p :: r,h=>by
  have:=zey (ps:=r) λq u=>h q (by simp[u]);have:=h p (by simp);show(p.len:Int)+lenL r<=_;rw[xG];lia
theorem zn71(W:Wk (decide (lenL ps > 3)) fl ws lk a b)(u:∀p∈ps,Px n p)(J:ps.length<=3):∃l:Nat,(zu9 ps:Int)+lk * lenL ps=(l:Int)/\l<=8:=by
 have I:=zsx (ps:=ps);have B:=zey λp h=>(u p h).2.1;have la:zu9 ps<=2:=by
  rcases zoe ps with z|⟨p,h,z⟩
  ·lia
  ·rw[<- z];exact(u p h).2.2.2.2.1
 have q:=W.hk;by_cases e:a=b
 ·rw[aH e]at q;subst q;exact⟨(zu9 ps+1 * lenL ps).toNat,by lia,by lia⟩
 ·rw[aF e]at q;subst q;have:¬lenL ps > 3:=λz=>e (W.hf (bW z));exact⟨(zu9 ps+2 * lenL ps).toNat,by lia,by lia⟩
end
theorem zu41{di:DF}{dg:DG}{p:DS}{E:DEnds}{U:DSt}(h:∀B:DS,(∀E U,p E U->B E U)->dFor di dg B E U):dFor di dg p E U:=h p λ_ _ z=>z
section
variable {P:aN}{w:aP}{K:Fg}{mg:Str->Option aA}{base:aT}
theorem zy61:FnScope ["script", "many", "count", "pipes", "fills", "told", "wants", "vats", "k", "cell", "more", "last", "found", "lies"] ["script"] (zh0 zmy):=by walk_at"sc"
theorem zw41(kt:Kit K)(vL:mg "all"=none)(jI:mg "isinstance"=none)(jK:mg "len"=none)(jW:mg "list"=none)(qG:mg "max"=none)(jH:mg "range"=none)(jQ:mg "sum"=none)(qL:mg "tuple"=none)(vB:Def P w K mg base "surely" 1 ["yard", "wants"] (spD K zym))(uQ:Def P w K mg base "soonest" 10 ["yard", "wants", "last"] (spD K zek))(jM:Def P w K mg base "_law_cell_at" 1 ["script", "k"] (spD K zq7))(jN:Def P w K mg base "_law_whole" 1 ["found"] (spD K zb2))(uA:Def P w K mg base "_law_sums" 1 ["cells", "count"] (spD K zqg))(uB:Def P w K mg base "_law_pipe" 1 ["cell", "many"] (spD K zrg))(qN:Def P w K mg base "_law_surely" 1 ["pipes", "lack"] (spD K ztc))(qH:Def P w K mg base "_law_brought" 2 ["vats", "pipes", "plan", "until"] (spD K zoa))(kZ:Def P w K mg base "_law_lettings" 2 ["plan", "pipes", "until"] (spD K zm9))(qS:Def P w K mg base "_law_lacks" 2 ["vats", "pipes", "wants", "some"] (spD K zjd))(qT:Def P w K mg base "_law_wants" 2 ["script", "fills", "far"] (spD K zdd)) :
  ∀(f:aE)(cdv:aA)(A:a7)(outer:List Env)(s:aG)(H:Hp)(E:XK),Room 10 (A.deeper (dW "law" (zh0 zmy) s.heap.objs.size f cdv)) ->
   ∃t d,PSs (cxOf CX0 P w K mg base ["script", "many", "count", "pipes", "fills", "told", "wants", "vats", "k", "cell", "more", "last", "found", "lies"] "law" (zh0 zmy) f cdv A outer s H E).nox (zm3 zmy) t/\RfS K t d/\∀(ns:List Int)(Qd:D->Prop),ns.length<=63->Qd (.bool true)->d { nx:=λ_=>Qd .none,rt:=rD Qd } (zje ["script", "many", "count", "pipes", "fills", "told", "wants", "vats", "k", "cell", "more", "last", "found", "lies"] [.list (ns.map .int)]):=by
 walk_at"g";have nd:=zy61.nd;refine⟨_,_,(zd0 (pset 1 nd (zj1 (zk1 (K:=K) rfl) ze0 (zj1 zd3 (zn0 jM (rmn hr) rfl (za0 (pv 0) (za0 ze0 zg0))) ze0)))
   (zd0 (pset 2 nd (zj1 (zk1 (K:=K) rfl) ze0 (zj1 zd3 (zj1 zv1 (zn0 jM (rmn hr) rfl (za0 (pv 0) (za0 ze0 zg0))) ze0) ze0)))
   (zd0 (zf3 (i:=3) (sc:=zh0 zmy) (N:=["script", "many", "count", "pipes", "fills", "told", "wants", "vats", "k", "cell", "more", "last", "found", "lies"]) (own:=["k"]) (ix:=[1,0]) rfl rfl rfl (by walk_at"csc") nd rfl rfl (zy1 rfl jH (za0 (pv 2) zg0)) (λ_ _ _ _=>⟨(pgn 0 (nds ["k", "many", "script"])),zx1,(zn0 uB (rmn hr) rfl (za0 (zn0 jM (rmn hr) rfl (za0 (pv 2) (za0 (zj1 (zk1 (K:=K) rfl) ze0 (pv 0)) zg0))) (za0 (pv 1) zg0)))⟩))
   (zd0 (pset 4 nd (zn0 uA (rmn hr) rfl (za0 (zpj (sl_W (K:=K) rfl) (pv 0) zcl (zac ze0)) (za0 (pv 1) zg0))))
   (zd0 (pset 5 nd (zn0 qT (rmn hr) rfl (za0 (pv 0) (za0 (pv 4) (za0 (zld zxt (zp0 (zd2 (K:=K) rfl rfl) rfl jQ zrb (za0 (zp2 (sc:=zh0 zmy) (N:=["script", "many", "count", "pipes", "fills", "told", "wants", "vats", "k", "cell", "more", "last", "found", "lies"]) (own:=["pipe"]) (ix:=[]) rfl rfl rfl (by walk_at"csc") (pi_W (K:=K) rfl (pv 3)) (λ_ _ _ _=>⟨(pgn 0 (nds ["pipe"])),zx1,(pix w K hr (pv 0) ze0)⟩)) zg0)) ze0 (zf1 _)) zg0)))))
   (zd0 (pset 6 nd (pix w K hr (pv 5) ze0))
   (zd0 (pset 7 nd (zc3 zg0))
   (zd0 (zo5 aW rfl (zy1 rfl jH (za0 (pv 1) zg0)) (pgn 8 nd) (zd0 (pset 9 nd (zn0 jM (rmn hr) rfl (za0 (pv 0) (za0 (zj1 (zk1 (K:=K) rfl) ze0 (pv 8)) zg0))))
   (zd0 (pset 10 nd (pix w K hr (zc3 (za0 ze0 (za0 ze0 (za0 (zj1 zd3 (zj1 zv1 (pv 9) ze0) (zj1 zpp ze0 ze0)) zg0)))) (zj1 zd3 (pv 9) ze0)))
   (zj0 (zk2 (zy8 (K:=K) rfl ğa ğb ğc zz2 (pv 7) (za0 (zq1 (za0 (pix w K hr (zc3 (za0 zi5 (za0 zi5 (za0 zi5 zg0)))) (pv 8)) (za0 (zj1 (zk1 (K:=K) rfl) (zp0 (zib rfl) rfl qG zsr (za0 (pix w K hr (pv 4) (pv 8)) (za0 (pix w K hr (pv 6) (pv 8)) zg0))) (pv 10)) (za0 (pix w K hr (pv 4) (pv 8)) zg0)))) zg0)))))))
   (zd0 (pset 11 nd (zn0 vB (rmn hr) rfl (za0 (zq1 (za0 (zb3 (zy3 (K:=K) rfl) rfl jW ze9 (za0 (pv 7) zg0)) (za0 (zb3 (zy3 (K:=K) rfl) rfl jW ze9 (za0 (pv 3) zg0)) zg0))) (za0 (zb3 (zy3 (K:=K) rfl) rfl jW ze9 (za0 (pv 6) zg0)) zg0))))
   (zd0 (zv6 (PW.pt (zog (zsb (zl3 (K:=K) rfl (zn0 jN (rmn hr) rfl (za0 (pv 11) zg0)) (λ_=>rfl))) (zgf (zs0 (zam (K:=K) rfl (Room.units hr)) (pv 11) (zn0 qN (rmn hr) rfl (za0 (pv 3) (za0 (pix w K hr (pv 5) ze0) zg0))) (zf1 _))))) (zj0 (za1 zom)) zl1)
   (zd0 (pset 12 nd (zn0 uQ (rmn hr) rfl (za0 (zq1 (za0 (zb3 (zy3 (K:=K) rfl) rfl jW ze9 (za0 (pv 7) zg0)) (za0 (zb3 (zy3 (K:=K) rfl) rfl jW ze9 (za0 (pv 3) zg0)) zg0))) (za0 (zb3 (zy3 (K:=K) rfl) rfl jW ze9 (za0 (pv 6) zg0)) (za0 (pv 11) zg0)))))
   (zd0 (zv6 (PW.pt (zog (zsb (zl3 (K:=K) rfl (zp0 (zea (K:=K) rfl) rfl jI zc2 (za0 (pv 12) (za0 (zod (v:=.ty "tuple") rfl qL zbs rfl) zg0))) (λ_=>rfl))) (zgf (zs0 zov (zp0 (zg1 (K:=K) rfl) rfl jK zg4 (za0 (pv 12) zg0)) ze0 (zf1 _))))) (zj0 (za1 zom)) zl1)
   (zd0 (zv6 (zs0 (zf4 (K:=K) rfl (Room.units hr)) (pix w K hr (pv 12) ze0) zi5 (zf1 _)) (zj0 (za1 (zl01 (zld (zf4 (K:=K) rfl (Room.units hr)) (zp0 (zg1 (K:=K) rfl) rfl jK zg4 (za0 (pv 12) zg0)) ze0 (zf1 _)) (zn31 (zn0 qS (rmn hr) rfl (za0 (pv 7) (za0 (pv 3) (za0 (pv 6) (za0 (pix w K hr (pv 12) ze0) zg0))))))))) zl1)
   (zd0 (zv6 (PW.pt (zog (zs0 (zam (K:=K) rfl (Room.units hr)) (pix w K hr (pv 12) ze0) zi5 (zf1 _)) (zog (zs0 (zam (K:=K) rfl (Room.units hr)) (zp0 (zg1 (K:=K) rfl) rfl jK zg4 (za0 (pv 12) zg0)) ze0 (zf1 _)) (zog (zsb (zl3 (K:=K) rfl (zn0 jN (rmn hr) rfl (za0 (pix w K hr (pv 12) ze0) zg0)) (λ_=>rfl))) (zog (zs0 zov (pix w K hr (pv 12) ze0) ze0 (zf1 _)) (zgf (zs0 zxt (pix w K hr (pv 12) ze0) (pv 11) (zf1 _)))))))) (zj0 (za1 zom)) zl1)
   (zd0 (zv6 (zsb (zl3 (K:=K) rfl (zn0 kZ (rmn hr) rfl (za0 (pix w K hr (pv 12) ze0) (za0 (pv 3) (za0 (pix w K hr (pv 12) ze0) zg0)))) (λ_=>rfl))) (zj0 (za1 zom)) zl1)
   (zd0 (pset 13 nd (zn0 qH (rmn hr) rfl (za0 (pv 7) (za0 (pv 3) (za0 (pix w K hr (pv 12) ze0) (za0 (pix w K hr (pv 12) ze0) zg0))))))
   (zj0 (za1 (zl01 (zld zir (pv 13) zzg (zf1 _)) (zn31 (zp0 (zi41 (K:=K) rfl rfl) rfl vL zud1 (za0 (zp2 (sc:=zh0 zmy) (N:=["script", "many", "count", "pipes", "fills", "told", "wants", "vats", "k", "cell", "more", "last", "found", "lies"]) (own:=["k"]) (ix:=[13,6]) rfl rfl rfl (by walk_at"csc") (zy1 rfl jH (za0 (pv 1) zg0)) (λ_ _ _ _=>⟨(pgn 0 (nds ["k", "lies", "wants"])),zx1,(zld zha1 (pix w K hr (pv 1) (pv 0)) (pix w K hr (pv 2) (pv 0)) (zf1 _))⟩)) zg0)))))))))))))))))))))),(zl0 (zb1 (zk0 zg8 rvi (RfE.v (zk0 zxa (RfE.v (zu0 (zc0 (zi0 0) (zc0 zn1 zm0)))) rvi))) (rgn 1))
   (zl0 (zb1 (zk0 zg8 rvi (RfE.v (zk0 zxa (RfE.v (zk0 znh (RfE.v (zu0 (zc0 (zi0 0) (zc0 zn1 zm0)))) rvi)) rvi))) (rgn 2))
   (zl0 (zb1 (RfF.e (zr1 (RfI.j (zk6 (zc0 (zi0 2) zm0))) (zh1 (i:=0) (n:=1) (by decide)) zm2 (zu0 (zc0 (zu0 (zc0 (zi0 2) (zc0 (zk0 zg8 rvi (zb0 0)) zm0))) (zc0 (zi0 1) zm0))))) (rgn 3))
   (zl0 (zb1 (zu0 (zc0 (zae1 (zb0 0) zik (zjg zn1)) (zc0 (zi0 1) zm0))) (rgn 4))
   (zl0 (zb1 (zu0 (zc0 (zi0 0) (zc0 (zi0 4) (zc0 (zk0 r_gt (RfE.v (zl5 zoq (zo0 (RfE.v (RfF.e (zr1 (zsm (zb0 3)) (zh1 (i:=0) (n:=1) (by decide)) zm2 (zk0 r_ix (zb0 0) rvi)))) ze1))) rvi) zm0)))) (rgn 5))
   (zl0 (zb1 (zk0 r_ix (zb0 5) rvi) (rgn 6))
   (zl0 (zi4 (RfF.c (zb8 zm0)))
   (zl0 (zr5 (zk6 (zc0 (zi0 1) zm0)) (rgn 8) (zl0 (zb1 (zu0 (zc0 (zi0 0) (zc0 (zk0 zg8 rvi (zb0 8)) zm0))) (rgn 9))
   (zl0 (zb1 (zk0 r_ix (RfE.v (RfF.e (zb8 (zc0 zn1 (zc0 zn1 (zc0 (zk0 zxa (RfE.v (zk0 znh (zb0 9) rvi)) (RfE.v (zk0 ze81 rvi rvi))) zm0)))))) (RfE.v (zk0 zxa (zb0 9) rvi))) (rgn 10))
   (zl2 (zhj zaf (zv0 7) (zc0 (zt2 (zc0 (zk0 r_ix (RfE.v (RfF.e (zb8 (zc0 zf5 (zc0 zf5 (zc0 zf5 zm0)))))) (zb0 8)) (zc0 (zk0 zg8 (RfE.v (zl5 zsv (zo0 (RfE.v (zk0 r_ix (zb0 4) (zb0 8))) (zo0 (RfE.v (zk0 r_ix (zb0 6) (zb0 8))) ze1)))) (zb0 10)) (zc0 (zk0 r_ix (zb0 4) (zb0 8)) zm0)))) zm0))))))
   (zl0 (zb1 (zu0 (zc0 (zt2 (zc0 (RfF.e (zm01 zoi (zo0 (zb0 7) ze1))) (zc0 (RfF.e (zm01 zoi (zo0 (zb0 3) ze1))) zm0))) (zc0 (RfF.e (zm01 zoi (zo0 (zb0 6) ze1))) zm0))) (rgn 11))
   (zl0 (zu6 (zvg (zxb (zi8 (RfE.v (zu0 (zc0 (zi0 11) zm0))))) (zr0 (zq2 q_ne (RfV.h (zb0 11)) (RfV.h (RfE.v (zu0 (zc0 (zi0 3) (zc0 (zk0 r_ix (zb0 5) rvi) zm0)))))))) (zi1 (RfE.c zcm)) zm1)
   (zl0 (zb1 (zu0 (zc0 (zt2 (zc0 (RfF.e (zm01 zoi (zo0 (zb0 7) ze1))) (zc0 (RfF.e (zm01 zoi (zo0 (zb0 3) ze1))) zm0))) (zc0 (RfF.e (zm01 zoi (zo0 (zb0 6) ze1))) (zc0 (zi0 11) zm0)))) (rgn 12))
   (zl0 (zu6 (zvg (zxb (zi8 (RfE.v (zk51 kt (by simp) (zb0 12))))) (zr0 (zk0 r_lt (RfE.v (zl5 zvc (zo0 (zb0 12) ze1))) rvi))) (zi1 (RfE.c zcm)) zm1)
   (zl0 (zu6 (zr0 (zq2 q_eq (RfV.h (RfE.v (zk0 r_ix (zb0 12) rvi))) (RfV.h (RfE.v zf5)))) (zbd 7 [] (zi1 (RfE.c (zon (zq2 q_eq (RfV.h (RfE.v (zl5 zvc (zo0 (zb0 12) ze1)))) (RfV.h rvi)) (zu0 (zc0 (zi0 7) (zc0 (zi0 3) (zc0 (zi0 6) (zc0 (zk0 r_ix (zb0 12) rvi) zm0))))))))) zm1)
   (zl0 (zu6 (zvg (zr0 (zq2 q_ne (RfV.h (RfE.v (zk0 r_ix (zb0 12) rvi))) (RfV.h (RfE.v zf5)))) (zvg (zr0 (zq2 q_ne (RfV.h (RfE.v (zl5 zvc (zo0 (zb0 12) ze1)))) (RfV.h rvi))) (zvg (zxb (zi8 (RfE.v (zu0 (zc0 (zk0 r_ix (zb0 12) rvi) zm0))))) (zvg (zr0 (zk0 r_lt (RfE.v (zk0 r_ix (zb0 12) rvi)) rvi)) (zr0 (zk0 r_gt (RfE.v (zk0 r_ix (zb0 12) rvi)) (zb0 11))))))) (zi1 (RfE.c zcm)) zm1)
   (zl0 (zu6 (zxb (zi8 (RfE.v (zu0 (zc0 (zk0 r_ix (zb0 12) rvi) (zc0 (zi0 3) (zc0 (zk0 r_ix (zb0 12) rvi) zm0))))))) (zi1 (RfE.c zcm)) zm1)
   (zl0 (zbd 7 [] (zb1 (zu0 (zc0 (zi0 7) (zc0 (zi0 3) (zc0 (zk0 r_ix (zb0 12) rvi) (zc0 (zk0 r_ix (zb0 12) rvi) zm0))))) (rgn 13)))
   (zi1 (RfE.c (zon (zk0 zyz (zb0 13) (RfE.v zyf)) (zl5 zoj1 (zo0 (RfE.v (RfF.e (zr1 (RfI.j (zk6 (zc0 (zi0 1) zm0))) (zh1 (i:=0) (n:=1) (by decide)) zm2 (zk0 r_ge (RfE.v (zk0 r_ix (zb0 1) (zb0 0))) (RfE.v (zk0 r_ix (zb0 2) (zb0 0))))))) ze1))))))))))))))))))))),?_⟩
 intro ns Qd hns q;walk_at"ds";walk_at"a";refine⟨ns,0,rfl,by lia,λm=>?_⟩;walk_at"dd";obtain⟨n,hn⟩:=xV (show 0<=2+m % 2 by lia);have n2:2<=n:=by lia
 have n3:n<=3:=by lia
 walk_at"f";rw[hn];walk_at"a";refine⟨ns,0,rfl,by lia,λm'=>?_⟩;walk_at"dd";obtain⟨c,hc⟩:=xV (show 0<=1+m' / 2 % 3 by lia);have c3:c<=3:=by lia
 walk_at"f";rw[hc];clear hn hc m m';walk_at"a";refine⟨by lia,by lia,?_⟩;rw[v6];unfold rngD;refine zri1 (Px n) Pi.d (by rw[aQ,wT];lia) (λk u=>?_) λps hp1 hp2=>hJ _ ?_
 ·have u:=u9.mp u;clear hJ;rw[show(0:Int)+(k:Int)=(k:Int) by lia];walk_at"cs";walk_at"dd";refine⟨ns,1+k,by congr 2,by lia,λm'=>?_⟩;walk_at"dd";exact⟨m',n,rfl,n2,n3,λp h=>⟨p,h,rfl⟩⟩
 clear hJ;rw[wT]at hp1;walk_at"a";rw[zlj,show cutG ns none (some 80)=ns.take 80 from zt11 ns 80,yD (by lia)];refine⟨ns,n,rfl,by lia,by lia,by lia,λfl O=>hJ _ ?_⟩;clear hJ;have fll:=O.1;walk_at"a";refine zof (λp=>.int (p.len:Int)) (by rw[aQ];lia) (λp _=>?_) ⟨_,znl ps λp=>(p.len:Int),ns,fl,decide (lenL ps > 3),?_,by lia,by lia,O.2,λws lk a b W=>hJ _ ?_⟩
 ·unfold Pi.d;walk_at"cs";walk_at"dd";exact⟨_,rfl,rfl⟩
 ·rfl
 clear hJ;have wl:=W.len;walk_at"a";refine⟨_,rfl,hJ _ ?_⟩;clear hJ;walk_at"dn";refine zf0 λJ hJ=>?_;refine zu41 λB hB=>?_;walk_at"dd";unfold rngD;refine⟨by lia,by lia,?_⟩;rw[v6];have w0:∀k,k < fl.length->0<=fl.getD k 0/\0<=ws.getD k 0:=λk u=>by
  have f0:=(O.2 (fl.getD k 0) (by rw[v4,u4 u];exact xE _)).1;by_cases e:k=a \/ k=b
  ·have:=W.one k e;lia
  ·have:=W.no k u (λz=>e (.inl z)) λz=>e (.inr z);lia
 refine zj2 (λi U=>∃(vs:List Va)(s8 s9 s10:Sl),vs.length=i/\(∀(j:Nat) v,vs[j]?=some v->v.fill=fl.getD j 0/\fl.getD j 0<=v.room/\ws.getD j 0<=v.room)/\U=[.sh (.list (ns.map .int)),.sh (.int (n:Int)),.sh (.int (c:Int)),.sh (.list (ps.map Pi.d)),.sh (.list (fl.map .int)),.sh (.tuple [.list (ws.map .int),.int lk]),.sh (.list (ws.map .int)),.ow (.li (vs.map Va.d)),s8,s9,s10,.un,.un,.un]) ⟨[],_,_,_,rfl,λj v h=>by simp at h,rfl⟩ ?_ ?_
 ·rintro i k U hx ⟨vs,s8,s9,s10,S,hr,rfl⟩;obtain⟨h1,h2⟩:=wI.mp hx;simp at h1 h2;subst h2;walk_at"dd";refine hB _ _ ?_;clear hB hJ;rw[show(0:Int)+(i:Int)=(i:Int) by lia];walk_at"a";refine⟨ns,9+i,by rw[show(9:Int)+(i:Int)=((9+i:Nat):Int) by lia],by lia,λc=>hJ _ ?_⟩;clear hJ;obtain⟨x,hx0,hx1⟩:∃x:Int,atI [u6 0,.int 0,.int (c / 3 % 100000000000)] (c % 3)=some (.int x)/\0<=x:=by
   rcases(show c % 3=0 \/ c % 3=1 \/ c % 3=2 by lia)with h|h|h <;> rw[h]
   ·exact⟨0,rfl,by lia⟩
   ·exact⟨0,rfl,by lia⟩
   ·exact⟨_,rfl,by lia⟩
  obtain⟨nm,hnm⟩:∃nm:Str,atI [wQ (xL "near"),.str (xL "nearer"),.str (xL "far")] (i:Int)=some (.str nm):=by
   have:i=0 \/ i=1 \/ i=2:=by lia
   rcases this with rfl|rfl|rfl
   ·exact⟨_,rfl⟩
   ·exact⟨_,rfl⟩
   ·exact⟨_,rfl⟩
  walk_at"a";refine⟨by decide,_,hx0,hJ _ ?_⟩;clear hJ;walk_at"dd";refine⟨_,hnm,_,ga fl i (by lia),_,ga ws i (by lia),?_⟩;walk_at"dd";refine⟨_,ga fl i (by lia),by rw[u5];lia,vs++[⟨nm,(if ws.getD i 0 > fl.getD i 0 then ws.getD i 0 else fl.getD i 0)+x,fl.getD i 0⟩],_,_,_,by rw[vW,S];rfl,λj v Y=>?_,by rw[wH];rfl⟩;by_cases e:j < i
  ·rw[wP (by lia)]at Y;exact hr j v Y
  ·have ej:j=i:=by
    have:=(wI.mp Y).1;rw[vW,S]at this;simp at this;lia
   subst ej;rw[wO (by lia),S,Nat.sub_self]at Y;cases Y;refine⟨rfl,?_⟩;show fl.getD j 0<=(if ws.getD j 0 > fl.getD j 0 then ws.getD j 0 else fl.getD j 0)+x/\ws.getD j 0<=(if ws.getD j 0 > fl.getD j 0 then ws.getD j 0 else fl.getD j 0)+x;split <;> lia
 ·rintro U ⟨vs,s8,s9,s10,S,hr,rfl⟩;rw[wT]at S;refine hJ _ ?_;clear hJ hB;have pr:∀k,k < n->∃v x,vs[k]?=some v/\ws[k]?=some x/\ws.getD k 0=x:=λk u=>by
   have e2:ws[k]?=some (ws[k]'(by lia)):=u4 _;exact⟨_,_,u4 (by lia),e2,by rw[v4,e2];rfl⟩
  have vf:∀v∈vs,0<=v.fill/\v.fill<=v.room:=λv h=>by
   obtain⟨k,u⟩:=List.getElem?_of_mem h;have hkl:=(wI.mp u).1;have:=hr k v u;have:=w0 k (by lia);lia
  have wr:∀(k:Nat) v y,vs[k]?=some v->ws[k]?=some y->0<=y/\y<=v.room:=λk v y h1 h2=>by
   have hkl:=(wI.mp h1).1;have:=hr k v h1;have:=w0 k (by lia);have:ws.getD k 0=y:=by rw[v4,h2];rfl
   lia
  have Px':∀p∈ps,Px vs.length p:=λp I=>by rw[S];exact hp2 p I
  have yok:YOk vs ps ws:=⟨by lia,by lia,by lia,by lia,vf,wr,λp I=>(Px' p I).1⟩
  have Z:ZOk vs (ps.map Pi.pp) ws:=⟨by lia,by lia,by rw[u5];lia,by lia,vf,wr,λp I=>by
   obtain⟨p',hp',rfl⟩:=vV.mp I;have:=(Px' p' hp').1;exact⟨this.1,this.2.1⟩⟩
  have Yv:Yw fl ps:=⟨by lia,by lia,O.2,by lia,λp I=>by
   have:=Px' p I;rw[S,<- fll]at this;exact⟨this.1,wX this.2.1 (by decide),this.2.2.2.1⟩⟩
  have hlk:lkS vs ws=lk:=zgd1 W (by lia) (by lia) (by lia) λk v h=>(hr k v h).1;obtain⟨l,hl,l8⟩:=zn71 W Px' (by lia);have cm:CMul lk (lenL ps):=.inl (by
   rw[W.hk];split <;> decide)
  walk_at"a";refine⟨vs,ps,ws,rfl,by lia,by lia,by rw[hlk];exact cm,hJ _ ?_⟩;clear hJ;rw[hlk,hl];walk_at"a";walk_at"k";refine⟨_,rfl,ps,lk,rfl,by lia,cm,?_⟩;rw[hl];walk_at"dd";walk_at"b";have hN:(l+1) * vs.length<=61:=by
   have:=Nat.mul_le_mul (show l+1<=9 by lia) (show vs.length<=3 by lia);lia
  refine⟨vs,ps,ws,l,rfl,yok,Z,by lia,hN,λhc M side ov h=>zmm yok Z Px' (by rw[hlk,hl]) hc ov h,λr hr'=>hJ _ ?_,λm f pt hm met=>hJ _ ?_⟩
  ·clear hJ;rcases hr'.some Z with⟨e,_⟩|⟨r',e,hne,hris,hlb,hlc,hlp⟩
   ·cases e
   have er:r=r':=by
    have:=wB.inj e;exact(List.map_inj_right λx y z=>by injection z with z;lia).mp this
   subst er;walk_at"a";refine⟨λ_=>trivial,?_⟩;rw[aF (by decide)];walk_at"b";walk_at"k";refine⟨_,_,rfl,rfl,?_⟩;rw[aH (show((2:Nat):Int)=2 from rfl)];exact⟨_,rfl,vs,ps,ws,r,rfl,by lia,by lia,hris,hlb,λp I=>hlc p.pp (vV.mpr ⟨p,I,rfl⟩),hlp,q⟩
  ·clear hJ;have hvl:∀k,k < fl.length->(ntOf vs ps m).fl k=fl.getD k 0/\∃v,vs[k]?=some v/\(ntOf vs ps m).rm k=v.room:=λk u=>by
    obtain⟨v,x,e1,_⟩:=pr k (by lia);exact⟨by show((vs[k]?).map Va.fill).getD 0=_;rw[e1];exact(hr k v e1).1,v,e1,by show((vs[k]?).map Va.room).getD 0=_;rw[e1];rfl⟩
   obtain⟨pm,rm,wm⟩:=met.pln Yv (by lia) (λk u=>(hvl k u).1) rfl;walk_at"a";refine⟨λ_=>trivial,?_⟩;rw[aF (by decide)];walk_at"b";walk_at"k";rw[aF (by decide +kernel)];walk_at"b";walk_at"k";rw[aF (show ¬¬((4:Nat):Int)=4 from λz=>z rfl)];refine⟨_,rfl,_,rfl,?_⟩;walk_at"dd";walk_at"k";rw[aF (by lia)];walk_at"k";rw[aF (by lia)];walk_at"b";refine⟨_,rfl,_,rfl,zya ps m f.g m,ps,m,rfl,pm.lt,?_⟩;walk_at"dd";walk_at"b";refine⟨_,_,rfl,rfl,_,rfl,_,rfl,vs,ps,fl,zya ps m f.g m,m,rfl,Yv,by lia,by lia,λk v h=>?_,pm,hJ _ ?_⟩
   ·have u:k < fl.length:=by have:=(wI.mp h).1;lia
    refine⟨(hr k v h).1,λj Y=>?_⟩;obtain⟨_,v',e2,e3⟩:=hvl k u;rw[h]at e2;cases e2;rw[<- e3];exact rm j k Y u
   clear hJ;walk_at"dd";rw[v6];unfold rngD;refine⟨by lia,by lia,zof (λ_=>.bool true) (by rw[aQ,wT];lia) (λk u=>?_) ⟨(u3 n).map λ_=>true,by rw[wE];rfl,?_⟩⟩
   ·have u:=u9.mp u;rw[show(0:Int)+(k:Int)=(k:Int) by lia];have:=wm k (by lia);walk_at"cs";walk_at"dd";refine⟨_,zjb1 (by lia),_,ga ws k (by lia),?_⟩;walk_at"dd";exact congrArg wM (bW this)
   rw[show((u3 n).map λ_=>true).all id=true by simp];exact q
end
theorem all_mk{l:g9}{w:aP}{K:Fg}{h:aT}{mg:Str->Option aA}{fa:aE}{q jD jE jL:aE}(X:K.In h)(G:h.Ns aR mg)(O:mg "law"=some (.ref fa))
  (jB:TopCls K "Stream" q)
  (jX:TopCls K "Tidal" jD)
  (jY:TopCls K "Steady" jE)
  (kM:TopCls K "Late" jL)
  (jJ:a6 K (.ref q) "steps"=some none)
  (jG:a6 K (.ref q) "ends"=some none)
  (jC:a6 K (.ref q) "left"=some none)
  (jT:a6 K (.ref jD) "wide"=some none)
  (jP:a6 K (.ref jD) "other"=some none)
  (jU:a6 K (.ref jD) "turn"=some none)
  (jO:a6 K (.ref jE) "wide"=some none)
  (jV:a6 K (.ref jL) "wide"=some none)
  (jS:a6 K (.ref jL) "since"=some none)
  (vC:TopDef K "surely" zba)
  (kA:TopMeth K q "row_behind" "Stream.row_behind" zf2)
  (qA:TopMeth K q "levels" "Stream.levels" ze5)
  (kR:TopMeth K q "step_up" "Stream.step_up" zw3)
  (qB:TopMeth K q "way_up" "Stream.way_up" zj5)
  (qI:TopMeth K q "carry" "Stream.carry" zn3)
  (kS:TopMeth K q "push_up" "Stream.push_up" zo2)
  (kT:TopMeth K q "amounts" "Stream.amounts" zt3)
  (kG:TopMeth K q "__init__" "Stream.__init__" zz1)
  (uH:TopDefN K "greatest" zpb)
  (vO:TopDef K "node" zmz)
  (kU:TopMeth K jD "__init__" "Tidal.__init__" zc4)
  (kH:TopMeth K jE "__init__" "Steady.__init__" zi3)
  (qC:TopMeth K jL "__init__" "Late.__init__" zx4)
  (uR:TopDef K "gate_of" zge)
  (kI:TopMeth K jE "width_at" "Steady.width_at" zj3)
  (qD:TopMeth K jL "width_at" "Late.width_at" za5)
  (kW:TopMeth K jD "width_at" "Tidal.width_at" ze4)
  (vH:TopDef K "width" zwq)
  (uI:TopDef K "pipes_by" zn9)
  (uS:TopDef K "arcs_at" zkb)
  (vR:TopDef K "net" zw51)
  (uT:TopDef K "plan_of" zne)
  (vP:TopDef K "spot" zf41)
  (qO:TopDef K "part_beyond" ze3)
  (uJ:TopDef K "met_most" zsc)
  (vD:TopDef K "met_at" zqi)
  (vI:TopDef K "worth" zyg)
  (uK:TopDef K "timeless" zv3)
  (uU:TopDef K "cut_off" zhb)
  (uC:TopDef K "first_met" zha)
  (uV:TopDef K "soonest" zbf)
  (qJ:TopDef K "_law_cell_at" za6)
  (qU:TopDef K "_law_whole" zb9)
  (uD:TopDef K "_law_sums" zh8)
  (uE:TopDef K "_law_pipe" zfa)
  (qP:TopDef K "_law_surely" zm4)
  (qV:TopDef K "_law_width" zq8)
  (qK:TopDef K "_law_brought" zh2)
  (qE:TopDef K "_law_lettings" zw4)
  (qW:TopDef K "_law_lacks" zf6)
  (qX:TopDef K "_law_wants" zs8)
  (vS:TopDef K "law" zmy)
  {p:Tok} (g_SOURCE:aZ K aR "SOURCE"=some (some (.int 0 p)))
  {u:Tok} (g_SINK:aZ K aR "SINK"=some (some (.int 1 u)))
  (vL:aZ K aR "all"=some none)
  (vA:aZ K aR "bool"=some none)
  (uZ:aZ K aR "dict"=some none)
  (qY:aZ K aR "divmod"=some none)
  (jF:aZ K aR "enumerate"=some none)
  (uW:aZ K aR "int"=some none)
  (jI:aZ K aR "isinstance"=some none)
  (jK:aZ K aR "len"=some none)
  (jW:aZ K aR "list"=some none)
  (qG:aZ K aR "max"=some none)
  (vJ:aZ K aR "min"=some none)
  (jH:aZ K aR "range"=some none)
  (vK:aZ K aR "set"=some none)
  (kX:aZ K aR "sorted"=some none)
  (jQ:aZ K aR "sum"=some none)
  (qL:aZ K aR "tuple"=some none)
  (uL:aZ K aR "zip"=some none) (kt:Kit K)
 :∃fd:cS,(∀(s:aG)(v:aA),fR s fd ⟨[v],[]⟩ [("script",v)])/\∀base:aT,K.In base->base.Ns aR mg->FnOk l.prog w K mg base CX0 11 fa fd ["script"] (zdb1 K):=by
 have M:Md K mg:=⟨⟨h,X,G⟩⟩
 refine zti1 M vS O zy61 (by walk_at"h") λbase kb nb=>?_;have vB:=zdv (P:=l.prog) (w:=w) (K:=K) (mg:=mg) (base:=base) M vC (M.not qG) (M.not jQ) (M.not uL);have jZ:=zr8 (P:=l.prog) (w:=w) (K:=K) (mg:=mg) (base:=base) jB.cls kA jJ jG jC;have kC:=zmc (P:=l.prog) (w:=w) (K:=K) (mg:=mg) (base:=base) jB.cls qA jZ;have kJ:=zfb (P:=l.prog) (w:=w) (K:=K) (mg:=mg) (base:=base) jB.cls kR (M.not jK) jC jG;have kB:=zqb (P:=l.prog) (w:=w) (K:=K) (mg:=mg) (base:=base) jB.cls qB jG kJ;have qF:=zzc (P:=l.prog) (w:=w) (K:=K) (mg:=mg) (base:=base) jB.cls qI (M.not vJ) jC;have kK:=zab (P:=l.prog) (w:=w) (K:=K) (mg:=mg) (base:=base) jB.cls kS (M.not jW) jJ kB qF;have kL:=zdb (P:=l.prog) (w:=w) (K:=K) (mg:=mg) (base:=base) jB.cls kT jC;have uX:=zka (P:=l.prog) (w:=w) (K:=K) (mg:=mg) (base:=base) M jB kG (M.not jF) (M.not jH) jG jC jJ;have Y:=zvl (P:=l.prog) (w:=w) (K:=K) (mg:=mg) (base:=base) M uH (M.not jK) (M.not kX) jB.cls kC kK kL uX;have z:=zua1 (P:=l.prog) (w:=w) (K:=K) (mg:=mg) (base:=base) M vO (M.not jK);have vE:=zgb (P:=l.prog) (w:=w) (K:=K) (mg:=mg) (base:=base) M jX kU jT jP jU;have uY:=zz9 (P:=l.prog) (w:=w) (K:=K) (mg:=mg) (base:=base) M jY kH jO;have vM:=zuc (P:=l.prog) (w:=w) (K:=K) (mg:=mg) (base:=base) M kM qC jV jS;have uM:=zco (P:=l.prog) (w:=w) (K:=K) (mg:=mg) (base:=base) (jL:=jL) (jE:=jE) (jD:=jD) M uR vE uY vM;have kF:=zaa (P:=l.prog) (w:=w) (K:=K) (mg:=mg) (base:=base) jY.cls kI jO;have kY:=zzb (P:=l.prog) (w:=w) (K:=K) (mg:=mg) (base:=base) kM.cls qD jV jS;have kO:=zcb (P:=l.prog) (w:=w) (K:=K) (mg:=mg) (base:=base) jX.cls kW jT jP jU;have vF:=zo31 (P:=l.prog) (w:=w) (K:=K) (mg:=mg) (base:=base) M vH uM kM.cls jY.cls jX.cls kF kY kO;have W:=zjm (P:=l.prog) (w:=w) (K:=K) (mg:=mg) (base:=base) M uI (M.not jF);have uN:=zwo (P:=l.prog) (w:=w) (K:=K) (mg:=mg) (base:=base) M uS (M.not jF) vF z W;have vQ:=zuf1 (P:=l.prog) (w:=w) (K:=K) (mg:=mg) (base:=base) M vR (M.not jF) (M.not jH) z uN (M.got g_SOURCE) ⟨_,rfl⟩ (M.got g_SINK) ⟨_,rfl⟩;have uO:=zot (P:=l.prog) (w:=w) (K:=K) (mg:=mg) (base:=base) M uT (M.not jK) (M.not jH) W;have vN:=zq91 (P:=l.prog) (w:=w) (K:=K) (mg:=mg) (base:=base) M vP (M.not qY) (M.not jK);have qM:=zee (P:=l.prog) (w:=w) (K:=K) (mg:=mg) (base:=base) M qO (M.not uZ) (M.not jH) vN;have uF:=zem (P:=l.prog) (w:=w) (K:=K) (mg:=mg) (base:=base) M uJ (M.not jK) (M.not jQ) Y vQ uO qM (M.got g_SOURCE) ⟨_,rfl⟩ (M.got g_SINK) ⟨_,rfl⟩;have S:=ziw (P:=l.prog) (w:=w) (K:=K) (mg:=mg) (base:=base) M vD (M.not jQ) uF;have vG:=ziz (P:=l.prog) (w:=w) (K:=K) (mg:=mg) (base:=base) M vI (M.not jQ) (M.not uL);have uG:=zzl (P:=l.prog) (w:=w) (K:=K) (mg:=mg) (base:=base) M uK (M.not jF) (M.not jQ) z (M.got g_SOURCE) ⟨_,rfl⟩ (M.got g_SINK) ⟨_,rfl⟩;have uP:=zzm (P:=l.prog) (w:=w) (K:=K) (mg:=mg) (base:=base) M uU (M.not jK) (M.not jH) (M.not jQ) vG Y z uG (M.got g_SOURCE) ⟨_,rfl⟩ (M.got g_SINK) ⟨_,rfl⟩;have qZ:=zfi (P:=l.prog) (w:=w) (K:=K) (mg:=mg) (base:=base) M uC S;have uQ:=zdr (P:=l.prog) (w:=w) (K:=K) (mg:=mg) (base:=base) M uV S uP qZ;have Z:=zcd (P:=l.prog) (w:=w) (K:=K) (mg:=mg) (base:=base) M qJ (M.not jK);have I:=zqf (P:=l.prog) (w:=w) (K:=K) (mg:=mg) (base:=base) M qU kt (M.not vA) (M.not uW) (M.not jI);have uA:=zai (P:=l.prog) (w:=w) (K:=K) (mg:=mg) (base:=base) M uD (M.not jK) (M.not jH);have uB:=zji (P:=l.prog) (w:=w) (K:=K) (mg:=mg) (base:=base) M uE;have qN:=zjf (P:=l.prog) (w:=w) (K:=K) (mg:=mg) (base:=base) M qP (M.not qG) (M.not jQ);have qR:=zeg (P:=l.prog) (w:=w) (K:=K) (mg:=mg) (base:=base) M qV;have qH:=zyc (P:=l.prog) (w:=w) (K:=K) (mg:=mg) (base:=base) M qK (M.not jK) (M.not jH) qR;have kZ:=ztb (P:=l.prog) (w:=w) (K:=K) (mg:=mg) (base:=base) M qE kt (M.not jI) (M.not jK) (M.not jW) (M.not qL) I;have qS:=zlh (P:=l.prog) (w:=w) (K:=K) (mg:=mg) (base:=base) M qW kt (M.not jI) (M.not jK) (M.not jW) (M.not vK) (M.not kX) (M.not jQ) I;have qT:=zgh (P:=l.prog) (w:=w) (K:=K) (mg:=mg) (base:=base) M qX (M.not uW) (M.not jK) (M.not qG) (M.not jH) Z;exact zw41 kt (M.not vL) (M.not jI) (M.not jK) (M.not jW) (M.not qG) (M.not jH) (M.not jQ) (M.not qL) vB uQ Z I uA uB qN qH kZ qS qT
end _37
local macro_rules|`(tactic| walk_at "top")=>`(tactic| (refine' zmu ?a ?l ?c ?k;(case a=>k_is);(case l=>k_is);(case c=>k_is);(case k=>k_is)))
local macro_rules|`(tactic| walk_at "topn")=>`(tactic| (refine' zmq ?a ?l ?c ?k ?t ?d;(case a=>k_is);(case l=>k_is);(case c=>k_is);(case k=>k_is);(case t=>k_is);(case d=>rfl)))
local macro_rules|`(tactic| walk_at "meth")=>`(tactic| (refine' zko ?a ?i ?l ?c ?k;(case a=>k_is);(case i=>k_is);(case l=>k_is);(case c=>k_is);(case k=>k_is)))
local macro_rules|`(tactic| walk_at "cls")=>`(tactic| (refine' zcu ?a ?pg ?hd ?po ?sa ?mk ?kc;(case a=>k_is);(case pg=>k_is);(case hd=>k_is);(case po=>k_is);(case sa=>k_is);(case mk=>k_is);(case kc=>k_is)))
namespace PySem.W.Fast
def tw11350587896616349426:=0
def tw6106084553394559117:=0
def tw16073303857241810915:=0
def tw17438433053776144712:=0
def tw14572710101914637484:=0
def tw17823091056148666569:=0
def tw12163710148396884798:=0
def tw15741949173987680085:=0
def tw16779153230437908907:=0
def tw17293561024238413009:=0
def tw15962320154141438711:=0
def tw7456254276720526601:=0
def tw3417721552881807424:=0
def tw14280812425190983980:=0
def tw6982995480425944944:=0
def tw6802907528104600129:=0
def tw10087834903238054420:=0
def tw1201940496026130897:=0
def tw8001063281236070005:=0
def tw11637169808205295116:=0
def tw12129567994796274712:=0
def tw3999003183164675006:=0
def tw4988696517201814159:=0
def tw406958683066655572:=0
def tw6970521150517264119:=0
def tw11397371428175347454:=0
def tw7830737672966475782:=0
def tw4306286456120707742:=0
def tw14406661475894874826:=0
def tw849287824239500952:=0
def tw1092758317248159214:=0
def tw15986987038122655871:=0
def tw10917722277943302227:=0
def tw7438058276196573505:=0
def tw14856042980815985921:=0
def tw16060065476947147841:=0
def tw5489315540128795051:=0
def tw11837631544113088578:=0
def tw10382209739028275127:=0
def tw10624855288199720793:=0
def tw10814758139751994033:=0
def tw2681589826527602017:=0
def tw535159683643155125:=0
def tw17533249059274393772:=0
def tw6064385043679754842:=0
def tw1601673081547458349:=0
def tw13377710590212351013:=0
def tw4528386487873064713:=0
def tw5284680720797015846:=0
def tw6071533636434139924:=0
def tw9406341906681236617:=0
def tw4733815940385699473:=0
def tw16567747710349235276:=0
def tw18408554485340533433:=0
def tw10257606908736469451:=0
def tw2502915525861532257:=0
def tw4608212648062172043:=0
def tw9844969225230313665:=0
def tw3871366298723852013:=0
def tw17507892620811095821:=0
def tw11211515362788247674:=0
def tw4211788464935205400:=0
def tw11184749835505383736:=0
def tw17331130561599806092:=0
def tw6375656900161305898:=0
def tw7101129353980014461:=0
def tw17077299165107156146:=0
def tw1208435883554453865:=0
def tw17299796488592199689:=0
def tw7902418065565935153:=0
def tw8558152424358248703:=0
def tw1600273734395798762:=0
def tw7220415884696117642:=0
def tw7576121958926297230:=0
def tw454838124780915960:=0
def tw3172873643676011280:=0
def tw17498788139042149367:=0
def tw3854387374379407968:=0
def tw678614885293901706:=0
def tw3818778487514592400:=0
def tw4949003365627814809:=0
def tw18031919098035490486:=0
def tw12253770491692551398:=0
def tw11486162943828989713:=0
def tw7350983683360636776:=0
def tw17670977146760255818:=0
def tw7128418389348500882:=0
def tw15219378286895127722:=0
def tw13812878319966798849:=0
def tw9574909165204089236:=0
def tw10565793670159499291:=0
def tw17668944029276012099:=0
def tw13242025848804951678:=0
def tw11849885371377808234:=0
def tw5635493518009454923:=0
def tw15135198980115847665:=0
def tw13415200508959967669:=0
def tw12732345358247177714:=0
def tw10750456412223177944:=0
def tw1405895410061595658:=0
def tw4032108522861009643:=0
def tw11613990342246783497:=0
def tw10570874410495773969:=0
def tw8158284996506617803:=0
def tw14698228857775275223:=0
def tw6518572913960639732:=0
def tw12403540842218714025:=0
def tw6820767143743329616:=0
def tw7966150204105566145:=0
def tw332778059905814387:=0
def tw13171530429233228034:=0
def tw12625907172008409643:=0
def tw325311132397361527:=0
def tw1189616805493489912:=0
def tw11154533412100454032:=0
def tw8255335328697843260:=0
def tw6167153659764714748:=0
def tw16505211597639895318:=0
def tw3664522334500354569:=0
def tw8995902662146701196:=0
def tw6753319599908263995:=0
def tw8541563771648060577:=0
def tw893830671372913740:=0
def tw6404010671812159440:=0
def tw5157279857259649117:=0
def tw15468405434979245470:=0
def tw15250968246895302546:=0
def tw12242578208741129937:=0
def tw16999761744973196190:=0
def tw10379202658459255819:=0
def tw17269370666868990368:=0
def tw3511790387566372003:=0
def tw14215958916685141518:=0
def tw10593234852125397984:=0
def tw9020824283327144681:=0
def tw4189429118471590706:=0
def tw6848084619435070118:=0
def tw8448354613564938343:=0
def tw1018743586893843834:=0
def tw11208185723409277487:=0
def tw5469871864807993716:=0
def tw6733598659313462549:=0
def tw14889722444925732454:=0
def tw9446140280352369616:=0
def tw17551629527471642022:=0
def tw10203980435258512678:=0
def tw7325258092588381932:=0
def tw877952384645804709:=0
def tw4646614194584163118:=0
def tw1958661606222354956:=0
def tw1218164181605078538:=0
def tw3313516989113250644:=0
def tw5074972518786156263:=0
def tw569368386586961576:=0
def tw13849437419806604513:=0
def tw488039679658756253:=0
def tw15919421301392611349:=0
def tw2319796148745765772:=0
def tw10844105311056688664:=0
def tw13769331607474992281:=0
def tw18301709663149757562:=0
def tw6371435448805583981:=0
def tw4579170116211113691:=0
def tw15562549625460968332:=0
def tw2128759758280644053:=0
def tw13627738123946399960:=0
def tw8345810149814295398:=0
def tw14375598215575614435:=0
def tw6791066305671500838:=0
def tw8065754725283194919:=0
def tw15600151570438580759:=0
def tw13551116306472674422:=0
def tw8110513104972843817:=0
def tw1757623375888155667:=0
def tw10056772905279031318:=0
def tw8267992804504629126:=0
def tw1960539228216326851:=0
def tw8198014675083889382:=0
def tw17029720699689625490:=0
def tw12767652191915688444:=0
def tw9346524793574837894:=0
def tw14271896612840844618:=0
def tw5150433816040884317:=0
def tw7123417596217458662:=0
def tw10053824034926153718:=0
def tw16041723090934334808:=0
end PySem.W.Fast
open PySem PySem.W PyProof.Rows _3 _4
set_option maxRecDepth 100000 in
set_option maxHeartbeats 0 in
theorem PySem.Challenge.cw_vatyard_k37_never_or_surely_holds : PySem.Challenge.rw_vatyard_k37_never_or_surely.Holds := by
  w_on; o_law; k_head; (case hw => w_witness2)
  k_fill
  refine _3.law_walk (k := 11) (l := PySem.Challenge.rw_vatyard_k37_never_or_surely) ⟨rfl, by decide, rfl, by decide⟩ rfl rfl (fun w h Yv => PySem.W.kIn_of Yv) ?F
  case F =>
    intro w mg fa h KX G hmg
    refine' _37.all_mk KX G hmg ?jB ?jX ?jY ?kM ?jJ ?jG ?jC ?jT ?jP ?jU ?jO ?jV ?jS ?vC ?kA ?qA ?kR ?qB ?qI ?kS ?kT ?kG ?uH ?vO ?kU ?kH ?qC ?uR ?kI ?qD ?kW ?vH ?uI ?uS ?vR ?uT ?vP ?qO ?uJ ?vD ?vI ?uK ?uU ?uC ?uV ?qJ ?qU ?uD ?uE ?qP ?qV ?qK ?qE ?qW ?qX ?vS ?g_SOURCE ?g_SINK ?vL ?vA ?uZ ?qY ?jF ?uW ?jI ?jK ?jW ?qG ?vJ ?jH ?vK ?kX ?jQ ?qL ?uL ?kt
    (case jB => walk_at"cls")
    (case jX => walk_at"cls")
    (case jY => walk_at"cls")
    (case kM => walk_at"cls")
    (case jJ => k_is)
    (case jG => k_is)
    (case jC => k_is)
    (case jT => k_is)
    (case jP => k_is)
    (case jU => k_is)
    (case jO => k_is)
    (case jV => k_is)
    (case jS => k_is)
    (case vC => walk_at"top")
    (case kA => walk_at"meth")
    (case qA => walk_at"meth")
    (case kR => walk_at"meth")
    (case qB => walk_at"meth")
    (case qI => walk_at"meth")
    (case kS => walk_at"meth")
    (case kT => walk_at"meth")
    (case kG => walk_at"meth")
    (case uH => walk_at"topn")
    (case vO => walk_at"top")
    (case kU => walk_at"meth")
    (case kH => walk_at"meth")
    (case qC => walk_at"meth")
    (case uR => walk_at"top")
    (case kI => walk_at"meth")
    (case qD => walk_at"meth")
    (case kW => walk_at"meth")
    (case vH => walk_at"top")
    (case uI => walk_at"top")
    (case uS => walk_at"top")
    (case vR => walk_at"top")
    (case uT => walk_at"top")
    (case vP => walk_at"top")
    (case qO => walk_at"top")
    (case uJ => walk_at"top")
    (case vD => walk_at"top")
    (case vI => walk_at"top")
    (case uK => walk_at"top")
    (case uU => walk_at"top")
    (case uC => walk_at"top")
    (case uV => walk_at"top")
    (case qJ => walk_at"top")
    (case qU => walk_at"top")
    (case uD => walk_at"top")
    (case uE => walk_at"top")
    (case qP => walk_at"top")
    (case qV => walk_at"top")
    (case qK => walk_at"top")
    (case qE => walk_at"top")
    (case qW => walk_at"top")
    (case qX => walk_at"top")
    (case vS => walk_at"top")
    (case g_SOURCE => k_is)
    (case g_SINK => k_is)
    (case vL => k_is)
    (case vA => k_is)
    (case uZ => k_is)
    (case qY => k_is)
    (case jF => k_is)
    (case uW => k_is)
    (case jI => k_is)
    (case jK => k_is)
    (case jW => k_is)
    (case qG => k_is)
    (case vJ => k_is)
    (case jH => k_is)
    (case vK => k_is)
    (case kX => k_is)
    (case jQ => k_is)
    (case qL => k_is)
    (case uL => k_is)
    (case kt => exact⟨fun t ht T hT => by simp only[List.mem_cons, List.not_mem_nil, or_false]at ht hT; rcases ht with rfl | rfl | rfl | rfl | rfl | rfl <;> rcases hT with rfl | rfl | rfl | rfl | rfl <;> rfl⟩)
