import PyProof.Rows.All
import Wide.All
import OpenK.AllK
import Wide.FinOn
import Lean
import PyProof.EqAt
import PyProof.EqKinds
import PyProof.TupleCall
import PyProof.StrLawsIn
import PyProof.StrLawsJoin
import PyProof.ZipIter
import PyProof.EnumFor
import PyProof.EnumMake
import PyProof.EnumStmt
import PyProof.DictItems
import KE.KPairComp
import KE.KSortTup
import PyProof.DictWalks
import PyProof.Rows.SortWalk
import PyProof.ReprRoads
import PyProof.ReprLen
import PyProof.NsDelKeeps
import PyProof.RulesAs
import PyProof.AttrMissHeap
import KE.KDictOf
import PyProof.MinMaxWalk
import PyProof.ConsumeWalk
import PyProof.P3In
import PyProof.ListRange
import KE.KDictLaws
import KE.KRevIter
import PyProof.Rows.RuleM_int
import PySem.Challenge.RW_vatyard_k36_whole_never_later
set_option Elab.async false
set_option genSizeOf false
set_option genInjectivity false
set_option bootstrap.genMatcherCode false
set_option compiler.extract_closed false
set_option compiler.extract_closed false
set_option linter.all false
set_option maxRecDepth 100000
set_option maxHeartbeats 4000000
noncomputable section
local macro_rules|`(tactic|walk_at $s)=>match s.getString.toNat? with|some n=>do let a:=((("pins s Y H x y v u Q I rx ry h|F H Y U Qd Q s rv h k|pins s Y H Q I h|F H Y U Qd Q s rv hd k|F H x y d e Qd Q s hx hy h k|B F H Y U fps E Z r h k|X hP hw hK hc i pins s Y H E I hf st hg|pins s Y H xs us Q I r h|pins s Y H D I h|value slice pins s Y H x y v u Q I rx ry h hs|F H vs ds Qd Q s hv h k|F H Y U Qd R s rv hd k|X hP hw hK hc i pins s Y H E I hf S hg|pins s Y H x v vl vu lo hi sl Q I rx hs pl pu h|pins s Y H x y v u Q I rx ry q|B F H Y U fps Qd Q r hd k|pins s Y H x vs v us Q I rx rv h|F H v u fn vs ds Kd Q s hr hv hf|pins s Y H R I h|f cdv A outer s H vs Q E hr h|wh pins s Y H Q I h|X hP hw hK A i pins s Y H Q E hh I st hg hE|B F H Y U fps Qd Q rs hd k|X hP hw hK A i pins s Y H Q E I st hg hQ|pins s Y H o i v ov iv u Q I ro ri rv h|F H Y U Qd Q s r h k|pins s Y H o i ov iv Q I ro ri h|pins s Y H x y v u Q I r1 r2 h|F H Y U vs ds Gd G s h hd k|pins s Y H vs us Q I r h|pins s Y H x v Q I rx h|pins s Y H v u Q I r h|F H Y U Qd Q s r hd k".splitOn "|").getD n "").splitOn " ").toArray.map fun x=>Lean.mkIdent (.mkSimple x);`(tactic|intro $a*)|none=>Lean.Macro.throwUnsupported
open PySem renaming Value → aC, Addr → aE, wpAny_bind → aG, Shared → aH, wpAny → aI, wpAny_pure → aK, model → aM, Program → aN, mainGlobals → aP, World → aQ, starEach → aS, Heap → aT, sizeLine_eq → aW, Expr → aX, compareOp → a7, eval → a8, bootBuiltins → a9, Around → bB, mem_of_lookup → bF, PyData → bG, wpAny_field → bJ, sliceBounds → bK, binaryOp → bL, NameKind → bM, backTo → bS, cellsFrom → bT, wpAny_seqItems → bU, sysModules → bV, wpAny_newObj_type → bZ, wpAny_callSpecial?_slot → b6, cLine → b7, wpAny_setField_rec → b8, wpAny_passesOwn → b9, wpAny_mono → cC, FuncData → cH, wpAny_call_entry → cI, wpAny_holding → cK, attributeBase → cL, tupleKind_room_in1 → cM, Stmt → cO, wpAny_truthy_bool → cP, assignEach → cS, holding → cX, keywordEach → cZ, wpAny_Call_Name_kw → dD, codeAny → dH, wpAny_pyIter_list → dJ, Scope → dP, behindInMarks → dQ, getMethod → dU, IsPair → d3, call_meets → d4, wpAny_execs_nil → d7, letOwnedTupleGo → d8, wpAny_updateSeq_pair → eB, standAt → eD, relabel → eE, getItem → eI, callerA → eJ, BindsTo → eK, backToKw → eM, assign → eS, wpAny_onRaise → eV, foldedSetIterable → eX, IsZip → e8, sliceRange → e9, valueAt → fC, IsPart → fE, codeAny_mono → fF, strKind_is → fG, wpAny_getItem_list_slice → fH, wpAny_comprehension_free → fJ, atKey → fK, tupleKind → fL, swapsWith → fM, slicePick → fN, pushCells → fO, wpAny_pyNext_list_item → fR, pyNext → fT, notedBy → fU, newFunctionEnv → fV, wpAny_pyNext_list_end → fW, field → fX, bindL → fY, bindC → fZ, callWith → f7, wpAny_rule → f8, PlainAttrs → f9, wpAny_loadName_local → gA, wpAny_standAt → gB, strKind → gC, wpAny_loadName_cell → gD, pyIter → gE, isTrue → gF, wpAny_typeOf → gG, seqIndex_neg → gH, concat_meets → gI, Within → gJ, wpAny_pyIter_tuple → gK, getattributeRaised → gM, wpAny_pyIter_enum → gQ, wpAny_assign_Name → gR, wpAny_letGo → gV, seqIndex_of → gW, bindArgs → gX, wpAny_pyIter_zip → gY, wpAny_getItem_of → gZ, wpAny_execs_cons → g6, noFill_tuple_add → g7, rawInt → hU, Result → hV, wpAny_Name → h7, typeIs_str → h8, typeIs_int → h9, builtinsNs → iA, call → iC, wpAny_loadPart' → iD, pushCells_keeps → iE, codeAny_builtin → iF, setItem → iJ, Keyword → iK, wpAny_setField → iM, wpAny_notIn_of → iN, firstArgMember → iP, storeName → iR, seqItems? → iS, typeOf → iY, Params → iZ
open PySem.PassesOwn renaming never → aR
open PySem.W renaming nsIn → aZ, findIn → a6, kia_one → bC, keepIn → bH, fnOf → bO, emptyDict → bQ, instObj → bX, codeIn → cG, plainGet → cU, callWith_K → dE, kitOne → dI, hasDictIn → dM, cellsFrom_some → dN, methodCall_KW → dW, isFn → d6, makesIn → d9, plainGet_of → eC, lookIn → eO, plainOver → eZ, methodObj → e6, kitx_list → e7, takerIn → fP, OpenLaw → fQ, kitx_tuple → gO, kitx_dict → gS, handedIn → g8, binds_K → iG, WalkO → iT
open PySem.Builtin.SmallTypes renaming nextOf → bA, ownedTupleIsFree → bP, ownedTupleHandOut → dG
open PySem.Heap renaming SameBut → bD, ExtBut → eR
open PySem.NameKind renaming free → bI, cell → cA
open PyProof.Rows renaming callWith_type1 → bR, envOfC → cQ, IntsAre → cY, AllBare → dS, slot_tuple_getitem → dZ, subscriptTail_builtinR → fS, tail_any → f6, Subscript_ → iB, callWith_builtin1 → iI, slicePart_none → iO, IsTup → iV, bitXor_and → i6, bitAnd_m1 → i8
open PySem.SeqAt renaming shaped → bW, EqAt → i9
open PySem.Builtin.List renaming listTooLong → bY
open PySem.F renaming slot_tuple_iterator_next → cB, slot_zip_next → eA, args_tuple_iterator_next_1 → eQ, entry_tuple_iterator_next → eU, args_zip_next_1 → gU, entry_zip_next → g9, slot_int_rmul → iH
open PySem.Builtin.Slice renaming slicePlaces → cD, sliceAdjust → dB, sliceApplied → eW, slicePartIndex → iQ, sliceFields → iX
open PySem.Builtin.Tuple renaming tupleExact → cJ, tupleItemsOf → iU
open PySem.Paired renaming length → dR, snoc → i7
open PySem.Obj renaming mapSeq → d5, data_mapFields → gP
open PySem.Builtin renaming bitXor → eP
def aA:=@if_neg
def aF:=@if_pos
def aJ:=@absurd
def aY:=@decide_eq_false
def bN:=@decide_eq_true
def dL:=@of_decide_eq_true
open List renaming range → u4, length_map → u5, getElem?_eq_getElem → u6, getElem?_map → u8, mem_range → u9, length_append → vR, mem_append → vS, mem_map → vU, replicate → vV, mem_cons → vW, size_toArray → v3, map_cons → v4, getD_eq_getElem?_getD → v6, nodup_cons → v7, getElem?_eq_some_iff → v8, map_append → v9, getElem?_eq_none → wA, mem_cons_of_mem → wB, append_assoc → wC, map_map → wD, length_range → wE, lookup_cons → wG, flatMap_cons → wH, mem_of_getElem? → wI, length_set → wK, getElem?_append_right → wL, nodup_append → wM, append_nil → wN, getElem?_append_left → wO, mem_cons_self → wP, length_take → wS, range_succ → wY, getElem_mem → w6, mem_append_right → w8, getElem?_range → xA, filterMap_cons → xB, getElem?_set_self → xC, lookup → xE, getElem?_replicate → xF, take_length → xH, mem_append_left → xJ, getElem?_set_ne → xK, length_cons → xL, getElem?_mapIdx → xN, any_cons → xP, getElem?_set → xQ, take_succ → xR, sum_cons → xS, length_drop → xV, find?_cons → xX, take_of_length_le → xY, ext_getElem? → xZ, map_congr_left → x6, ext_getElem → yC, flatMap_nil → yD, mem_filter → yG, mem_filterMap → yJ, length_replicate → yK, map_nil → yL, replicate_succ → yM, mem_flatMap → yP, length_mapIdx → yQ, flatten_cons → yW, sum_append → yY, zip_append → yZ, nodup_range → y0, take_append_drop → y3, all_cons → zB, length_singleton → zC, take_zero → zG, map → zH, foldl_cons → zK, filterMap_append → zQ, mem_map_of_mem → zR, flatMap_append → zS, zip_map' → zV, mem_singleton → zW, map_set → zX, range_zero → zY, getElem?_eq_none_iff → z7, of_mem_zip → z9, length → kP, nil_append → k8, forIn_cons → k9, forIn_nil → j4, length_filterMap_le → j7, filterMap → j8, dropLast_eq_take → j9, eq_nil_of_length_eq_zero → uaB, getElem_of_mem → uaC, getElem_range → uaD, range_succ_eq_map → uaE, getElem?_take_of_lt → uaI, filterMap_map → uaJ, length_eq_zero_iff → uaQ, pairwise_cons → uaS, zip_cons_cons → uaT, getLast?_cons → uaU, getLast?_eq_some_iff → uaV, dropLast_concat → uaW, flatten_replicate_singleton → uaX, map_replicate → uaY, drop_of_length_le → uaZ, flatten_append → ua0
open Nat renaming le_refl → u7, ne_of_lt → wJ, lt_or_ge → wT, lt_of_lt_of_le → wW, zero_le → wX, le_trans → wZ, lt_irrefl → w9, mul_le_mul_right → yE, succ_ne_zero → yF, le_of_lt → yH, add_mul → yO, lt_succ_self → yU, ne_of_gt → y9, le_of_succ_le → zD, add_sub_cancel → zF, le_succ → zJ, mul_comm → zL, lt_succ_of_lt → zM, min_eq_left → zP, add_assoc → zT, add_sub_cancel_left → zU, succ_sub_one → z5, add_comm → k7, min_eq_right → j5, lt_trichotomy → j6, eq_zero_or_pos → uaR
open PySem.PyData renaming int → vQ, eqv → xD, list → yX, canLayAll0 → zN, depthAll → zO
open PySem.Heap renaming get?_push_of_some → vT, lt_size → vY, get?_push_size → wF, size_push → xO, get?_update_self → uaK, get?_update_other → uaL, get?_some_iff → uaP
open PySem.Value renaming ref → vX, none → xI, isStrOf → xU, isInt → y4, int → y6, str → y8, bool → zI, float → z6
open Int renaming toNat_natCast → vZ, le_refl → wR, eq_ofNat_of_zero_le → xT, add_zero → x8, le_trans → yN, emod_nonneg → yR, emod_lt_of_pos → yS, sub_zero → yT, zero_add → zZ, add_assoc → uaF, fmod_eq_emod_of_nonneg → uaH, fdiv_eq_ediv_of_nonneg → uaO
open Bool renaming false_ne_true → v5, false_eq_true → yB, and_eq_true → yV, eq_iff_iff → zA, not_eq_true → j3, and_eq_true_iff → uaN
open Option renaming map_eq_some_iff → wQ, some → wV, isSome_iff_exists → xM, isSome_map → zE, bind_eq_some_iff → uaA, isSome_some → uaM
open Sum renaming inl → wU, inr → x9
open PySem.Str renaming ofString → xG
open Or renaming inr → xW, inl → yA
open Array renaming length_toList → yI, toList → z8, getElem?_toList → k6, append_assoc → uaG
local macro_rules|`(tactic|walk_at "vi")=>`(tactic|first|exact .inl rfl|exact .inr rfl|assumption)
abbrev Fg:=PySem.W.Frag
open PySem.F renaming plainAttrs_list → ğa, slot_list_append → ğb, type_list_append → ğc, slot_list_extend → ğd, type_list_extend → ğe, slot_list_pop → ğf, type_list_pop → ğg, slot_dict_getitem → ğh, args_tuple_add_2 → ği, entry_tuple_add → ğj, slot_tuple_add → ğk
namespace _2
open PySem PySem.Spec PyProof.Rows
variable {A:bB}{C a b dx it:aE}{E:aC->aH->Prop}{K:Fg}{M:Model}{N ps:List Str}{base:aT}{body:List cO}{ch fp:List aE}{es:List aX}{f:aC->aC->Sem aC}{g':Array GenState}{i n:Nat}{kw:List (Str×aC)}{mA mg:Str->Option aC}{o:Obj}{op:Operator}{outer:List Env}{pins:List (aE×Obj)}{pos pos':Pos}{qual x:Str}{s:aH}{scope:dP}{tg:aX}{u:aC}{us:List aC}{w:aQ}
abbrev Key:=Sum Int Str
def zoz:Key->aC->Bool
|.inl k,v=>y4 k v
|.inr x,v=>xU x v
def keyH(w:aQ):Key->Int
|.inl k=>hashInt k
|.inr x=>hashStr w x
theorem zx1:∀{k:Key}{v:aC},zoz k v=true->(∃i t,k=wU i/\v=y6 i t) \/ (∃x t,k=x9 x/\v=y8 x t)
|.inl i,v,h=>by
  obtain⟨t,e⟩:=Value.isInt_shape (k:=i) (v:=v) h;exact .inl ⟨i,t,rfl,e⟩
|.inr x,v,h=>by
  obtain⟨t,e⟩:=Value.isStrOf_shape (x:=x) (v:=v) h;exact .inr ⟨x,t,rfl,e⟩
theorem zze(i:Int)(t:Tok):zoz (.inl i) (.int i t)=true:=by simp[zoz,y4]
theorem zkq(x:Str)(t:Tok):zoz (.inr x) (.str x t)=true:=by simp[zoz,xU]
theorem zy61(a b:Int):decide ((wU a:Key)=wU b)=(a == b):=by
 by_cases e:a=b
 ·subst e;simp
 ·have h:¬(wU a:Key)=wU b:=λq=>e (wU.inj q);rw[aY h];exact(beq_eq_false_iff_ne.mpr e).symm
theorem ze81(a b:Str):decide ((x9 a:Key)=x9 b)=decide (a=b):=by
 by_cases e:a=b
 ·subst e;simp
 ·have h:¬(x9 a:Key)=x9 b:=λq=>e (x9.inj q);rw[aY h,aY e]
theorem za61(a:Int)(b:Str):decide ((wU a:Key)=x9 b)=false:=aY (λq=>nomatch q)
theorem zx71(a:Str)(b:Int):decide ((x9 a:Key)=wU b)=false:=aY (λq=>nomatch q)
def zu2(prog:aN)(w:aQ):PySem.KeyKind prog w Key where
 is:=zoz
 hash:=keyH w
 inj:=λv a b ha hb=>by
  rcases zx1 ha with⟨i,t,rfl,rfl⟩|⟨x,t,rfl,rfl⟩
  ·rcases zx1 hb with⟨j,u,rfl,e⟩|⟨y,u,rfl,e⟩
   ·injection e with e1 _;rw[e1]
   ·exact nomatch e
  ·rcases zx1 hb with⟨j,u,rfl,e⟩|⟨y,u,rfl,e⟩
   ·exact nomatch e
   ·injection e with e1 _;rw[e1]
 byValue:=λk v h=>by
  rcases zx1 h with⟨i,t,rfl,rfl⟩|⟨x,t,rfl,rfl⟩ <;> rfl
 pyHash:=λhv h=>by
  rcases zx1 hv with⟨i,t,rfl,rfl⟩|⟨x,t,rfl,rfl⟩
  ·exact wpAny_pyHash_int h
  ·exact wpAny_pyHash_str h
 eqBool:=λhu hv h=>by
  rcases zx1 hu with⟨i,t,rfl,rfl⟩|⟨x,t,rfl,rfl⟩
  ·rcases zx1 hv with⟨j,u,rfl,rfl⟩|⟨y,u,rfl,rfl⟩
   ·rw[zy61]at h;exact wpAny_eqBool_int h
   ·rw[za61]at h;exact SeqAt.EqAt.int_str i t y u _ _ _ _ h
  ·rcases zx1 hv with⟨j,u,rfl,rfl⟩|⟨y,u,rfl,rfl⟩
   ·rw[zx71]at h;exact SeqAt.EqAt.str_int x t j u _ _ _ _ h
   ·rw[ze81]at h;exact wpAny_eqBool_str h
 «strs»:=λk x t v h=>by
  rcases zx1 h with⟨i,u,rfl,e⟩|⟨y,u,rfl,e⟩
  ·exact nomatch e
  ·injection e with e1 _
   subst e1
   cases v <;> rfl
theorem zcl(prog:aN)(w:aQ)(i:Int)(t:Tok):(zu2 prog w).is (.inl i) (.int i t)=true:=zze i t
theorem zbl(prog:aN)(w:aQ)(x:Str)(t:Tok):(zu2 prog w).is (.inr x) (.str x t)=true:=zkq x t
set_option genInjectivity true in
inductive V where
|non|bl (b:Bool)|int (i:Int)|str (x:Str)|byt (b:Array UInt8)|flt (b:UInt64)|ref (a:aE)|ty (n:String)
 deriving DecidableEq
def RelV:V->aC->Prop
|.non,u=>u=xI
|.bl b,u=>u=zI b
|.int i,u=>∃t,u=y6 i t
|.str x,u=>∃t,u=y8 x t
|.byt b,u=>∃t,u=Value.bytes b t
|.flt b,u=>∃t,u=z6 b t
|.ref a,u=>u=vX a
|.ty n,u=>u=Value.type n
abbrev Vals:List V->List aC->Prop:=Paired RelV
theorem Vals.length{xs:List V}{us:List aC}(r:Vals xs us):xs.length=us.length:=dR r
theorem Vals.get:∀{xs:List V}{us:List aC}{i:Nat}{x:V},Vals xs us->xs[i]?=some x->∃u,us[i]?=some u/\RelV x u
|_,_,_,_,.nil,e=>by simp at e
|_,_,0,_,.cons r _,e=>by simp at e;subst e;exact⟨_,rfl,r⟩
|_,_,i+1,x,.cons _ t,e=>by
  obtain⟨u,h1,h2⟩:=Vals.get (i:=i) (x:=x) t (by simpa using e);exact⟨u,by simpa using h1,h2⟩
theorem Vals.set{x:V}{u:aC}(r:RelV x u):∀{xs:List V}{us:List aC}(i:Nat),Vals xs us->Vals (xs.set i x) (us.set i u)
|_,_,_,.nil=>.nil
|_,_,0,.cons _ t=>.cons r t
|_,_,i+1,.cons q t=>.cons q (Vals.set r i t)
theorem Vals.append:∀{xs ys:List V}{us ws:List aC},Vals xs us->Vals ys ws->Vals (xs++ys) (us++ws)
|_,_,_,_,.nil,s=>s
|_,_,_,_,.cons r t,s=>.cons r (Vals.append t s)
theorem Vals.take:∀{xs:List V}{us:List aC}(n:Nat),Vals xs us->Vals (xs.take n) (us.take n)
|_,_,0,_=>.nil
|_,_,_+1,.nil=>.nil
|_,_,n+1,.cons r t=>.cons r (Vals.take n t)
theorem Vals.drop:∀{xs:List V}{us:List aC}(n:Nat),Vals xs us->Vals (xs.drop n) (us.drop n)
|_,_,0,r=>r
|_,_,_+1,.nil=>.nil
|_,_,n+1,.cons _ t=>Vals.drop n t
theorem Vals.none_of:∀{xs:List V}{us:List aC}{i:Nat},Vals xs us->xs[i]?=none->us[i]?=none:=λ{xs us i} r e=>by
 have h1:=r.length;have h2:xs.length<=i:=z7.mp e;exact z7.mpr (by lia)
def RelO:Option V->Option aC->Prop
|some v,some u=>RelV v u
|none,none=>True
|_,_=>False
def KV{κ:Type}:List (κ×V)->List (κ×aC)->Prop:=Paired λ(p:κ×V)(q:κ×aC)=>p.1=q.1/\RelV p.2 q.2
def kV:Key->V
|.inl i=>.int i
|.inr x=>.str x
set_option genInjectivity true in
inductive HO where
 /-- a list -/
|lst (xs:List V)
 /-- a tuple (never changes) -/
|tup (xs:List V)
 /-- a dict whose keys are ints and texts;one whose keys are tuples of ints and texts (the empty one is both) -/
|dK (kvs:List (Key×V))|dT (kvs:List (List Key×V))
 /-- a set of ints: its members,its size -/
|set (S:Int->Bool) (n:Nat)
 /-- an instance of the class at C,its dict at dx,its attributes -/
|ins (C dx:aE) (fs:List (Str×V))
 /-- the dict of the instance at x -/
|own (x:aE)
 /-- the dict of an exception -/
|xd (fs:List (Str×V))
 /-- a bound method,f of x -/
|met (f x:aE)
 /-- a range object lo,lo+1,.. below hi -/
|rng (lo hi:Int)
 /-- a thing that is known to the object (the script;a dict while a loop walks it): read,never written while it is so -/
|frz (o:Obj) (u:HO)
 /-- a code object's table -/
|tbl (ps:Array aC)
 /-- any other thing,by what is true of its one object (a def of one's own: SetO a S n:=HO.ext λh=>..) -/
|ext (φ:aT->Prop)
abbrev Hp:=aE->Option HO
def upd(H:Hp)(a:aE)(o:HO):Hp:=λb=>if b=a then some o else H b
theorem zt0{H:Hp}{o:HO}:upd H a o a=some o:=by unfold upd;rw[aF rfl]
theorem ze1{H:Hp}{o:HO}(h:b≠a):upd H a o b=H b:=by unfold upd;rw[aA h]
theorem zz91{H:Hp}{o u:HO}(h:H a=some o)(h':H b=some u)(d:o≠u):a≠b:=by
 intro e;subst e;rw[h]at h';exact d (wV.inj h')
theorem zp5{H:Hp}{o:HO}(h:H a=some o)(h':H b=none):a≠b:=by
 intro e;subst e;rw[h]at h';cases h'
section
variable (P:aN)(w:aQ)
def ObjOk(H:Hp)(h:aT)(a:aE):HO->Prop
|.lst xs=>xs.length<=sizeLine/\∃(its:List aC)(n:Nat),Vals xs its/\h.get? a=some { cls:=.type "list",data:=.seq its.toArray n }
|.tup xs=>xs.length<=sizeLine/\∃its:List aC,Vals xs its/\iV h a its.toArray
|.dK kvs=>kvs.length<=sizeLine/\(a == bV)=false/\∃vs,KV kvs vs/\h.DictOf (zu2 P w) a vs
|.dT kvs=>kvs.length<=sizeLine/\(a == bV)=false/\∃xs:List (List Key×aE×aC),
   Paired (λ(p:List Key×V)(q:List Key×aE×aC)=>p.1=q.1/\H q.2.1=some (.tup (p.1.map kV))/\RelV p.2 q.2.2) kvs xs /\
   ∃o es ep,h.get? a=some o/\o.ExactDict/\o.data=.dict es ep/\es.toList=xs.map (entryOfKey (fL (zu2 P w)))/\(xs.map (·.1)).Nodup
|.set S n=>h.SetOf (intKind P w) a S n
|.ins C dx fs=>H dx=some (.own a)/\fs.length<=1000/\dx≠a/\h.get? a=some (bX C dx) /\
   ∃mA,h.Ns1 dx mA/\(∀f,RelO (fs.lookup f) (mA f))/\gJ mA (fs.map (·.1))
|.own _=>∃o,h.get? a=some o
|.xd fs=>∃mA,h.Ns1 a mA/\∀f,RelO (fs.lookup f) (mA f)
|.rng lo hi=>∃t u v,h.get? a=some { cls:=.type "range",data:=.fields #[.int lo t,.int hi u,.int 1 v] }
|.frz o u=>h.get? a=some o/\ObjOk H h a u
|.tbl ps=>h.get? a=some { cls:=.none,data:=.fields ps }
|.met f x=>h.get? a=some (e6 (.ref f) (.ref x))
|.ext φ=>φ h/\(∃o,h.get? a=some o)/\∀h1 h2:aT,φ h1->(∀o,h1.get? a=some o->h2.get? a=some o)->φ h2
def HOk(H:Hp)(h:aT):Prop:=∀a o,H a=some o->ObjOk P w H h a o
end
section
variable {P:aN}{w:aQ}{H H':Hp}{h h':aT}{a:aE}{o:HO}
theorem ObjOk.lt(x:ObjOk P w H h a o):a < h.objs.size:=by
 cases o with
|lst xs=>obtain⟨_,_,_,_,e⟩:=x;exact vY e
|tup xs=>obtain⟨_,_,_,p⟩:=x;exact p.lt
|dK kvs=>obtain⟨_,_,_,_,o,_,_,e,_⟩:=x;exact vY e
|dT kvs=>obtain⟨_,_,_,_,o,_,_,e,_⟩:=x;exact vY e
|set S n=>obtain⟨o,_,_,_,e,_⟩:=x;exact vY e
|ins C dx fs=>obtain⟨_,_,_,e,_⟩:=x;exact vY e
|own y=>obtain⟨_,e⟩:=x;exact vY e
|xd fs=>obtain⟨_,⟨_,_,_,e,_⟩,_⟩:=x;exact vY e
|rng lo hi=>obtain⟨_,_,_,e⟩:=x;exact vY e
|frz ob u=>obtain⟨e,_⟩:=x;exact vY e
|tbl ps=>exact vY (show h.get? a=some _ from x)
|met f y=>exact vY (show h.get? a=some _ from x)
|ext φ=>obtain⟨_,⟨_,e⟩,_⟩:=x;exact vY e
theorem Paired.mapP{α β:Type}{F G:α->β->Prop}:∀{l₁:List α}{l₂:List β},Paired F l₁ l₂->(∀a b,F a b->G a b)->Paired G l₁ l₂
|_,_,.nil,_=>.nil
|_,_,.cons r t,f=>.cons (f _ _ r) (Paired.mapP t f)
theorem ObjOk.stay(x:ObjOk P w H h a o)(k:∀b u,(b=a \/ H b=some (.own a))->h.get? b=some u->h'.get? b=some u)
  (ho:∀b,H b=some (.own a)->H' b=some (.own a)) (ht:∀b xs,H b=some (.tup xs)->H' b=some (.tup xs)):ObjOk P w H' h' a o:=by
 induction o with
|lst xs=>obtain⟨z,its,n,r,e⟩:=x;exact⟨z,its,n,r,k _ _ (.inl rfl) e⟩
|tup xs=>obtain⟨z,its,r,ob,e,c⟩:=x;exact⟨z,its,r,ob,k _ _ (.inl rfl) e,c⟩
|dK kvs=>obtain⟨z,y,vs,r,ob,es,ep,e,c⟩:=x;exact⟨z,y,vs,r,ob,es,ep,k _ _ (.inl rfl) e,c⟩
|dT kvs =>
  obtain⟨z,y,xs,r,ob,es,ep,e,c⟩:=x;exact⟨z,y,xs,Paired.mapP r λp q z=>⟨z.1,ht _ _ z.2.1,z.2.2⟩,ob,es,ep,k _ _ (.inl rfl) e,c⟩
|set S n=>obtain⟨ob,es,ep,t,e,c⟩:=x;exact⟨ob,es,ep,t,k _ _ (.inl rfl) e,c⟩
|ins C dx fs =>
  obtain⟨d,z,ne,e,mA,⟨od,es,ep,e2,c⟩,r⟩:=x;exact⟨ho _ d,z,ne,k _ _ (.inl rfl) e,mA,⟨od,es,ep,k _ _ (.inr d) e2,c⟩,r⟩
|own y=>obtain⟨ob,e⟩:=x;exact⟨ob,k _ _ (.inl rfl) e⟩
|xd fs=>obtain⟨mA,⟨od,es,ep,e,c⟩,r⟩:=x;exact⟨mA,⟨od,es,ep,k _ _ (.inl rfl) e,c⟩,r⟩
|rng lo hi=>obtain⟨t,u,v,e⟩:=x;exact⟨t,u,v,k _ _ (.inl rfl) e⟩
|frz ob u ih=>obtain⟨e,q⟩:=x;exact⟨k _ _ (.inl rfl) e,ih q⟩
|tbl ps =>
  have e:h.get? a=some { cls:=.none,data:=.fields ps }:=x;show h'.get? a=some { cls:=.none,data:=.fields ps };exact k a _ (.inl rfl) e
|met f y =>
  have e:h.get? a=some (e6 (.ref f) (.ref y)):=x;show h'.get? a=some (e6 (.ref f) (.ref y));exact k a _ (.inl rfl) e
|ext φ=>obtain⟨p,⟨o,e⟩,st⟩:=x;exact⟨st _ _ p λo q=>k _ _ (.inl rfl) q,⟨o,k _ _ (.inl rfl) e⟩,st⟩
theorem HOk.lt(x:HOk P w H h)(e:H a=some o):a < h.objs.size:=(x a o e).lt
theorem HOk.fresh(x:HOk P w H h)(e:h.objs.size<=a):H a=none:=by
 cases q:H a with
|none=>rfl
|some u=>exact aJ (wW (x.lt q) e) (w9 _)
theorem HOk.kept(x:HOk P w H h)(k:∀b u,h.get? b=some u->h'.get? b=some u):HOk P w H h':=λa o e =>
 (x a o e).stay (λb u _ q=>k b u q) (λ_ q=>q) λ_ _ q=>q
theorem HOk.laid(x:HOk P w H h)(k:∀b u,h.get? b=some u->h'.get? b=some u)(hp:h.objs.size<=a)(new:ObjOk P w (upd H a o) h' a o):HOk P w (upd H a o) h':=λb u e=>by
 have hn:=x.fresh hp;by_cases hb:b=a
 ·subst hb;rw[zt0]at e;cases e;exact new
 ·rw[ze1 hb]at e;exact(x b u e).stay (λc v _ q=>k c v q) (λc q=>by rw[ze1 (zp5 q hn)];exact q) λc xs q=>by rw[ze1 (zp5 q hn)];exact q
end
def Rd(H:Hp)(a:aE)(u:HO):Prop:=H a=some u \/ ∃o,H a=some (.frz o u)
theorem Rd.ok{P:aN}{H:Hp}{h:aT}{u:HO}(r:Rd H a u)(x:HOk P w H h):ObjOk P w H h a u:=by
 rcases r with r|⟨o,r⟩
 ·exact x a u r
 ·obtain⟨_,q⟩:=x a _ r;exact q
def Mut:Option HO->Prop
|some (.lst _)=>True
|some (.dK _)=>True
|some (.dT _)=>True
|some (.set _ _)=>True
|some (.ins _ _ _)=>True
|some (.ext _)=>True
|_=>False
section
variable {P:aN}{w:aQ}{H:Hp}{h h':aT}{x e:aE}{o':HO}
theorem HOk.write(ok:HOk P w H h)(mu:Mut (H x))(he:e=x \/ H e=some (.own x))(k:∀b u,b≠e->h.get? b=some u->h'.get? b=some u)(heo:∃u,h'.get? e=some u)
  (new:ObjOk P w (upd H x o') h' x o'):HOk P w (upd H x o') h':=λb u q=>by
 have nown:∀c y,H c=some (.own y)->c≠x:=λc y r z=>by subst z;rw[r]at mu;exact mu
 have ntup:∀c xs,H c=some (.tup xs)->c≠x:=λc xs r z=>by subst z;rw[r]at mu;exact mu
 by_cases hb:b=x
 ·subst hb;rw[zt0]at q;cases q;exact new
 ·rw[ze1 hb]at q;by_cases hbe:b=e
  ·have q':H b=some (.own x):=by
    rcases he with z|z
    ·exact aJ (hbe.trans z) hb
    ·rw[hbe];exact z
   rw[q]at q';cases q';obtain⟨v,hv⟩:=heo;exact⟨v,by rw[hbe];exact hv⟩
  ·refine(ok b u q).stay (λc v hc r=>k c v ?_ r) (λc r=>by rw[ze1 (nown c b r)];exact r) λc xs r=>by rw[ze1 (ntup c xs r)];exact r
   rcases hc with rfl|hc
   ·exact hbe
   ·rintro rfl;rcases he with z|z
    ·exact nown c b hc z
    ·rw[hc]at z;cases z;exact hb rfl
end
structure Un(fs ex:List aE)(H H':Hp)(h h':aT):Prop where
 keep:∀b o,h.get? b=some o->H b=none->b ∉ fs->b ∉ ex->h'.get? b=some o
 slot:∀b o,h.get? b=some o->H b=none->b∈fs->b ∉ ex->∃sl,h'.get? b=some { o with slots:=sl }
 free:∀b o,h.get? b=some o->H b=none->b ∉ ex->H' b=none
 there:∀b o,h.get? b=some o->b ∉ ex->∃o',h'.get? b=some o'
 tups:∀b xs,H b=some (.tup xs)->H' b=some (.tup xs)
 frzs:∀b o u,H b=some (.frz o u)->H' b=some (.frz o u)
 tbls:∀b ps,H b=some (.tbl ps)->∃more,H' b=some (.tbl (ps++more))
section
variable {fs fs' ex ex':List aE}{H H1 H2:Hp}{h h1 h2 h':aT}{a x e:aE}{o:HO}
theorem Un.any(u:Un fs ex H H1 h h1){ob:Obj}(q:h.get? b=some ob)(n:H b=none)(hx:b ∉ ex):∃sl,h1.get? b=some { ob with slots:=sl }:=by
 by_cases hb:b∈fs
 ·exact u.slot b ob q n hb hx
 ·exact⟨ob.slots,u.keep b ob q n hb hx⟩
theorem Un.kept(k:∀b u,h.get? b=some u->h'.get? b=some u):Un fs ex H H h h' :=
 ⟨λb ob q _ _ _=>k b ob q,λb ob q _ _ _=>⟨ob.slots,k b ob q⟩,λ_ _ _ n _=>n,λb ob q _=>⟨ob,k b ob q⟩,λ_ _ q=>q,λ_ _ _ q=>q,λ_ ps q=>⟨#[],by rw[q];simp⟩⟩
theorem Un.refl:Un fs ex H H h h:=Un.kept λ_ _ q=>q
theorem Un.laid(k:∀b u,h.get? b=some u->h'.get? b=some u)(hp:h.objs.size<=a)(hn:H a=none):Un fs ex H (upd H a o) h h' where
 keep:=λb u q _ _ _=>k b u q
 slot:=λb u q _ _ _=>⟨u.slots,k b u q⟩
 free:=λb u q n _=>by rw[ze1 (wJ (wW (vY q) hp))];exact n
 there:=λb u q _=>⟨u,k b u q⟩
 tups:=λb xs q=>by rw[ze1 (zp5 q hn)];exact q
 frzs:=λb u xs q=>by rw[ze1 (zp5 q hn)];exact q
 tbls:=λb ps q=>⟨#[],by rw[ze1 (zp5 q hn),q];simp⟩
theorem Un.write(mu:Mut (H x))(he:e=x \/ H e=some (.own x))(k:∀b u,b≠e->h.get? b=some u->h'.get? b=some u)(heo:∃u,h'.get? e=some u):Un fs ex H (upd H x o) h h':=by
 have hx:∀b,H b=none->b≠x:=λb n z=>by subst z;rw[n]at mu;exact mu
 have hb:∀b,H b=none->b≠e:=λb n z=>by
  subst z;rcases he with r|r
  ·exact hx b n r
  ·rw[n]at r;cases r
 have hm:∀b u,H b=some u->¬Mut (some u)->b≠x:=λb u q nm z=>by subst z;rw[q]at mu;exact nm mu
 refine⟨λb u q n _ _=>k b u (hb b n) q,λb u q n _ _=>⟨u.slots,k b u (hb b n) q⟩,λb u q n _=>by rw[ze1 (hx b n)];exact n,λb u q _=>?_,
  λb xs q=>by rw[ze1 (hm b _ q λz=>z)];exact q,λb u xs q=>by rw[ze1 (hm b _ q λz=>z)];exact q,λb ps q=>⟨#[],by rw[ze1 (hm b _ q λz=>z),q];simp⟩⟩
 by_cases hbe:b=e
 ·subst hbe;exact heo
 ·exact⟨u,k b u hbe q⟩
end
def trk(h:aT)(H:Hp):List Addr:=(u4 h.objs.size).filter λa=>(H a).isSome
def hidT(h:aT)(H:Hp):Heap:=PySem.W.hideAll h (trk h H)
theorem zzr(h:aT)(H:Hp):(hidT h H).objs.size=h.objs.size:=PySem.W.hideAll_size _ _
theorem zgx{h:aT}{H:Hp}(e:h.get? b=some o)(n:H b=none):(hidT h H).get? b=some o :=
 PySem.W.hideAll_get _ e λhm=>by
  have q:(H b).isSome=true:=(yG.mp hm).2;rw[n]at q;simp at q
theorem zh31{h:aT}{H:Hp}(e:(hidT h H).get? b=some o):h.get? b=some o/\H b=none:=by
 have e':h.get? b=some o:=PySem.W.of_hideAll (trk h H) e;refine⟨e',?_⟩;cases q:H b with
|none=>rfl
|some x =>
  have hm:b∈trk h H:=yG.mpr ⟨u9.mpr (vY e'),by simp[q]⟩;have z:(hidT h H).get? b=none:=PySem.W.hideAll_none (trk h H) hm;rw[z]at e;cases e
structure Mod(K:Fg)(mg:Str->Option aC)(base:aT):Prop where
 kin:K.In base
 glob:base.Ns aP mg
 blt:∃mb,base.Ns iA mb/\∀x:Str,x ≠ "__name__"->mb x=a9 x
 nolimit:base.NoLimit
structure Cx where
 prog:aN
 w:aQ
 K:Fg
 mg:Str->Option aC
 base:aT
 A:bB
 N:List Str
 s₀:aH
 H₀:Hp
 env:Env
 outer:List Env
 stack:List Env
 ex:List aE
 fn:Str->Bool
 calm:Bool
 pn:List (aE×Obj)
 xe:aC->aH->Prop
def frs(l:List Env):List Addr:=l.filterMap (·.frame)
abbrev Cx.fs(X:Cx):List Addr:=frs X.outer
def Vis(sc:dP)(x:Str):Prop:=sc.names.lookup x=some .local \/ sc.names.lookup x=some .cell \/ sc.names.lookup x=some .free
def Loc(sc:dP)(x:Str):Prop:=sc.names.lookup x=some .local \/ sc.names.lookup x=some .cell
def Look(env:Env)(h:aT)(m:Str->Option aC)(x:Str)(u:aC):Prop :=
 (env.kindOf x=some .local/\m x=some u) \/ ((env.kindOf x=some .cell \/ env.kindOf x=some .free)/\∃c,env.cells.lookup x=some c/\h.IsCell c (some u))
structure Cx.Ok(X:Cx):Prop where
 mod:Mod X.K X.mg X.base
 kind:X.env.scope.kind=.function
 glob:X.env.globals=aP
 blt:X.env.builtins=iA
 above:X.s₀.heap.objs.size<=X.env.locals
 inj:∀x y c,X.env.cells.lookup x=some c->X.env.cells.lookup y=some c->x=y
 has:∀x,(X.env.kindOf x=some .cell \/ X.env.kindOf x=some .free)->∃c,X.env.cells.lookup x=some c
 cab:∀x c,X.fn x=true->X.env.cells.lookup x=some c->X.s₀.heap.objs.size<=c
 hd:X.calm=true->X.A.handled=none
 frames:X.A.frames=some X.stack
 stk:X.stack=X.outer \/ (X.stack=X.env :: X.outer/\X.env.frame=some X.env.locals)
 exf:∀b∈X.ex,b≠X.env.locals/\∀x c,X.env.cells.lookup x=some c->c≠b
 bs:∀b o,X.base.get? b=some o->X.s₀.heap.get? b=some o/\X.H₀ b=none
 bsz:X.base.objs.size<=X.s₀.heap.objs.size
 noex:∀b o,X.base.get? b=some o->b ∉ X.ex
 exfs:∀b∈X.ex,b ∉ X.fs
 funs:X.s₀.heap.FunFrames X.base X.outer
 frf:∀b∈X.fs,X.H₀ b=none
structure Inv(X:Cx)(pins:List (aE×Obj))(Y:List (Option V))(H:Hp)(s:aH):Prop where
 ok:X.Ok
 os:s.os=X.s₀.os
 bare:dS s.gens
 base:Un X.fs X.ex X.H₀ H X.s₀.heap s.heap
 loc:∃m,s.heap.Ns X.env.locals m/\∀(i:Nat)(x:Str)(v:V),X.N[i]?=some x->Y[i]?=some (some v)->Vis X.env.scope x->∃u,RelV v u/\Look X.env s.heap m x u
 cell:∀x c,X.env.cells.lookup x=some c->∃v,s.heap.IsCell c v
 free:H X.env.locals=none
 freeC:∀x c,X.env.cells.lookup x=some c->H c=none
 pin:∀p∈X.pn++pins,s.heap.get? p.1=some p.2/\H p.1=none/\p.1≠X.env.locals/\p.1 ∉ X.fs/\∀v,p.2.data≠.cell v
 hok:HOk X.prog X.w H s.heap
 len:Y.length=X.N.length
section
variable {X:Cx}{pins:List (aE×Obj)}{Y:List (Option V)}{H H':Hp}{s:aH}{h':aT}
theorem Cx.Ok.nofr(ok:X.Ok)(e:X.base.get? b=some o):b ∉ X.fs:=λhb=>by
 have:=(ok.funs.mem hb).1;rw[e]at this;cases this
theorem Inv.bs(I:Inv X pins Y H s):∀b o,X.base.get? b=some o->s.heap.get? b=some o/\H b=none:=λb o e =>
 ⟨I.base.keep b o (I.ok.bs b o e).1 (I.ok.bs b o e).2 (I.ok.nofr e) (I.ok.noex b o e),I.base.free b o (I.ok.bs b o e).1 (I.ok.bs b o e).2 (I.ok.noex b o e)⟩
theorem Inv.bk(I:Inv X pins Y H s):∀b o,X.base.get? b=some o->s.heap.get? b=some o:=λb o e=>(I.bs b o e).1
theorem Inv.mod(I:Inv X pins Y H s):Mod X.K X.mg X.base:=I.ok.mod
theorem Inv.kIn(I:Inv X pins Y H s):X.K.In s.heap:=I.ok.mod.kin.keeps I.bk
theorem Inv.lt(I:Inv X pins Y H s):X.env.locals < s.heap.objs.size:=let ⟨_,hn,_⟩:=I.loc;hn.lt
theorem Inv.sz(I:Inv X pins Y H s):X.s₀.heap.objs.size<=s.heap.objs.size:=wZ I.ok.above (yH I.lt)
theorem Inv.nofs(I:Inv X pins Y H s)(h:s.heap.objs.size<=a):a ∉ X.fs:=λhb=>by
 obtain⟨_,o,ho,_⟩:=I.ok.funs.mem hb;exact aJ (wW (vY ho) (wZ I.sz h)) (w9 _)
theorem Inv.cne(I:Inv X pins Y H s):∀x c,X.env.cells.lookup x=some c->c≠X.env.locals:=λx c e z=>by
 obtain⟨v,o,ho,hd⟩:=I.cell x c e;obtain⟨m,⟨o',es,ep,ho',hd',_⟩,_⟩:=I.loc;rw[z,ho']at ho;cases ho;rw[hd']at hd;cases hd
theorem Inv.funs(I:Inv X pins Y H s):s.heap.FunFrames X.base X.outer:=by
 have all:∀(l:List Env),(∀b∈frs l,b∈X.fs)->X.s₀.heap.FunFrames X.base l->s.heap.FunFrames X.base l:=by
  intro l
  induction l with
 |nil=>intro _ _;trivial
 |cons env r ih =>
   intro hs hl;obtain⟨hk,⟨L,o,hf,hn,ho,hd⟩,hr⟩:=hl;have hL:L∈X.fs:=hs L (by unfold frs;rw[xB,hf];exact wP);obtain⟨sl,e⟩:=I.base.slot L o ho (I.ok.frf L hL) hL λz=>I.ok.exfs L z hL;exact⟨hk,⟨L,_,hf,hn,e,hd⟩,ih (λb hb=>hs b (by unfold frs;rw[xB,hf];exact wB _ hb)) hr⟩
 exact all X.outer (λ_ hb=>hb) I.ok.funs
theorem Inv.stack(I:Inv X pins Y H s):s.heap.FunFrames X.base X.stack:=by
 rcases I.ok.stk with e|⟨e,hf⟩
 ·rw[e];exact I.funs
 ·rw[e];obtain⟨m,hn,_⟩:=I.loc;refine .cons (by rw[I.ok.kind];decide) hf hn ?_ I.funs;exact Heap.get?_none_of_le (wZ I.ok.bsz I.ok.above)
theorem Inv.stkSub(I:Inv X pins Y H s):∀b∈frs X.stack,b∈X.env.locals :: X.fs:=λb hb=>by
 rcases I.ok.stk with e|⟨e,hf⟩
 ·rw[e]at hb;exact wB _ hb
 ·rw[e]at hb;unfold frs at hb;rw[xB,hf]at hb;exact hb
theorem Inv.stkFree(I:Inv X pins Y H s):∀b∈frs X.stack,H b=none:=λb hb=>by
 rcases vW.mp (I.stkSub b hb)with e|hb
 ·rw[e];exact I.free
 ·obtain⟨_,o,ho,_⟩:=I.ok.funs.mem hb;exact I.base.free b o ho (I.ok.frf b hb) λz=>I.ok.exfs b z hb
theorem Inv.step{g':Array GenState}{t':Nat}{d':Drawn}(I:Inv X pins Y H s)
  (hch:∀b∈ch,(b∈X.ex \/ X.s₀.heap.objs.size<=b)/\b≠X.env.locals/\(∀x c,X.env.cells.lookup x=some c->c≠b)/\∀p∈X.pn++pins,p.1≠b)
  (keep:∀b o,b≠X.env.locals->b ∉ X.fs->b ∉ ch->s.heap.get? b=some o->H b=none->h'.get? b=some o)
  (slot:∀b o,b≠X.env.locals->b∈X.fs->b ∉ ch->s.heap.get? b=some o->H b=none->∃sl,h'.get? b=some { o with slots:=sl }) (free:∀b o,b ∉ ch->s.heap.get? b=some o->H b=none->H' b=none)
  (there:∀b o,b ∉ ch->s.heap.get? b=some o->∃o',h'.get? b=some o')
  (tups:∀b xs,H b=some (.tup xs)->H' b=some (.tup xs)) (frzs:∀b o u,H b=some (.frz o u)->H' b=some (.frz o u)) (tbls:∀b ps,H b=some (.tbl ps)->∃more,H' b=some (.tbl (ps++more)))
  (ns:∀m,s.heap.Ns X.env.locals m->h'.Ns X.env.locals m) (hok:HOk X.prog X.w H' h') (hg:dS g') :
  Inv X pins Y H' { s with heap:=h',gens:=g',drawn:=d',toks:=t' }:=by
 have neL:∀b o,X.s₀.heap.get? b=some o->b≠X.env.locals:=λb o e=>wJ (wW (vY e) I.ok.above);have neC:∀b o,X.s₀.heap.get? b=some o->b ∉ X.ex->b ∉ ch:=λb o e hx hb=>by
  rcases(hch b hb).1 with z|z
  ·exact hx z
  ·exact aJ (wW (vY e) z) (w9 _)
 have cellK:∀x c,X.env.cells.lookup x=some c->∀v,s.heap.IsCell c v->h'.IsCell c v:=λx c e v ⟨o,ho,hd⟩=>by
  have nch:c ∉ ch:=λz=>(hch c z).2.2.1 x c e rfl;by_cases hc:c∈X.fs
  ·obtain⟨sl,q⟩:=slot c o (I.cne x c e) hc nch ho (I.freeC x c e);exact⟨_,q,hd⟩
  ·exact⟨o,keep c o (I.cne x c e) hc nch ho (I.freeC x c e),hd⟩
 refine⟨I.ok,I.os,hg,⟨λb o e n hb hx=>?_,λb o e n hb hx=>?_,λb o e n hx=>?_,λb o e hx=>?_,λb xs e=>tups b xs (I.base.tups b xs e),λb o xs e=>frzs b o xs (I.base.frzs b o xs e),λb ps e=>?_⟩,?_,λx c e=>?_,?_,λx c e=>?_,λp hp=>?_,hok,I.len⟩
 ·exact keep b o (neL b o e) hb (neC b o e hx) (I.base.keep b o e n hb hx) (I.base.free b o e n hx)
 ·obtain⟨sl,e1⟩:=I.base.slot b o e n hb hx;obtain⟨sl',e2⟩:=slot b _ (neL b o e) hb (neC b o e hx) e1 (I.base.free b o e n hx);exact⟨sl',e2⟩
 ·obtain⟨o',e1⟩:=I.base.there b o e hx;exact free b o' (neC b o e hx) e1 (I.base.free b o e n hx)
 ·obtain⟨o',e1⟩:=I.base.there b o e hx;exact there b o' (neC b o e hx) e1
 ·obtain⟨m1,e1⟩:=I.base.tbls b ps e;obtain⟨m2,e2⟩:=tbls b _ e1;exact⟨m1++m2,by rw[e2,uaG]⟩
 ·obtain⟨m,hn,hl⟩:=I.loc;refine⟨m,ns m hn,λi x v e1 e2 e3=>?_⟩;obtain⟨u,r,l⟩:=hl i x v e1 e2 e3;refine⟨u,r,?_⟩;rcases l with l|⟨k,c,e,z⟩
  ·exact .inl l
  ·exact .inr ⟨k,c,e,cellK x c e _ z⟩
 ·obtain⟨v,z⟩:=I.cell x c e;exact⟨v,cellK x c e v z⟩
 ·obtain⟨m,⟨o,_,_,ho,_⟩,_⟩:=I.loc;exact free _ o (λz=>(hch _ z).2.1 rfl) ho I.free
 ·obtain⟨v,o,ho,hd⟩:=I.cell x c e;exact free c o (λz=>(hch c z).2.2.1 x c e rfl) ho (I.freeC x c e)
 ·obtain⟨e,n,ne,nf,d⟩:=I.pin p hp;have nch:p.1 ∉ ch:=λz=>(hch p.1 z).2.2.2 p hp rfl;exact⟨keep p.1 p.2 ne nf nch e n,free p.1 p.2 nch e n,ne,nf,d⟩
theorem Inv.un{t':Nat}(I:Inv X pins Y H s)(u:Un X.fs [] H H' s.heap h')(hok:HOk X.prog X.w H' h'):Inv X pins Y H' { s with heap:=h',toks:=t' }:=by
 obtain⟨m,⟨o,es,ep,ho,r⟩,_⟩:=id I.loc;obtain⟨sl,hL⟩:=u.any ho I.free (by simp);exact I.step (g':=s.gens) (d':=s.drawn) (ch:=[]) (λ_ z=>nomatch z) (λb o _ hb _ e n=>u.keep b o e n hb (by simp)) (λb o _ hb _ e n=>u.slot b o e n hb (by simp)) (λb o _ e n=>u.free b o e n (by simp)) (λb o _ e=>u.there b o e (by simp)) u.tups u.frzs u.tbls (λm' hm=>by
  obtain⟨o',es',ep',ho',r'⟩:=hm;rw[ho]at ho';cases ho';exact⟨_,es',ep',hL,r'⟩) hok I.bare
theorem Inv.call{t':Nat}{d':Drawn}(I:Inv X pins Y H s)(u:Un (frs X.stack) ch H H' s.heap h')(hok:HOk X.prog X.w H' h')(hg:dS g')
  (hch:∀b∈ch,(b∈X.ex \/ X.s₀.heap.objs.size<=b)/\b≠X.env.locals/\(∀x c,X.env.cells.lookup x=some c->c≠b)/\∀p∈X.pn++pins,p.1≠b) :
  Inv X pins Y H' { s with heap:=h',gens:=g',drawn:=d',toks:=t' }:=by
 obtain⟨m,⟨o,es,ep,ho,r⟩,_⟩:=id I.loc;obtain⟨sl,hL⟩:=u.any ho I.free λz=>(hch _ z).2.1 rfl;exact I.step (ch:=ch) hch (λb o hL hb hc e n=>u.keep b o e n (λz=>(vW.mp (I.stkSub b z)).elim hL hb) hc) (λb o _ _ hc e n=>u.any e n hc) (λb o hc e n=>u.free b o e n hc) (λb o hc e=>u.there b o e hc) u.tups u.frzs u.tbls (λm' hm=>by
  obtain⟨o',es',ep',ho',r'⟩:=hm;rw[ho]at ho';cases ho';exact⟨_,es',ep',hL,r'⟩) hok hg
theorem Inv.turned{t':Nat}(I:Inv X pins Y H s)(k:∀b o,b≠it->s.heap.get? b=some o->h'.get? b=some o)(hn:H it=none)(hL:it≠X.env.locals)
  (h1:it∈X.ex \/ X.s₀.heap.objs.size<=it) (h2:∀x c,X.env.cells.lookup x=some c->c≠it) (h3:∀p∈X.pn++pins,p.1≠it):Inv X pins Y H { s with heap:=h',toks:=t' }:=by
 have nit:∀b u,H b=some u->b≠it:=λb u e z=>by rw[z,hn]at e;cases e
 refine I.step (g':=s.gens) (d':=s.drawn) (ch:=[it]) (λb hb=>?_) (λb o _ _ hc e _=>k b o (λz=>hc (by simp[z])) e) (λb o _ _ hc e _=>⟨o.slots,k b o (λz=>hc (by simp[z])) e⟩) (λ_ _ _ _ n=>n)
  (λb o hc e=>⟨o,k b o (λz=>hc (by simp[z])) e⟩) (λ_ _ e=>e) (λ_ _ _ e=>e) (λb ps e=>⟨#[],by rw[e];simp⟩) (λm hm=>?_) (λb u e=>?_) I.bare
 ·have e:b=it:=by simpa using hb
  subst e;exact⟨h1,hL,h2,h3⟩
 ·obtain⟨o,es,ep,ho,r⟩:=hm;exact⟨o,es,ep,k _ o (Ne.symm hL) ho,r⟩
 ·refine(I.hok b u e).stay (λc v hc q=>k c v ?_ q) (λ_ q=>q) λ_ _ q=>q;rcases hc with z|z
  ·rw[z];exact nit b u e
  ·exact nit c _ z
theorem Inv.tok(I:Inv X pins Y H s)(t:Nat):Inv X pins Y H { s with toks:=t }:=I.un (h':=s.heap) (t':=t) Un.refl I.hok
theorem Inv.kept{t':Nat}(I:Inv X pins Y H s)(k:∀b u,s.heap.get? b=some u->h'.get? b=some u):Inv X pins Y H { s with heap:=h',toks:=t' }:=I.un (Un.kept k) (I.hok.kept k)
theorem Inv.laid{a:aE}{o:HO}{t':Nat}(I:Inv X pins Y H s)(k:∀b u,s.heap.get? b=some u->h'.get? b=some u)(hp:s.heap.objs.size<=a)(new:ObjOk X.prog X.w (upd H a o) h' a o) :
  Inv X pins Y (upd H a o) { s with heap:=h',toks:=t' }:=I.un (Un.laid k hp (I.hok.fresh hp)) (I.hok.laid k hp new)
theorem Inv.write{x e:aE}{o:HO}{t':Nat}(I:Inv X pins Y H s)(mu:Mut (H x))(he:e=x \/ H e=some (.own x))(k:∀b u,b≠e->s.heap.get? b=some u->h'.get? b=some u)(heo:∃u,h'.get? e=some u)
  (new:ObjOk X.prog X.w (upd H x o) h' x o):Inv X pins Y (upd H x o) { s with heap:=h',toks:=t' }:=I.un (Un.write mu he k heo) (I.hok.write mu he k heo new)
theorem Inv.pins_of{pins':List (aE×Obj)}(I:Inv X pins Y H s)(h:∀p∈pins',s.heap.get? p.1=some p.2/\H p.1=none/\p.1≠X.env.locals/\p.1 ∉ X.fs/\∀v,p.2.data≠.cell v):Inv X pins' Y H s :=
 ⟨I.ok,I.os,I.bare,I.base,I.loc,I.cell,I.free,I.freeC,λp hp=>(vS.mp hp).elim (λz=>I.pin p (xJ _ z)) (h p),I.hok,I.len⟩
theorem zrp(hN:N.Nodup){j:Nat}(a:N[i]?=some x)(b:N[j]?=some x):i=j:=by
 obtain⟨h1,e1⟩:=v8.mp a;obtain⟨h2,e2⟩:=v8.mp b;exact(List.getElem_inj hN).mp (e1.trans e2.symm)
theorem zvj{M:Model}{A:bB}{E:aC->aH->Prop}{v:V}{Q:Unit->aH->Prop}(I:Inv X pins Y H s)(hN:X.N.Nodup)(hi:X.N[i]?=some x)(hx:Loc X.env.scope x)(r:RelV v u)
  (h:∀s',Inv X pins (Y.set i (some v)) H s'->(∃a,bD a s.heap s'.heap/\(a=X.env.locals \/ X.env.cells.lookup x=some a))->Q () s') (hf:X.fn x=true \/ X.env.scope.names.lookup x=some .local:=by walk_at"vi"):aI M A (iR X.env x u) Q E s:=by
 obtain⟨m,hn,hl⟩:=id I.loc;have hcls:(X.env.scope.kind == .class || (X.env.scope.kind == .module && X.env.locals != X.env.globals))=false:=by rw[I.ok.kind];rfl
 have hiY:i < Y.length:=by rw[I.len];exact(v8.mp hi).1
 have cne:=I.cne;have tracked:∀{a:aE}{h':aT},(∃o,s.heap.get? a=some o/\H a=none)->bD a s.heap h'->HOk X.prog X.w H h':=λ{a h'} ha hs b ob e=>by
  obtain⟨_,_,hfree⟩:=ha;refine(I.hok b ob e).stay (λc w' hc q=>(hs.2 c ?_).trans q) (λ_ q=>q) λ_ _ q=>q;rintro rfl;rcases hc with rfl|hc
  ·rw[hfree]at e;cases e
  ·rw[hfree]at hc;cases hc
 rcases hx with hk|hk
 ·refine wpAny_storeName_local hk hn (λh' hn' hs=>?_) hcls;obtain⟨oL,_,_,hoL,_⟩:=id hn;refine h _ ⟨I.ok,I.os,I.bare,⟨λb o e n hb hx=>?_,λb o e n hb hx=>?_,I.base.free,λb o e hx=>?_,I.base.tups,I.base.frzs,I.base.tbls⟩,⟨_,hn',λj y v' e1 e2 e3=>?_⟩,λy c e=>?_,I.free,I.freeC,λp hp=>?_,tracked ⟨oL,hoL,I.free⟩ hs,by simpa using I.len⟩ ⟨_,hs,.inl rfl⟩
  ·exact(hs.2 b (wJ (wW (vY e) I.ok.above))).trans (I.base.keep b o e n hb hx)
  ·obtain⟨sl,e1⟩:=I.base.slot b o e n hb hx;exact⟨sl,(hs.2 b (wJ (wW (vY e) I.ok.above))).trans e1⟩
  ·obtain⟨o',e1⟩:=I.base.there b o e hx;exact⟨o',(hs.2 b (wJ (wW (vY e) I.ok.above))).trans e1⟩
  ·by_cases hj:j=i
   ·subst hj;rw[hi]at e1;cases e1;rw[xC hiY]at e2;cases e2;exact⟨u,r,.inl ⟨hk,by simp⟩⟩
   ·rw[xK (Ne.symm hj)]at e2;obtain⟨u',r',q⟩:=hl j y v' e1 e2 e3;refine⟨u',r',?_⟩;rcases q with⟨k,e⟩|⟨k,c,e,z⟩
    ·refine .inl ⟨k,?_⟩;have:y≠x:=λe=>hj (zrp hN e1 (e ▸ hi));simp[this,e]
    ·exact .inr ⟨k,c,e,z.sameBut hs (cne y c e)⟩
  ·obtain⟨w',z⟩:=I.cell y c e;exact⟨w',z.sameBut hs (cne y c e)⟩
  ·obtain⟨e,n,ne,nf,d⟩:=I.pin p hp;exact⟨(hs.2 p.1 ne).trans e,n,ne,nf,d⟩
 ·have hfn:X.fn x=true:=by
   rcases hf with z|z
   ·exact z
   ·rw[z]at hk;cases hk
  obtain⟨c,hc⟩:=I.ok.has x (.inl hk);obtain⟨w',z⟩:=I.cell x c hc;refine wpAny_storeName_cell I.ok.kind hk hc z (λh' hc' hs=>?_);obtain⟨oc,hoc,hocd⟩:=id z;refine h { s with heap:=h' } ⟨I.ok,I.os,I.bare,⟨λb o e n hb hx=>?_,λb o e n hb hx=>?_,I.base.free,λb o e hx=>?_,I.base.tups,I.base.frzs,I.base.tbls⟩,⟨m,hn.sameBut hs (Ne.symm (cne x c hc)),λj y v' e1 e2 e3=>?_⟩,λy c' e=>?_,I.free,I.freeC,λp hp=>?_,tracked ⟨oc,hoc,I.freeC x c hc⟩ hs,by simpa using I.len⟩ ⟨c,hs,.inr hc⟩
  ·exact(hs.2 b (wJ (wW (vY e) (I.ok.cab x c hfn hc)))).trans (I.base.keep b o e n hb hx)
  ·obtain⟨sl,e1⟩:=I.base.slot b o e n hb hx;exact⟨sl,(hs.2 b (wJ (wW (vY e) (I.ok.cab x c hfn hc)))).trans e1⟩
  ·obtain⟨o',e1⟩:=I.base.there b o e hx;exact⟨o',(hs.2 b (wJ (wW (vY e) (I.ok.cab x c hfn hc)))).trans e1⟩
  ·by_cases hj:j=i
   ·subst hj;rw[hi]at e1;cases e1;rw[xC hiY]at e2;cases e2;exact⟨u,r,.inr ⟨.inl hk,c,hc,hc'⟩⟩
   ·rw[xK (Ne.symm hj)]at e2;obtain⟨u',r',q⟩:=hl j y v' e1 e2 e3;refine⟨u',r',?_⟩;rcases q with q|⟨k,c',e,z'⟩
    ·exact .inl q
    ·refine .inr ⟨k,c',e,z'.sameBut hs ?_⟩;rintro rfl;exact hj (zrp hN e1 (I.ok.inj _ _ _ e hc ▸ hi))
  ·by_cases hcc:c'=c
   ·subst hcc;exact⟨_,hc'⟩
   ·obtain⟨w2,z2⟩:=I.cell y c' e;exact⟨w2,z2.sameBut hs hcc⟩
  ·obtain⟨e,n,ne,nf,d⟩:=I.pin p hp;refine⟨(hs.2 p.1 ?_).trans e,n,ne,nf,d⟩;intro q;rw[q,hoc]at e;have q':oc=p.2:=wV.inj e;exact d w' (by rw[<- q'];exact hocd)
theorem zqi{M:Model}{A:bB}{E:aC->aH->Prop}{v:V}{Q:Unit->aH->Prop}(I:Inv X pins Y H s)(hN:X.N.Nodup)(hi:X.N[i]?=some x)(hx:Loc X.env.scope x)(r:RelV v u)
  (h:∀s',Inv X pins (Y.set i (some v)) H s'->Q () s') (hf:X.fn x=true \/ X.env.scope.names.lookup x=some .local:=by walk_at"vi"):aI M A (iR X.env x u) Q E s :=
 zvj I hN hi hx r (λs' I' _=>h s' I') hf
theorem Inv.call'{s':aH}(I:Inv X pins Y H s)(ho:s'.os=s.os)(u:Un (frs X.stack) ch H H' s.heap s'.heap)(hok:HOk X.prog X.w H' s'.heap)(hg:dS s'.gens)
  (hch:∀b∈ch,(b∈X.ex \/ X.s₀.heap.objs.size<=b)/\b≠X.env.locals/\(∀x c,X.env.cells.lookup x=some c->c≠b)/\∀p∈X.pn++pins,p.1≠b):Inv X pins Y H' s':=by
 obtain⟨h',g',d',t',o'⟩:=s';have e:o'=s.os:=ho;subst e;exact I.call (g':=g') (t':=t') (d':=d') u hok hg hch
end
abbrev XK:=aC->Option aE->Hp->Prop
abbrev St:=List (Option V)
abbrev VK:=V->Hp->Prop
abbrev TE:=St->Hp->VK->Prop
abbrev TT:=St->Hp->(Bool->Hp->Prop)->Prop
abbrev TA:=St->Hp->(List V->Hp->Prop)->Prop
structure Ends where
 nx:St->Hp->Prop
 rt:VK
 bk:St->Hp->Prop:=λ_ _=>False
 ct:St->Hp->Prop:=λ_ _=>False
abbrev TS:=Ends->St->Hp->Prop
def EP(X:Cx)(pins:List (aE×Obj))(Y:St)(Q:VK)(u:aC)(s':aH):Prop:=∃v H',Inv X pins Y H' s'/\RelV v u/\Q v H'
def TP(X:Cx)(pins:List (aE×Obj))(Y:St)(Q:Bool->Hp->Prop)(b:Bool)(s':aH):Prop:=∃H',Inv X pins Y H' s'/\Q b H'
def AP(X:Cx)(pins:List (aE×Obj))(Y:St)(Q:List V->Hp->Prop)(us:List aC)(s':aH):Prop:=∃vs H',Inv X pins Y H' s'/\Vals vs us/\Q vs H'
def SP(X:Cx)(pins:List (aE×Obj))(D:Ends)(f:Flow)(s':aH):Prop :=
 match f with
|.next=>∃Y' H',Inv X pins Y' H' s'/\D.nx Y' H'
|.brk=>∃Y' H',Inv X pins Y' H' s'/\D.bk Y' H'
|.cont=>∃Y' H',Inv X pins Y' H' s'/\D.ct Y' H'
|.ret u=>∃v Y' H',Inv X pins Y' H' s'/\RelV v u/\D.rt v H'
def PE(X:Cx)(e:aX)(t:TE):Prop :=
 ∀(pins:List (aE×Obj))(s:aH)(Y:St)(H:Hp)(Q:VK),Inv X pins Y H s->t Y H Q->aI (aM X.prog X.w) X.A (a8 e X.env) (EP X pins Y Q) X.xe s
def PT(X:Cx)(e:aX)(t:TT):Prop :=
 ∀(pins:List (aE×Obj))(s:aH)(Y:St)(H:Hp)(Q:Bool->Hp->Prop),Inv X pins Y H s->t Y H Q->aI (aM X.prog X.w) X.A (gF e X.env (a8 e X.env)) (TP X pins Y Q) X.xe s
def PW(X:Cx)(e:aX)(t:TT):Prop :=
 ∀(whole:Sem aC)(pins:List (aE×Obj))(s:aH)(Y:St)(H:Hp)(Q:Bool->Hp->Prop),Inv X pins Y H s->t Y H Q->aI (aM X.prog X.w) X.A (gF e X.env whole) (TP X pins Y Q) X.xe s
theorem PW.pt{X:Cx}{e:aX}{t:TT}(h:PW X e t):PT X e t:=h _
def PA(X:Cx)(es:List aX)(t:TA):Prop :=
 ∀(pos:Pos)(pins:List (aE×Obj))(s:aH)(Y:St)(H:Hp)(Q:List V->Hp->Prop),Inv X pins Y H s->t Y H Q->aI (aM X.prog X.w) X.A (spliced (bS pos (aS es X.env))) (AP X pins Y Q) X.xe s
def PS(X:Cx)(st:cO)(t:TS):Prop :=
 ∀(pins:List (aE×Obj))(s:aH)(Y:St)(H:Hp)(D:Ends),Inv X pins Y H s->t D Y H->aI (aM X.prog X.w) X.A (exec st X.env) (SP X pins D) X.xe s
def PSs(X:Cx)(st:List cO)(t:TS):Prop :=
 ∀(pins:List (aE×Obj))(s:aH)(Y:St)(H:Hp)(D:Ends),Inv X pins Y H s->t D Y H->aI (aM X.prog X.w) X.A (execs st X.env) (SP X pins D) X.xe s
theorem thn{α:Type}{t:Sem α}{Q Q':α->aH->Prop}(h:aI M A t Q E s)(hQ:∀a s,Q a s->Q' a s):aI M A t Q' E s:=cC h hQ λ_ _ x=>x
section
variable {X:Cx}
def tVar(i:Nat):TE:=λY H Q=>∃v,Y[i]?=some (some v)/\Q v H
def tC(v:V):TE:=λ_ H Q=>Q v H
theorem zt81{pos:Pos}(hN:X.N[i]?=some x)(hv:Vis X.env.scope x)(hd:(x == ("__debug__":Str))=false:=by decide)(hcd:(x == ("__classdict__":Str))=false:=by decide):PE X (.Name x pos) (tVar i):=by
 walk_at"2";obtain⟨v,e,h⟩:=h;obtain⟨m,hn,hl⟩:=I.loc;obtain⟨u,r,l⟩:=hl i x v hN e hv;have fin:EP X pins Y Q u s:=⟨v,H,I,r,h⟩
 rcases l with⟨hk,hm⟩|⟨hk,c,hc,hcell⟩
 ·exact h7 (gA I.ok.kind hk hn hm fin) hd
 ·rcases hk with hk|hk
  ·exact h7 (gD I.ok.kind hk hc hcell fin) hd
  ·exact h7 (wpAny_loadName_free I.ok.kind hk hc hcell fin hcd) hd
theorem ze0{i j pos}:PE X (.Constant (.int i) j pos) (tC (.int i)):=λ_ _ _ H _ I h=>wpAny_Constant_int ⟨.int i,H,I.tok _,⟨_,rfl⟩,h⟩
theorem zls{b j pos}:PE X (.Constant (.bool b) j pos) (tC (.bl b)):=λ_ _ _ H _ I h=>Constant_bool ⟨.bl b,H,I,rfl,h⟩
theorem zyg{j pos}:PE X (.Constant .none j pos) (tC .non):=λ_ _ _ H _ I h=>Constant_none ⟨.non,H,I,rfl,h⟩
theorem zz6{x j pos}:PE X (.Constant (.str x) j pos) (tC (.str x)):=λ_ _ _ H _ I h=>Calls.Constant_str ⟨.str x,H,I.tok _,⟨_,rfl⟩,h⟩
def Gl(X:Cx)(x:Str):Prop:=X.env.kindOf x=some .globalImplicit
theorem zyo{E:aC->aH->Prop}{Y:St}{H:Hp}{pos:Pos}{Q:aC->aH->Prop}(I:Inv X pins Y H s)(hg:Gl X x)(hm:X.mg x=some u)(h:Q u s)
  (hd:(x == ("__debug__":Str))=false:=by decide):aI (aM X.prog X.w) X.A (a8 (.Name x pos) X.env) Q E s :=
 Calls.Name_function_global I.ok.kind hg (Calls.loadGlobal_global (by rw[I.ok.glob];exact I.mod.glob.keeps I.bk) hm h) hd
theorem zhj{E:aC->aH->Prop}{Y:St}{H:Hp}{pos:Pos}{Q:aC->aH->Prop}(I:Inv X pins Y H s)(hg:Gl X x)(hm:X.mg x=none)(hv:a9 x=some u)(h:Q u s)
  (hn:x ≠ "__name__":=by decide) (hd:(x == ("__debug__":Str))=false:=by decide):aI (aM X.prog X.w) X.A (a8 (.Name x pos) X.env) Q E s:=by
 obtain⟨mb,h1,h2⟩:=I.mod.blt;exact Calls.Name_function_global I.ok.kind hg (Calls.loadGlobal_builtin (by rw[I.ok.glob];exact I.mod.glob.keeps I.bk) hm (by rw[I.ok.blt];exact h1.keeps I.bk) ((h2 x hn).trans hv) h) hd
theorem zx6{v:V}{pos:Pos}(hg:Gl X x)(hm:X.mg x=some u)(r:RelV v u)(hd:(x == ("__debug__":Str))=false:=by decide):PE X (.Name x pos) (tC v) :=
 λ_ _ _ H _ I h=>zyo I hg hm ⟨v,H,I,r,h⟩ hd
theorem zrd{v:V}{pos:Pos}(hg:Gl X x)(hm:X.mg x=none)(hv:a9 x=some u)(r:RelV v u)(hn:x ≠ "__name__":=by decide)(hd:(x == ("__debug__":Str))=false:=by decide):PE X (.Name x pos) (tC v) :=
 λ_ _ _ H _ I h=>zhj I hg hm hv ⟨v,H,I,r,h⟩ hn hd
variable {a b:aX}{ta tb:TE}{pos:Pos}
variable {tA tB':TT}{rest:List aX}
def tAnd(t u:TT):TT:=λY H Q=>t Y H λc H1=>if c=true then u Y H1 Q else Q false H1
def tOr(t u:TT):TT:=λY H Q=>t Y H λc H1=>if c=true then Q true H1 else u Y H1 Q
def tNot(t:TT):TT:=λY H Q=>t Y H λc H1=>Q (!c) H1
theorem zag(ha:PT X a tA):PW X (.BoolOp .And [a] pos) tA:=by
 walk_at"20";refine isTrue_and (thn (ha pins s Y H Q I h) λc s1 e=>?_);cases c with
|true=>exact isTrue_and_nil e
|false=>exact e
theorem zzg(ha:PT X a tA):PW X (.BoolOp .Or [a] pos) tA:=by
 walk_at"20";refine isTrue_or (thn (ha pins s Y H Q I h) λc s1 e=>?_);cases c with
|false=>exact isTrue_or_nil e
|true=>exact e
theorem zel(ha:PT X a tA)(hb:PW X (.BoolOp .And (b :: rest) pos) tB'):PW X (.BoolOp .And (a :: b :: rest) pos) (tAnd tA tB'):=by
 walk_at"20";refine isTrue_and (thn (ha pins s Y H _ I h) λc s1 hz=>?_);obtain⟨H1,I1,q1⟩:=hz;cases c with
|true=>exact hb wh pins s1 Y H1 Q I1 q1
|false=>exact⟨H1,I1,q1⟩
theorem zhh(ha:PT X a tA)(hb:PW X (.BoolOp .Or (b :: rest) pos) tB'):PW X (.BoolOp .Or (a :: b :: rest) pos) (tOr tA tB'):=by
 walk_at"20";refine isTrue_or (thn (ha pins s Y H _ I h) λc s1 hz=>?_);obtain⟨H1,I1,q1⟩:=hz;cases c with
|true=>exact⟨H1,I1,q1⟩
|false=>exact hb wh pins s1 Y H1 Q I1 q1
theorem zhg(ha:PT X a tA):PT X (.UnaryOp .Not a pos) (tNot tA):=by
 walk_at"2";exact isTrue_not (ha pins s Y H (λc H1=>Q (!c) H1) I h)
def zva1(ta tb:TE):TE:=λY H Q=>ta Y H λx H1=>∃c,x=.bl c/\if c=true then tb Y H1 Q else Q (.bl false) H1
def zxa1(ta:TE):TE:=λY H Q=>ta Y H λx H1=>∃c,x=.bl c/\Q (.bl (!c)) H1
theorem zv01{op}{t:TE}(h:PE X a t):PE X (.BoolOp op [a] pos) t:=λpins s Y H Q I hw=>BoolOp_one (h pins s Y H Q I hw)
theorem zv11(ha:PE X a ta)(hb:PE X (.BoolOp .And (b :: rest) pos) tb):PE X (.BoolOp .And (a :: b :: rest) pos) (zva1 ta tb):=by
 walk_at"2";refine BoolOp_and (thn (ha pins s Y H _ I h) λv s1 hz=>?_);obtain⟨x,H1,I1,r1,q1⟩:=hz;obtain⟨c,rfl,q1⟩:=q1;cases r1;refine cP ?_;cases c with
|true=>exact hb pins s1 Y H1 Q I1 q1
|false=>exact⟨.bl false,H1,I1,rfl,q1⟩
theorem zw71(ha:PE X a ta):PE X (.UnaryOp .Not a pos) (zxa1 ta):=by
 walk_at"2";refine UnaryOp_ (thn (ha pins s Y H _ I h) λv s1 hz=>?_);obtain⟨x,H1,I1,r1,q1⟩:=hz;obtain⟨c,rfl,q1⟩:=q1;cases r1;exact not_of (cP ⟨.bl (!c),H1,I1,rfl,q1⟩)
def tIf(t:TT)(ta tb:TE):TE:=λY H Q=>t Y H λc H1=>if c=true then ta Y H1 Q else tb Y H1 Q
theorem zgi{c:aX}(hc:PT X c tA)(ha:PE X a ta)(hb:PE X b tb):PE X (.IfExp c a b pos) (tIf tA ta tb):=by
 walk_at"2";refine wpAny_IfExp (thn (hc pins s Y H _ I h) λd s1 hz=>?_);obtain⟨H1,I1,q1⟩:=hz;cases d with
|true=>exact ha pins s1 Y H1 Q I1 q1
|false=>exact hb pins s1 Y H1 Q I1 q1
end
def SqL(K:Fg)(H:Hp)(a:aE)(xs:List V):Prop :=
 Rd H a (.lst xs) \/
  ∃(o:Obj)(its:Array aC)(n:Nat),K.lookup a=some o/\o.cls=.type "list"/\o.dict=none/\o.data=.seq its n/\its.size<=sizeLine/\Vals xs its.toList
def SqT(K:Fg)(H:Hp)(a:aE)(xs:List V):Prop :=
 Rd H a (.tup xs) \/
  ∃(o:Obj)(its:Array aC)(n:Nat),K.lookup a=some o/\o.cls=.type "tuple"/\o.data=.seq its n/\its.size<=sizeLine/\Vals xs its.toList
def absV:aC->Option V
|.none=>some .non
|.bool b=>some (.bl b)
|.int i _=>some (.int i)
|.str x _=>some (.str x)
|.bytes b _=>some (.byt b)
|.float b _=>some (.flt b)
|.ref a=>some (.ref a)
|.type n=>some (.ty n)
|_=>none
theorem RelV.abs{x:V}(r:RelV x u):absV u=some x:=by
 cases x with
|non=>cases r;rfl
|bl _=>cases r;rfl
|int _=>obtain⟨t,rfl⟩:=r;rfl
|str _=>obtain⟨t,rfl⟩:=r;rfl
|byt _=>obtain⟨t,rfl⟩:=r;rfl
|flt _=>obtain⟨t,rfl⟩:=r;rfl
|ref _=>cases r;rfl
|ty _=>cases r;rfl
theorem RelV.inj{x y:V}{u:aC}(r:RelV x u)(q:RelV y u):x=y:=wV.inj (r.abs.symm.trans q.abs)
theorem Vals.inj:∀{xs ys:List V}{us:List aC},Vals xs us->Vals ys us->xs=ys
|_,_,_,.nil,.nil=>rfl
|_,_,_,.cons r t,.cons r' t'=>by rw[r.inj r',Vals.inj t t']
section
variable {X:Cx}{pins:List (aE×Obj)}{Y:St}{H:Hp}{s:aH}{a:aE}{xs ys:List V}
theorem SqL.of(h:H a=some (.lst xs)):SqL K H a xs:=.inl (.inl h)
theorem SqT.of(h:H a=some (.tup xs)):SqT K H a xs:=.inl (.inl h)
theorem Inv.list(I:Inv X pins Y H s)(h:SqL X.K H a xs):∃its:List aC,Vals xs its/\PlainL s.heap a its.toArray/\xs.length<=sizeLine:=by
 rcases h with h|⟨o,its,n,hk,hc,hd,hs,hz,r⟩
 ·obtain⟨z,its,n,r,e⟩:=h.ok I.hok;exact⟨its,r,⟨_,n,e,rfl,rfl,rfl⟩,z⟩
 ·refine⟨its.toList,r,⟨o,n,I.kIn a o hk,hc,hd,by simpa using hs⟩,?_⟩;have e:=r.length;simp only[yI]at e;lia
theorem Inv.tuple(I:Inv X pins Y H s)(h:SqT X.K H a xs):∃its:List aC,Vals xs its/\iV s.heap a its.toArray/\xs.length<=sizeLine:=by
 rcases h with h|⟨o,its,n,hk,hc,hs,hz,r⟩
 ·obtain⟨z,its,r,p⟩:=h.ok I.hok;exact⟨its,r,p,z⟩
 ·refine⟨its.toList,r,⟨o,I.kIn a o hk,hc,n,by simpa using hs⟩,?_⟩;have e:=r.length;simp only[yI]at e;lia
theorem Inv.list_inj(I:Inv X pins Y H s)(h:SqL X.K H a xs)(h':SqL X.K H a ys):xs=ys:=by
 obtain⟨its,r,⟨o,n,e,_,_,d⟩,_⟩:=I.list h;obtain⟨its',r',⟨o',n',e',_,_,d'⟩,_⟩:=I.list h';rw[e]at e';cases e';rw[d]at d';injection d' with d1 _;have:its=its':=by simpa using congrArg z8 d1
 subst this;exact r.inj r'
theorem Inv.tuple_inj(I:Inv X pins Y H s)(h:SqT X.K H a xs)(h':SqT X.K H a ys):xs=ys:=by
 obtain⟨its,r,⟨o,e,_,n,d⟩,_⟩:=I.tuple h;obtain⟨its',r',⟨o',e',_,n',d'⟩,_⟩:=I.tuple h';rw[e]at e';cases e';rw[d]at d';injection d' with d1 _;have:its=its':=by simpa using congrArg z8 d1
 subst this;exact r.inj r'
end
abbrev Cx.wish(X:Cx)(E:aC->aH->Prop):Cx:={ X with xe:=E }
abbrev Cx.nox(X:Cx):Cx:=X.wish λ_ _=>False
theorem Cx.Ok.wish{X:Cx}(ok:X.Ok)(E:aC->aH->Prop):(X.wish E).Ok :=
 ⟨ok.mod,ok.kind,ok.glob,ok.blt,ok.above,ok.inj,ok.has,ok.cab,ok.hd,ok.frames,ok.stk,ok.exf,ok.bs,ok.bsz,ok.noex,ok.exfs,ok.funs,ok.frf⟩
theorem Cx.Ok.unwish{X:Cx}(ok:(X.wish E).Ok):X.Ok :=
 ⟨ok.mod,ok.kind,ok.glob,ok.blt,ok.above,ok.inj,ok.has,ok.cab,ok.hd,ok.frames,ok.stk,ok.exf,ok.bs,ok.bsz,ok.noex,ok.exfs,ok.funs,ok.frf⟩
section
variable {X:Cx}{pins:List (aE×Obj)}{Y:St}{H:Hp}{s:aH}{E:aC->aH->Prop}
theorem Inv.wish(I:Inv X pins Y H s)(E:aC->aH->Prop):Inv (X.wish E) pins Y H s:=⟨I.ok.wish E,I.os,I.bare,I.base,I.loc,I.cell,I.free,I.freeC,I.pin,I.hok,I.len⟩
theorem Inv.unwish(I:Inv (X.wish E) pins Y H s):Inv X pins Y H s:=⟨I.ok.unwish,I.os,I.bare,I.base,I.loc,I.cell,I.free,I.freeC,I.pin,I.hok,I.len⟩
theorem SP.unwish{D:Ends}{f:Flow}{s':aH}(h:SP (X.wish E) pins D f s'):SP X pins D f s':=by
 cases f with
|next=>obtain⟨Y',H',I,q⟩:=h;exact⟨Y',H',I.unwish,q⟩
|brk=>obtain⟨Y',H',I,q⟩:=h;exact⟨Y',H',I.unwish,q⟩
|cont=>obtain⟨Y',H',I,q⟩:=h;exact⟨Y',H',I.unwish,q⟩
|ret u=>obtain⟨v,Y',H',I,r,q⟩:=h;exact⟨v,Y',H',I.unwish,r,q⟩
theorem PSs.nox{st:List cO}{t:TS}(h:PSs X.nox st t):PSs X st t:=λpins s Y H D I hw =>
 cC (h pins s Y H D (I.wish _) hw) (λ_ _ q=>q.unwish) λ_ _ z=>False.elim z
end
section
variable {X:Cx}{st:cO}{rest:List cO}{t u:TS}{e:aX}{te:TE}{pos:Pos}
def zja1:TS:=λD Y H=>D.nx Y H
def tSeq(t u:TS):TS:=λD Y H=>t { D with nx:=u D } Y H
theorem zg1:PSs X [] zja1:=λ_ _ Y H _ I h=>d7 ⟨Y,H,I,h⟩
theorem zd0(h1:PS X st t)(h2:PSs X rest u):PSs X (st :: rest) (tSeq t u):=by
 walk_at"8";refine g6 (thn (h1 pins s Y H { D with nx:=u D } I h) λf s1 q=>?_);cases f with
|next =>
  obtain⟨Y',H',I',q⟩:=q;exact h2 pins s1 Y' H' D I' q
|ret v=>exact q
|brk=>exact q
|cont=>exact q
theorem zj0(h1:PS X st t):PSs X [st] t:=by
 walk_at"8";refine g6 (thn (h1 pins s Y H D I h) λf s1 q=>?_);cases f with
|next=>exact d7 q
|ret v=>exact q
|brk=>exact q
|cont=>exact q
def zp91:TS:=λD Y H=>D.ct Y H
theorem zee:PS X (.Continue pos) zp91:=λ_ _ Y H _ I h=>wpAny_Continue ⟨Y,H,I,h⟩
theorem Inv.quiet{Y:St}{H:Hp}(I:Inv X pins Y H s):interactive X.env=false:=by simp[interactive,I.ok.kind]
def zib1(te:TE):TS:=λD Y H=>te Y H λ_ H1=>D.nx Y H1
theorem zf2(he:PE X e te)(hs:fM e none pos.line X.env=pure false:=by rfl):PS X (.Expr e pos) (zib1 te):=by
 walk_at"8";exact wpAny_Expr_any (thn (he pins s Y H _ I h) λv s1 ⟨x,H1,I1,r1,q1⟩=>⟨Y,H1,I1,q1⟩) I.quiet hs
def tRet(te:TE):TS:=λD Y H=>te Y H D.rt
theorem zh1(he:PE X e te):PS X (.Return (some e) pos) (tRet te):=by
 walk_at"8";exact wpAny_Return_some (thn (he pins s Y H _ I h) λv s1 ⟨x,H1,I1,r1,q1⟩=>⟨x,Y,H1,I1,r1,q1⟩)
def tIfS(c:TT)(t u:TS):TS:=λD Y H=>c Y H λb H1=>if b=true then t D Y H1 else u D Y H1
theorem zn5{c:aX}{a b:List cO}{tc:TT}(hc:PT X c tc)(ha:PSs X a t)(hb:PSs X b u):PS X (.If c a b pos) (tIfS tc t u):=by
 walk_at"8";refine wpAny_If (thn (hc pins s Y H _ I h) λd s1 hz=>?_);obtain⟨H1,I1,q1⟩:=hz;cases d with
|true=>exact ha pins s1 Y H1 D I1 q1
|false=>exact hb pins s1 Y H1 D I1 q1
end
abbrev TG:=V->St->Hp->(St->Hp->Prop)->Prop
abbrev TGs:=List V->St->Hp->(St->Hp->Prop)->Prop
def PG(X:Cx)(target:aX)(t:TG):Prop :=
 ∀(pins:List (aE×Obj))(s:aH)(Y:St)(H:Hp)(v:V)(u:aC)(Q:St->Hp->Prop),Inv X pins Y H s->RelV v u->t v Y H Q ->
  aI (aM X.prog X.w) X.A (eS target X.env u) (λ_ s'=>∃Y' H',Inv X pins Y' H' s'/\Q Y' H') X.xe s
def PGs(X:Cx)(ts:List aX)(t:TGs):Prop :=
 ∀(pins:List (aE×Obj))(s:aH)(Y:St)(H:Hp)(vs:List V)(us:List aC)(Q:St->Hp->Prop),Inv X pins Y H s->Vals vs us->t vs Y H Q ->
  aI (aM X.prog X.w) X.A (assignInOrder ((cS ts X.env).map (·.2)) us) (λ_ s'=>∃Y' H',Inv X pins Y' H' s'/\Q Y' H') X.xe s
abbrev TSet:=V->V->V->Hp->(Hp->Prop)->Prop
def PSet(X:Cx)(t:TSet):Prop :=
 ∀(pins:List (aE×Obj))(s:aH)(Y:St)(H:Hp)(o i v:V)(ov iv u:aC)(Q:Hp->Prop),Inv X pins Y H s->RelV o ov->RelV i iv->RelV v u->t o i v H Q ->
  aI (aM X.prog X.w) X.A (iJ ov iv u) (λ_ s'=>∃H',Inv X pins Y H' s'/\Q H') X.xe s
abbrev TIp:=V->V->Hp->VK->Prop
def PIp(X:Cx)(op:Operator)(t:TIp):Prop :=
 ∀(pins:List (aE×Obj))(s:aH)(Y:St)(H:Hp)(x y:V)(v u:aC)(Q:VK),Inv X pins Y H s->RelV x v->RelV y u->t x y H Q ->
  aI (aM X.prog X.w) X.A (inplaceOp op v u) (EP X pins Y Q) X.xe s
section
variable {X:Cx}{pos:Pos}
def zir(i:Nat):TG:=λv Y H Q=>Q (Y.set i (some v)) H
theorem zh11(hN:X.N.Nodup)(hi:X.N[i]?=some x)(hx:Loc X.env.scope x)(hf:X.fn x=true \/ X.env.scope.names.lookup x=some .local:=by walk_at"vi"):PG X (.Name x pos) (zir i):=by
 walk_at"31";exact gR (zqi I hN hi hx r (λs' I'=>⟨_,H,I',h⟩) hf)
def gNil:TGs:=λvs Y H Q=>vs=[]/\Q Y H
def zbb1(t:TG)(u:TGs):TGs:=λvs Y H Q=>∃v r,vs=v :: r/\t v Y H λY' H'=>u r Y' H' Q
theorem zn8:PGs X [] gNil:=by
 walk_at"29";obtain⟨e,h⟩:=h;subst e;cases r;exact assignInOrder_nil ⟨Y,H,I,h⟩
theorem zs1{e:aX}{t:TG}{u:TGs}(h1:PG X e t)(h2:PGs X es u)
  (hs:(cS (e :: es) X.env).map (·.2)=eS e X.env :: (cS es X.env).map (·.2):=by rfl):PGs X (e :: es) (zbb1 t u):=by
 walk_at"29";obtain⟨v,vr,e1,h⟩:=h;subst e1;cases r with
|cons r rr =>
  rw[hs];refine assignInOrder_cons (thn (h1 pins s Y H _ _ _ I r h) λ_ s1 hz=>?_);obtain⟨Y1,H1,I1,q1⟩:=hz;exact h2 pins s1 Y1 H1 _ _ Q I1 rr q1
def gTup(K:Fg)(n:Nat)(t:TGs):TG:=λv Y H Q=>∃a xs,v=.ref a/\SqT K H a xs/\xs.length=n/\t xs Y H Q
theorem zb81{k:Nat}{t:TGs}(hc:X.calm=true)(h:PGs X es t)
  (hn:(cS es X.env).length=n:=by rfl) (hst:(cS es X.env).findIdx? (·.1)=none:=by rfl):PG X (.Tuple es k pos) (gTup X.K n t):=by
 intro pins s Y H v u Q I r hw;obtain⟨a,xs,e1,hq,hl,hw⟩:=hw;subst e1;cases r;obtain⟨its,rv,ht,hz⟩:=I.tuple hq;refine assign_Tuple_tuple (I.ok.hd hc) ht (by simp[hn,<- hl,rv.length]) hst λh' hx=>?_;have I1:Inv X pins Y H { s with heap:=h' }:=I.kept (t':=s.toks) λb o e=>hx b o (wJ (vY e)) e;exact h pins _ Y H xs _ Q I1 (by simpa using rv) hw
def gSub(to ti:TE)(t:TSet):TG:=λv Y H Q=>to Y H λo H1=>ti Y H1 λi H2=>t o i v H2 λH3=>Q Y H3
theorem zsu{o i:aX}{to ti:TE}{t:TSet}(ho:PE X o to)(hi:PE X i ti)(hs:PSet X t)
  (ha:∀v,eS (.Subscript o i pos) X.env v=(do
   let ov <- cX [v] (a8 o X.env)
   let iv <- cX [v,ov] (a8 i X.env)
   eD pos
   cX [v,ov,iv] (iJ ov iv v)
   release [v,ov,iv] []):=by intro _;rfl):PG X (.Subscript o i pos) (gSub to ti t):=by
 walk_at"31";rw[ha];refine aG (cK (thn (ho pins s Y H _ I h) λov s1 hz=>?_));obtain⟨x,H1,I1,r1,q1⟩:=hz;refine aG (cK (thn (hi pins s1 Y H1 _ I1 q1) λiv s2 hz=>?_));obtain⟨y,H2,I2,r2,q2⟩:=hz;refine aG (gB (aG (cK (thn (hs pins s2 Y H2 x y v ov iv u _ I2 r1 r2 r q2) λ_ s3 hz=>?_))));obtain⟨H3,I3,q3⟩:=hz;exact wpAny_release ⟨Y,H3,I3,q3⟩
def tAsg(te:TE)(g:TG):TS:=λD Y H=>te Y H λx H1=>g x Y H1 D.nx
theorem zax{e:aX}{te:TE}{g:TG}(he:PE X e te)(hg:PG X tg g)(hs:swapsWithSole [tg] e pos.line X.env=pure false:=by rfl)(hw:swappedStores [tg] e X.env=pure none:=by rfl)
  (h1:(cS [tg] X.env).map (·.2)=[eS tg X.env]:=by rfl):PS X (.Assign [tg] e pos) (tAsg te g):=by
 walk_at"8";refine wpAny_Assign_stores (thn (he pins s Y H _ I h) λv s1 hz=>?_) hs hw;obtain⟨x,H1,I1,r1,q1⟩:=hz;rw[h1];exact thn (hg pins s1 Y H1 x v _ I1 r1 q1) λ_ s2 q=>q
theorem zo71{e:aX}{te:TE}(hN:X.N.Nodup)(hi:X.N[i]?=some x)(hx:Loc X.env.scope x)(he:PE X e te)(hs:fM e (some (.Name x pos')) pos.line X.env=pure false:=by rfl)(hf:X.fn x=true \/ X.env.scope.names.lookup x=some .local:=by walk_at"vi") :
  PS X (.Assign [.Name x pos'] e pos) (tAsg te (zir i)):=by
 walk_at"8";refine wpAny_Assign_Name (thn (he pins s Y H _ I h) λv s1 hz=>?_) hs;obtain⟨y,H1,I1,r1,q1⟩:=hz;exact zqi I1 hN hi hx r1 (λs2 I2=>⟨_,H1,I2,q1⟩) hf
def tAug(i:Nat)(te:TE)(ti:TIp):TS:=λD Y H=>∃x,Y[i]?=some (some x)/\te Y H λy H1=>ti x y H1 λz H2=>D.nx (Y.set i (some z)) H2
theorem zrk{e:aX}{te:TE}{ti:TIp}{pos':Pos}(hN:X.N.Nodup)(hi:X.N[i]?=some x)(hx:Loc X.env.scope x)(he:PE X e te)(ho:PIp X op ti)(hf:X.fn x=true \/ X.env.scope.names.lookup x=some .local:=by walk_at"vi") :
  PS X (.AugAssign (.Name x pos') op e pos) (tAug i te ti):=by
 walk_at"8";obtain⟨v,e1,h⟩:=h;obtain⟨m,hn,hl⟩:=I.loc;have vis:Vis X.env.scope x:=by rcases hx with k|k;exact .inl k;exact .inr (.inl k)
 obtain⟨u,r,l⟩:=hl i x v hi e1 vis;refine wpAny_AugAssign_Name ?_;have go:aI (aM X.prog X.w) X.A (a8 e X.env) (λw s₂=>aI (aM X.prog X.w) X.A (inplaceOp op u w) (λr s₃=>aI (aM X.prog X.w) X.A (iR X.env x r) (λ_=>SP X pins D .next) X.xe s₃) X.xe s₂) X.xe s:=by
  refine thn (he pins s Y H _ I h) λw s1 hz=>?_;obtain⟨y,H1,I1,r1,q1⟩:=hz;refine thn (ho pins s1 Y H1 v y u w _ I1 r r1 q1) λz s2 hz=>?_;obtain⟨zv,H2,I2,r2,q2⟩:=hz;exact zqi I2 hN hi hx r2 (λs3 I3=>⟨_,H2,I3,q2⟩) hf
 rcases l with⟨hk,hm⟩|⟨hk,c,hc,hcell⟩
 ·exact gA I.ok.kind hk hn hm go
 ·rcases hk with hk|hk
  ·exact gD I.ok.kind hk hc hcell go
  ·rcases hx with k|k
   ·have:X.env.scope.names.lookup x=some .free:=hk;rw[k]at this;cases this
   ·have:X.env.scope.names.lookup x=some .free:=hk;rw[k]at this;cases this
def zfb1(to ti te:TE)(tget:V->V->Hp->VK->Prop)(tip:TIp)(tset:TSet):TS:=λD Y H=>to Y H λo H1=>ti Y H1 λi H2=>tget o i H2 λx H3=>te Y H3 λy H4=>tip x y H4 λz H5=>tset o i z H5 λH6=>D.nx Y H6
def PGet(X:Cx)(t:V->V->Hp->VK->Prop):Prop :=
 ∀(pins:List (aE×Obj))(s:aH)(Y:St)(H:Hp)(o i:V)(ov iv:aC)(Q:VK),Inv X pins Y H s->RelV o ov->RelV i iv->t o i H Q ->
  aI (aM X.prog X.w) X.A (eI ov iv) (EP X pins Y Q) X.xe s
theorem zqa{o i e:aX}{to ti te:TE}{tget:V->V->Hp->VK->Prop}{tip:TIp}{tset:TSet}{tpos:Pos}(ho:PE X o to)(hi:PE X i ti)(hg:PGet X tget)(he:PE X e te)(hp:PIp X op tip)(hs:PSet X tset)
  (ha:∀ov iv new,augStore i ov iv new=(do cX [new,ov,iv] (iJ ov iv new);release [new,ov,iv] [];pure .next):=by intros;rfl):PS X (.AugAssign (.Subscript o i tpos) op e pos) (zfb1 to ti te tget tip tset):=by
 walk_at"8";refine wpAny_AugAssign_SubscriptAny (thn (ho pins s Y H _ I h) λov s1 hz=>?_) ha;obtain⟨x1,H1,I1,r1,q1⟩:=hz;refine thn (hi pins s1 Y H1 _ I1 q1) λiv s2 hz=>?_;obtain⟨x2,H2,I2,r2,q2⟩:=hz;refine thn (hg pins s2 Y H2 x1 x2 ov iv _ I2 r1 r2 q2) λold s3 hz=>?_;obtain⟨x3,H3,I3,r3,q3⟩:=hz;refine thn (he pins s3 Y H3 _ I3 q3) λv s4 hz=>?_;obtain⟨x4,H4,I4,r4,q4⟩:=hz;refine thn (hp pins s4 Y H4 x3 x4 old v _ I4 r3 r4 q4) λnew s5 hz=>?_;obtain⟨x5,H5,I5,r5,q5⟩:=hz;exact thn (hs pins s5 Y H5 x1 x2 x5 ov iv new _ I5 r1 r2 r5 q5) λ_ s6 ⟨H6,I6,q6⟩=>⟨Y,H6,I6,q6⟩
def ipI(f:Int->Int->Int):TIp:=λx y H Q=>∃i j,x=.int i/\y=.int j/\Q (.int (f i j)) H
theorem zyf:PIp X .Add (ipI λi j=>i+j):=by
 walk_at"27";obtain⟨i,j,e1,e2,q⟩:=h;subst e1;subst e2;obtain⟨t,rfl⟩:=r1;obtain⟨t',rfl⟩:=r2;exact iadd_int ⟨.int _,H,I.tok _,⟨_,rfl⟩,q⟩
theorem zyk:PIp X .Sub (ipI λi j=>i - j):=by
 walk_at"27";obtain⟨i,j,e1,e2,q⟩:=h;subst e1;subst e2;obtain⟨t,rfl⟩:=r1;obtain⟨t',rfl⟩:=r2;exact isub_int ⟨.int _,H,I.tok _,⟨_,rfl⟩,q⟩
def zt11(c:TT)(tb:TS):TS:=λD Y H=>∃W:Nat->St->Hp->Prop,(∃m,W m Y H)/\∀m Y H,W m Y H ->
 c Y H λb H1=>if b=true then ∃N:St->Hp->Prop,(∀Y' H',N Y' H'->∃m',m' < m/\W m' Y' H')/\tb { D with nx:=N,ct:=N,bk:=D.nx } Y H1 else D.nx Y H1
theorem zma{c:aX}{tc:TT}{tb:TS}(hp:PassesOwn (aM X.prog X.w) X.A X.env X.xe)(hc:PT X c tc)(hb:PSs X body tb):PS X (.While c body [] pos) (zt11 tc tb):=by
 walk_at"8";obtain⟨W,⟨m0,w0⟩,turn⟩:=h;refine wpAny_While (codeAny_whileLoop (λn s'=>∃Y' H',Inv X pins Y' H' s'/\W n Y' H') ?_ m0 ⟨Y,H,I,w0⟩);rintro n s1 ⟨Y1,H1,I1,w1⟩;refine b9 hp (thn (hc pins s1 Y1 H1 _ I1 (turn n Y1 H1 w1)) λb s2 hz=>?_);obtain⟨H2,I2,q2⟩:=hz;cases b with
|true =>
  obtain⟨N,hN,q2⟩:=q2;rw[aF rfl];refine b9 hp (thn (hb pins s2 Y1 H2 _ I2 q2) λf s3 q3=>?_);cases f with
 |next =>
   obtain⟨Y3,H3,I3,n3⟩:=q3;obtain⟨m',hm,w3⟩:=hN Y3 H3 n3;exact⟨m',hm,Y3,H3,I3,w3⟩
 |cont =>
   obtain⟨Y3,H3,I3,n3⟩:=q3;obtain⟨m',hm,w3⟩:=hN Y3 H3 n3;exact⟨m',hm,Y3,H3,I3,w3⟩
 |brk=>exact q3
 |ret v=>exact q3
|false =>
  rw[aA v5];exact d7 ⟨Y1,H2,I2,q2⟩
end
structure It where
 go:Nat->Hp->Prop
 yld:Nat->Hp->V->Hp->Prop
 stop:Nat->Hp->Prop
def FpOk(X:Cx)(pins:List (aE×Obj))(H:Hp)(b:aE):Prop :=
 H b=none/\b≠X.env.locals/\b ∉ X.fs/\(b∈X.ex \/ X.s₀.heap.objs.size<=b)/\(∀x c,X.env.cells.lookup x=some c->c≠b)/\∀p∈X.pn++pins,p.1≠b
theorem Inv.fpOk{X:Cx}{Y:St}{H H':Hp}(I:Inv X pins Y H s)(hb:s.heap.objs.size<=b)(hn:H' b=none):FpOk X pins H' b:=by
 refine⟨hn,y9 (wW I.lt hb),I.nofs hb,.inr (wZ I.sz hb),λx c e z=>?_,λp hp z=>?_⟩
 ·obtain⟨v,q⟩:=I.cell x c e;exact aJ (wW q.lt (by rw[z];exact hb)) (w9 _)
 ·exact aJ (wW (vY (I.pin p hp).1) (by rw[z];exact hb)) (w9 _)
structure Turn(P:aN)(w:aQ)(K:Fg)(tg:aX)(J:It)(fp:List aE)(it:aE)(tn:Nat->aT->Prop):Prop where
 mem:it∈fp
 obj:∀i h,tn i h->∀b∈fp,∃o,h.get? b=some o/\∀v,o.data≠.cell v
 keep:∀i h h',tn i h->(∀b∈fp,∀o,h.get? b=some o->h'.get? b=some o)->tn i h'
 item:∀(X:Cx),X.prog=P->X.w=w->X.K=K->X.calm=true->∀(i:Nat)(pins:List (aE×Obj))(s:aH)(Y:St)(H:Hp)(E:aC->aH->Prop),Inv X pins Y H s->(∀b∈fp,FpOk X pins H b)->tn i s.heap->J.go i H ->
  aI (aM P w) X.A (fT (.ref it)) (λr s1=>∃u,r=some u /\
   aI (aM P w) X.A (d8 tg (.ref it) u) (λ_ s2=>∃x H',Inv X pins Y H' s2/\RelV x u/\J.yld i H x H'/\tn (i+1) s2.heap/\∀b∈fp,H' b=none) E s1) E s
 done:∀(X:Cx),X.prog=P->X.w=w->X.K=K->X.calm=true->∀(i:Nat)(pins:List (aE×Obj))(s:aH)(Y:St)(H:Hp)(E:aC->aH->Prop),Inv X pins Y H s->(∀b∈fp,FpOk X pins H b)->tn i s.heap->J.stop i H ->
  aI (aM P w) X.A (fT (.ref it)) (λr s1=>r=none/\Inv X pins Y H s1) E s
 self:∀(A:bB)(i:Nat)(s:aH)(Q:aC->aH->Prop)(E:aC->aH->Prop),tn i s.heap->Q (.ref it) s->aI (aM P w) A (gE (.ref it)) Q E s
abbrev TI:=St->Hp->(It->Hp->Prop)->Prop
def PIE(X:Cx)(pins:List (aE×Obj))(Y:St)(tg:aX)(R:It->Hp->Prop)(itv:aC)(s2:aH):Prop :=
 ∃(it:aE)(fp:List aE)(tn:Nat->aT->Prop)(J:It)(H':Hp),itv=.ref it/\Inv X pins Y H' s2/\Turn X.prog X.w X.K tg J fp it tn/\tn 0 s2.heap/\(∀b∈fp,FpOk X pins H' b)/\R J H'
def PI(X:Cx)(tg iter:aX)(wi:TI):Prop :=
 ∀(pins:List (aE×Obj))(s:aH)(Y:St)(H:Hp)(R:It->Hp->Prop),Inv X pins Y H s->wi Y H R ->
  aI (aM X.prog X.w) X.A (a8 iter X.env) (λv s1=>aI (aM X.prog X.w) X.A (gE v) (PIE X pins Y tg R) X.xe s1) X.xe s
theorem zm51{E : aC → aH → Prop}{n : String}{vs : Array aC}{Q : Unit → aH → Prop}(ho : s.heap.get? it = some o)(hc : o.cls = .type n)(hd : o.data = .fields vs)
    (hn : ["enumerate", "zip", "dict_itemiterator", "dict_reverseitemiterator", "odict_iterator", "itertools.zip_longest", "itertools.pairwise"].contains n = false) (hQ : Q () s) : aI M A (d8 tg (.ref it) u) Q E s := by
  unfold d8;cases tg <;> first
    | exact aK hQ
    | (cases u <;> first
        | exact aK hQ
        | (refine aG (wpAny_load ho ?_)
           rw[hc, hd];show aI M A (if(["enumerate", "zip", "dict_itemiterator", "dict_reverseitemiterator", "odict_iterator", "itertools.zip_longest", "itertools.pairwise"].contains n && vs[0]? == some (hU _)) = true then _ else _) Q E s;rw[aA (by intro h; rw[hn, Bool.false_and]at h; cases h)];exact aK hQ))
def Itl(K:Fg)(a:aE):It :=
 ⟨λi H=>∃xs x,SqL K H a xs/\xs[i]?=some x,λi H x H'=>H'=H/\∀xs,SqL K H a xs->xs[i]?=some x,λi H=>∃xs,SqL K H a xs/\xs.length<=i⟩
def Itt(K:Fg)(a:aE):It :=
 ⟨λi H=>∃xs x,SqT K H a xs/\xs[i]?=some x,λi H x H'=>H'=H/\∀xs,SqT K H a xs->xs[i]?=some x,λi H=>∃xs,SqT K H a xs/\xs.length<=i⟩
def Itr(lo:Int)(n:Nat):It:=⟨λi _=>i < n,λi H x H'=>H'=H/\x=.int (lo+i),λi _=>n<=i⟩
theorem zsr{P:aN}(a it:aE):Turn P w K tg (Itl K a) [it] it (λi h=>h.IsListIter it a i) where
 mem:=by simp
 obj:=λi h st b hb=>by
  have e:b=it:=by simpa using hb
  subst e;obtain⟨o,e,c,d⟩:=st;exact⟨o,e,λv z=>by rw[d]at z;cases z⟩
 keep:=λi h h' st k=>st.at λo e=>k it (by simp) o e
 item:=by
  walk_at"6";subst hP hw hK;obtain⟨xs,x,hq,hx⟩:=hg;obtain⟨its,rv,p,hz⟩:=I.list hq;obtain⟨u,hu,ru⟩:=rv.get hx;obtain⟨f0,f1,f2,f3,f4,f5⟩:=hf it (by simp);refine fR st p.isList (x:=u) (by simpa using hu) λh' st' sb=>?_;have I1:Inv X pins Y H { s with heap:=h' }:=I.turned (t':=s.toks) (λb o hb e=>(sb.2 b hb).trans e) f0 f1 f3 f4 f5;obtain⟨o,e,c,d⟩:=id st';exact⟨u,rfl,zm51 (s:={ s with heap:=h' }) e c d (by decide) ⟨x,H,I1,ru,⟨rfl,λys hy=>by rw[I.list_inj hy hq];exact hx⟩,st',λb hb=>(hf b hb).1⟩⟩
 done:=by
  walk_at"6";subst hP hw hK;obtain⟨xs,hq,hx⟩:=hg;obtain⟨its,rv,p,hz⟩:=I.list hq;obtain⟨f0,f1,f2,f3,f4,f5⟩:=hf it (by simp);have hl:=rv.length;exact fW (I.ok.hd hc) st p.isList (by simp;lia) λh' eb=>⟨rfl,I.turned (t':=s.toks) (λb o hb e=>eb b o hb e) f0 f1 f3 f4 f5⟩
 self:=λ_ _ _ _ _ st h=>wpAny_pyIter_listiter st h
theorem zsn{P:aN}(a it:aE):Turn P w K tg (Itt K a) [it] it (λi h=>h.IsTupleIter it a i) where
 mem:=by simp
 obj:=λi h st b hb=>by
  have e:b=it:=by simpa using hb
  subst e;obtain⟨o,e,c,d⟩:=st;exact⟨o,e,λv z=>by rw[d]at z;cases z⟩
 keep:=λi h h' st k=>st.at λo e=>k it (by simp) o e
 item:=by
  walk_at"6";subst hP hw hK;obtain⟨xs,x,hq,hx⟩:=hg;obtain⟨its,rv,p,hz⟩:=I.tuple hq;obtain⟨u,hu,ru⟩:=rv.get hx;obtain⟨f0,f1,f2,f3,f4,f5⟩:=hf it (by simp);refine wpAny_pyNext_tuple_item st (show s.heap.IsTuple a its.toArray from p) (x:=u) (by simpa using hu) λh' st' sb=>?_;have I1:Inv X pins Y H { s with heap:=h' }:=I.turned (t':=s.toks) (λb o hb e=>(sb.2 b hb).trans e) f0 f1 f3 f4 f5;obtain⟨o,e,c,d⟩:=id st';exact⟨u,rfl,zm51 (s:={ s with heap:=h' }) e c d (by decide) ⟨x,H,I1,ru,⟨rfl,λys hy=>by rw[I.tuple_inj hy hq];exact hx⟩,st',λb hb=>(hf b hb).1⟩⟩
 done:=by
  walk_at"6";subst hP hw hK;obtain⟨xs,hq,hx⟩:=hg;obtain⟨its,rv,p,hz⟩:=I.tuple hq;obtain⟨f0,f1,f2,f3,f4,f5⟩:=hf it (by simp);have hl:=rv.length;exact wpAny_pyNext_tuple_end (I.ok.hd hc) st (show s.heap.IsTuple a its.toArray from p) (by simp;lia) λh' eb=>⟨rfl,I.turned (t':=s.toks) (λb o hb e=>eb b o hb e) f0 f1 f3 f4 f5⟩
 self:=λ_ _ _ _ _ st h=>wpAny_pyIter_tupleiter st h
theorem zzo{P:aN}(it:aE)(lo:Int)(n:Nat):Turn P w K tg (Itr lo n) [it] it (λi h=>IsRangeIter h it (lo+(i:Nat) * 1) ((n:Int) - (i:Nat)) 1) where
 mem:=by simp
 obj:=λi h st b hb=>by
  have e:b=it:=by simpa using hb
  subst e;exact⟨_,st,λv z=>by
   have z':Data.fields _=Data.cell v:=z;cases z'⟩
 keep:=λi h h' st k=>k it (by simp) _ st
 item:=by
  walk_at"6";subst hP hw hK;obtain⟨f0,f1,f2,f3,f4,f5⟩:=hf it (by simp);have W:=Walks.range (prog:=X.prog) (w:=X.w) (I.ok.hd hc) it lo 1 n;refine W.item i s _ _ hg st λv h' tk hv st' kk=>?_;obtain⟨t,rfl⟩:=hv;have I1:Inv X pins Y H { s with heap:=h',toks:=tk }:=I.turned (λb o hb e=>kk b o (by simpa using hb) e) f0 f1 f3 f4 f5;refine⟨_,rfl,zm51 (s:={ s with heap:=h',toks:=tk }) (n := "range_iterator") st' rfl rfl (by decide) ⟨.int (lo+i),H,I1,⟨t,?_⟩,⟨rfl,rfl⟩,st',λb hb=>(hf b hb).1⟩⟩;rw[Int.mul_one]
 done:=by
  walk_at"6";subst hP hw hK;obtain⟨f0,f1,f2,f3,f4,f5⟩:=hf it (by simp);exact wpAny_pyNext_range_end (I.ok.hd hc) st (by have:n<=i:=hg;lia) λh' eb=>⟨rfl,I.turned (t':=s.toks) (λb o hb e=>eb b o hb e) f0 f1 f3 f4 f5⟩
 self:=λ_ _ _ _ _ st h=>wpAny_pyIter_rangeiter st h
section
variable {X:Cx}{tg:aX}
theorem zhm{Y:St}{H:Hp}{R:It->Hp->Prop}{lo hi:Int}{t u v:Tok}{tk:Nat}(I:Inv X pins Y H s)(h1:-(2 ^ 62)<=lo)(h2:lo < 2 ^ 62)(h3:-(2 ^ 62)<=hi)(h4:hi < 2 ^ 62)
  (q:R (Itr lo (hi - lo).toNat) H):aI (aM X.prog X.w) X.A (gE (.ref s.heap.objs.size)) (PIE X pins Y tg R) E { s with heap:=s.heap.push { cls:=.type "range",data:=.fields #[.int lo t,.int hi u,.int 1 v] },toks:=tk }:=by
 refine wpAny_pyIter_range (IsRange.new ..) (small_one h1 h2 h3 h4) ?_;have I1:Inv X pins Y H { s with heap:=s.heap.push { cls:=.type "range",data:=.fields #[.int lo t,.int hi u,.int 1 v] },toks:=tk }:=I.kept λb o e=>vT _ e;refine⟨(s.heap.push { cls:=.type "range",data:=.fields #[.int lo t,.int hi u,.int 1 v] }).objs.size,[(s.heap.push { cls:=.type "range",data:=.fields #[.int lo t,.int hi u,.int 1 v] }).objs.size],_,_,H,rfl,
  I1.kept (t':=tk) λb o e=>vT _ e,zzo _ lo (hi - lo).toNat,?_,λb hb=>?_,q⟩
 ·have e1:lo+((0:Nat):Int) * 1=lo:=by simp
  have e2:(((hi - lo).toNat:Nat):Int) - ((0:Nat):Int)=Builtin.Range.rangeSize lo hi 1:=by rw[rangeSize_one];split <;> lia
  show IsRangeIter _ _ (lo+((0:Nat):Int) * 1) ((((hi - lo).toNat:Nat):Int) - ((0:Nat):Int)) 1;rw[e1,e2];exact wF _ rfl
 ·have e:b=(s.heap.push { cls:=.type "range",data:=.fields #[.int lo t,.int hi u,.int 1 v] }).objs.size:=by simpa using hb
  subst e;exact I1.fpOk (u7 _) (I1.hok.fresh (u7 _))
def zna1(ta:TA):TI:=λY H R=>ta Y H λvs H1=>∃j:Int,vs=[.int j]/\-(2 ^ 62)<=j/\j < 2 ^ 62/\R (Itr 0 j.toNat) H1
def zdb1(ta:TA):TI:=λY H R=>ta Y H λvs H1=>∃i j:Int,vs=[.int i,.int j]/\(-(2 ^ 62)<=i/\i < 2 ^ 62/\-(2 ^ 62)<=j/\j < 2 ^ 62)/\R (Itr i (j - i).toNat) H1
theorem zt1{a:aX}{ta:TA}{p pos:Pos}(hg:Gl X "range")(hm:X.mg "range"=none)(ha:PA X [a] ta)(hs:aS [a] X.env=[(false,a8 a X.env)]:=by rfl):PI X tg (.Call (.Name "range" p) [a] [] pos) (zna1 ta):=by
 walk_at"18";refine Call_ (zhj I hg hm boot_range (bR (thn (ha pos pins s Y H _ I h) λus s1 hz=>?_) hs rfl));obtain⟨vs,H1,I1,r1,q1⟩:=hz;obtain⟨j,e,q1,q2,q⟩:=q1;subst e;cases r1 with
|cons r rr =>
  cases rr;obtain⟨t,rfl⟩:=r;exact call_range_1 (zhm I1 (by lia) (by lia) q1 q2 (by simpa using q))
theorem zyr{a b:aX}{ta:TA}{p pos:Pos}(hg:Gl X "range")(hm:X.mg "range"=none)(ha:PA X [a,b] ta)(hs:aS [a,b] X.env=[(false,a8 a X.env),(false,a8 b X.env)]:=by rfl)(hs2:aS [b] X.env=[(false,a8 b X.env)]:=by rfl) :
  PI X tg (.Call (.Name "range" p) [a,b] [] pos) (zdb1 ta):=by
 walk_at"18";refine Call_ (zhj I hg hm boot_range (bR (thn (ha pos pins s Y H _ I h) λus s1 hz=>?_) (by rw[hs,hs2]) (by rw[hs2];rfl)));obtain⟨vs,H1,I1,r1,q1⟩:=hz;obtain⟨i,j,e,⟨q1,q2,q3,q4⟩,q⟩:=q1;subst e;cases r1 with
|cons r rr =>
  cases rr with
 |cons r' rr =>
   cases rr;obtain⟨t,rfl⟩:=r;obtain⟨t',rfl⟩:=r';exact call_range_2 (zhm I1 q1 q2 q3 q4 q)
def tFor(wi:TI)(g:TG)(tb:TS):TS:=λD Y H=>wi Y H λJ H1=>∃W:Nat->Nat->St->Hp->Prop,(∃m,W 0 m Y H1)/\∀i m Y H,W i m Y H ->
 (J.stop i H/\D.nx Y H) \/ (J.go i H/\∃N:St->Hp->Prop,(∀Y' H',N Y' H'->∃m',m' < m/\W (i+1) m' Y' H')/\∀x H',J.yld i H x H'->g x Y H' λY2 H2=>tb { D with nx:=N,ct:=N,bk:=D.nx } Y2 H2)
def zgm(fp:List aE)(h:aT):List (aE×Obj):=fp.filterMap λb=>(h.get? b).map λo=>(b,o)
theorem zu9{h:aT}(hb:b∈fp)(e:h.get? b=some o):(b,o)∈zgm fp h:=yJ.mpr ⟨b,hb,by rw[e];rfl⟩
theorem ziq{h:aT}{p:aE×Obj}(hp:p∈zgm fp h):p.1∈fp/\h.get? p.1=some p.2:=by
 obtain⟨b,hb,e⟩:=yJ.mp hp;cases q:h.get? b with
|none=>rw[q]at e;cases e
|some o =>
  rw[q]at e;have e':(b,o)=p:=wV.inj e;subst e';exact⟨hb,q⟩
theorem Inv.pinned{Y:St}{H:Hp}(I:Inv X pins Y H s)(hf:∀b∈fp,FpOk X pins H b)(ho:∀b∈fp,∃o,s.heap.get? b=some o/\∀v,o.data≠.cell v):Inv X (pins++zgm fp s.heap) Y H s :=
 I.pins_of λp hp=>(vS.mp hp).elim (λz=>I.pin p (w8 _ z)) λz=>by
  obtain⟨hb,e⟩:=ziq z;obtain⟨f0,f1,f2,_⟩:=hf p.1 hb;obtain⟨o,e',d⟩:=ho p.1 hb;rw[e]at e';cases e';exact⟨e,f0,f1,f2,d⟩
theorem Inv.unpinned{pl:List (aE×Obj)}{Y:St}{H:Hp}(I:Inv X (pins++pl) Y H s):Inv X pins Y H s:=I.pins_of λp hp=>I.pin p (w8 _ (xJ _ hp))
theorem zt3{iter:aX}{wi:TI}{g:TG}{tb:TS}{pos:Pos}(hp:PassesOwn (aM X.prog X.w) X.A X.env X.xe)(hc:X.calm=true)(hi:PI X tg iter wi)(hg:PG X tg g)(hb:PSs X body tb)
  (hs:∀x,eX iter X.env x=pure x:=by intro _;rfl):PS X (.For tg iter body [] pos) (tFor wi g tb):=by
 walk_at"8";refine wpAny_For (thn (hi pins s Y H _ I h) λv s1 h1=>thn h1 λitv s2 h2=>?_) hs;obtain⟨it,fp,tn,J,H2,e,I2,T,st2,f2,W,⟨m0,w0⟩,turn⟩:=h2;subst e
 -- what stays true of the iterator's objects through the loop
 have stat:∀{H':Hp},(∀b∈fp,H' b=none)->∀b∈fp,FpOk X pins H' b:=λhn b hb=>⟨hn b hb,(f2 b hb).2⟩
 refine codeAny_forLoop_any (λn s'=>∃i Y' H',Inv X pins Y' H' s'/\tn i s'.heap/\(∀b∈fp,H' b=none)/\W i n Y' H') ?_ m0 ⟨0,Y,H2,I2,st2,λb hb=>(f2 b hb).1,w0⟩;rintro n s3 ⟨i,Y3,H3,I3,st3,fr3,w3⟩;rcases turn i n Y3 H3 w3 with⟨stop,qn⟩|⟨go,N,hN,step⟩
 ·refine b9 hp (thn (T.done X rfl rfl rfl hc i pins s3 Y3 H3 X.xe I3 (stat fr3) st3 stop) λr s4 hz=>?_);obtain⟨hr,I4⟩:=hz;subst hr;exact d7 ⟨Y3,H3,I4,qn⟩
 ·refine b9 hp (thn (T.item X rfl rfl rfl hc i pins s3 Y3 H3 X.xe I3 (stat fr3) st3 go) λr s4 hz=>?_);obtain⟨u,hr,h4⟩:=hz;subst hr;refine b9 hp (thn h4 λ_ s5 hz=>?_);obtain⟨x,H5,I5,r5,y5,st5,fr5⟩:=hz;have I5':=I5.pinned (stat fr5) (T.obj _ _ st5);refine b9 hp (thn (hg _ s5 Y3 H5 x u _ I5' r5 (step x H5 y5)) λ_ s6 hz=>?_);obtain⟨Y6,H6,I6,q6⟩:=hz;refine b9 hp (thn (hb _ s6 Y6 H6 _ I6 q6) λf s7 q7=>?_);have again:∀{Y7:St}{H7:Hp},Inv X (pins++zgm fp s5.heap) Y7 H7 s7->N Y7 H7->∃m,m < n/\∃i Y' H',Inv X pins Y' H' s7/\tn i s7.heap/\(∀b∈fp,H' b=none)/\W i m Y' H':=λ{Y7 H7} I7 n7=>by
   obtain⟨m',hm,w7⟩:=hN Y7 H7 n7;refine⟨m',hm,i+1,Y7,H7,I7.unpinned,T.keep _ _ _ st5 λb hb o e=>(I7.pin (b,o) (w8 _ (w8 _ (zu9 hb e)))).1,λb hb=>?_,w7⟩;obtain⟨o,e,d⟩:=T.obj _ _ st5 b hb;exact(I7.pin (b,o) (w8 _ (w8 _ (zu9 hb e)))).2.1
  cases f with
 |next=>obtain⟨Y7,H7,I7,n7⟩:=q7;exact again I7 n7
 |cont=>obtain⟨Y7,H7,I7,n7⟩:=q7;exact again I7 n7
 |brk=>obtain⟨Y7,H7,I7,q7⟩:=q7;exact⟨Y7,H7,I7.unpinned,q7⟩
 |ret v=>obtain⟨x7,Y7,H7,I7,r7,q7⟩:=q7;exact⟨x7,Y7,H7,I7.unpinned,r7,q7⟩
end
abbrev R2:=V->V->Hp->VK->Prop
def OpR(X:Cx)(f:aC->aC->Sem aC)(r:R2):Prop :=
 ∀(pins:List (aE×Obj))(s:aH)(Y:St)(H:Hp)(x y:V)(v u:aC)(Q:VK),Inv X pins Y H s->RelV x v->RelV y u->r x y H Q ->
  aI (aM X.prog X.w) X.A (f v u) (EP X pins Y Q) X.xe s
def UnR(X:Cx)(f:aC->Sem aC)(r:V->Hp->VK->Prop):Prop :=
 ∀(pins:List (aE×Obj))(s:aH)(Y:St)(H:Hp)(x:V)(v:aC)(Q:VK),Inv X pins Y H s->RelV x v->r x H Q ->
  aI (aM X.prog X.w) X.A (f v) (EP X pins Y Q) X.xe s
def CallR(X:Cx)(f:aC)(r:List V->Hp->VK->Prop):Prop :=
 ∀(pins:List (aE×Obj))(s:aH)(Y:St)(H:Hp)(xs:List V)(us:List aC)(Q:VK),Inv X pins Y H s->Vals xs us->r xs H Q ->
  aI (aM X.prog X.w) X.A (call f us) (EP X pins Y Q) X.xe s
def TruR(X:Cx)(r:V->Hp->(Bool->Hp->Prop)->Prop):Prop :=
 ∀(pins:List (aE×Obj))(s:aH)(Y:St)(H:Hp)(x:V)(v:aC)(Q:Bool->Hp->Prop),Inv X pins Y H s->RelV x v->r x H Q ->
  aI (aM X.prog X.w) X.A (truthy v) (TP X pins Y Q) X.xe s
def tOp(r:R2)(ta tb:TE):TE:=λY H Q=>ta Y H λx H1=>tb Y H1 λy H2=>r x y H2 Q
def tUn(r:V->Hp->VK->Prop)(ta:TE):TE:=λY H Q=>ta Y H λx H1=>r x H1 Q
def rI(C:Int->Int->Prop)(g:Int->Int->V):R2:=λx y H Q=>∃i j,x=.int i/\y=.int j/\C i j/\Q (g i j) H
def rI0(g:Int->Int->V):R2:=λx y H Q=>∃i j,x=.int i/\y=.int j/\Q (g i j) H
def rU(g:Int->V):V->Hp->VK->Prop:=λx H Q=>∃i,x=.int i/\Q (g i) H
section
variable {X:Cx}{a b c:aX}{ta tb tc:TE}{pos:Pos}
theorem binT(ha:PE X a ta)(hb:PE X b tb){Y:St}{H:Hp}{R:V->V->Hp->Prop}(I:Inv X pins Y H s)
  (h:ta Y H λx H1=>tb Y H1 λy H2=>R x y H2) {Q:aC->aH->Prop} 
  (hf:∀v u s2 x y H2,Inv X pins Y H2 s2->RelV x v->RelV y u->R x y H2->aI (aM X.prog X.w) X.A (f v u) Q X.xe s2) :
  aI (aM X.prog X.w) X.A (a8 a X.env) (λv s₁=>aI (aM X.prog X.w) X.A (a8 b X.env) (λu s₂=>aI (aM X.prog X.w) X.A (f v u) Q X.xe s₂) X.xe s₁) X.xe s:=by
 refine thn (ha pins s Y H _ I h) λv s1 hz=>?_;obtain⟨x,H1,I1,r1,q1⟩:=hz;refine thn (hb pins s1 Y H1 _ I1 q1) λu s2 hz=>?_;obtain⟨y,H2,I2,r2,q2⟩:=hz;exact hf v u s2 x y H2 I2 r1 r2 q2
theorem zk1{r:R2}(ho:OpR X (bL op) r)(ha:PE X a ta)(hb:PE X b tb):PE X (.BinOp a op b pos) (tOp r ta tb):=by
 walk_at"2";exact wpAny_BinOp (binT ha hb I h λv u s2 x y H2 I2 rx ry q=>ho pins s2 Y H2 x y v u Q I2 rx ry q)
theorem zxb1{op:UnaryOp}{r:V->Hp->VK->Prop}(ho:UnR X (unaryOp op) r)(ha:PE X a ta):PE X (.UnaryOp op a pos) (tUn r ta):=by
 walk_at"2";exact UnaryOp_ (thn (ha pins s Y H _ I h) λv s1 ⟨x,H1,I1,r1,q1⟩=>ho pins s1 Y H1 x v Q I1 r1 q1)
theorem opI{f:aC->aC->Sem aC}{C:Int->Int->Prop}{g:Int->Int->Int}
  (rule:∀(i j:Int)(t u:Tok)(s:aH)(Q:aC->aH->Prop)(E:aC->aH->Prop),C i j->Q (.int (g i j) s.toks) { s with toks:=s.toks+1 }->aI (aM X.prog X.w) X.A (f (.int i t) (.int j u)) Q E s) :
  OpR X f (rI C λi j=>.int (g i j)):=by
 walk_at"0";obtain⟨i,j,rfl,rfl,hc,q⟩:=h;obtain⟨t,rfl⟩:=rx;obtain⟨t',rfl⟩:=ry;exact rule i j t t' s _ _ hc ⟨.int (g i j),H,I.tok _,⟨_,rfl⟩,q⟩
theorem opI0{f:aC->aC->Sem aC}{g:Int->Int->Int}
  (rule:∀(i j:Int)(t u:Tok)(s:aH)(Q:aC->aH->Prop)(E:aC->aH->Prop),Q (.int (g i j) s.toks) { s with toks:=s.toks+1 }->aI (aM X.prog X.w) X.A (f (.int i t) (.int j u)) Q E s) :
  OpR X f (rI0 λi j=>.int (g i j)):=by
 walk_at"0";obtain⟨i,j,rfl,rfl,q⟩:=h;obtain⟨t,rfl⟩:=rx;obtain⟨t',rfl⟩:=ry;exact rule i j t t' s _ _ ⟨.int (g i j),H,I.tok _,⟨_,rfl⟩,q⟩
theorem opB0{g:Int->Int->Bool}
  (rule:∀(i j:Int)(t u:Tok)(s:aH)(Q:aC->aH->Prop)(E:aC->aH->Prop),Q (.bool (g i j)) s->aI (aM X.prog X.w) X.A (f (.int i t) (.int j u)) Q E s) :
  OpR X f (rI0 λi j=>.bl (g i j)):=by
 walk_at"0";obtain⟨i,j,rfl,rfl,q⟩:=h;obtain⟨t,rfl⟩:=rx;obtain⟨t',rfl⟩:=ry;exact rule i j t t' s _ _ ⟨.bl (g i j),H,I,rfl,q⟩
def CPow(i j:Int):Prop:=0<=j/\j<=1000000/\i.natAbs < 2 ^ 64
def CMul(i j:Int):Prop:=(-(2 ^ 64) < i/\i < 2 ^ 64) \/ (-(2 ^ 64) < j/\j < 2 ^ 64)
theorem CMul.ok{i j:Int}(h:CMul i j):IntMulOk i j:=by
 rcases h with⟨h1,h2⟩|⟨h1,h2⟩
 ·exact .of_left (intBits_le_64 h1 h2)
 ·exact .of_right (intBits_le_64 h1 h2)
theorem zn91:OpR X (bL .Add) (rI0 λi j=>.int (i+j)):=opI0 λ_ _ _ _ _ _ _ q=>add_int q
theorem zj9:OpR X (bL .Sub) (rI0 λi j=>.int (i - j)):=opI0 λ_ _ _ _ _ _ _ q=>sub_int q
theorem zj71:OpR X (bL .Mult) (rI CMul λi j=>.int (i * j)):=opI λ_ _ _ _ _ _ _ hc q=>mul_int q hc.ok
theorem zm2:OpR X (bL .Mod) (rI (λ_ j=>0 < j) λi j=>.int (i % j)):=opI λi j _ _ _ _ _ hc q=>by
 have h1:(0:Int) < j:=hc;exact mod_int' (by lia) (by rw[uaH i (by lia)];exact q)
theorem zry:OpR X (bL .Pow) (rI CPow λi j=>.int (i ^ j.toNat)):=opI λ_ _ _ _ _ _ _ hc q=>pow_int_small hc.1 hc.2.1 hc.2.2 q
theorem zj21:OpR X (bL .BitXor) (rI0 λi j=>.int (eP i j)):=opI0 λ_ _ _ _ _ _ _ q=>xor_int q
theorem unI{f:aC->Sem aC}{g:Int->Int}
  (rule:∀(i:Int)(t:Tok)(s:aH)(Q:aC->aH->Prop)(E:aC->aH->Prop),Q (.int (g i) s.toks) { s with toks:=s.toks+1 }->aI (aM X.prog X.w) X.A (f (.int i t)) Q E s) :
  UnR X f (rU λi=>.int (g i)):=by
 walk_at"30";obtain⟨i,rfl,q⟩:=h;obtain⟨t,rfl⟩:=rx;exact rule i t s _ _ ⟨.int (g i),H,I.tok _,⟨_,rfl⟩,q⟩
theorem zk91:UnR X (unaryOp .USub) (rU λi=>.int (-i)):=unI λ_ _ _ _ _ q=>neg_int q
end
def scal:V->V->Bool
|.non,.non=>true|.non,.int _=>true|.int _,.non=>true|.non,.bl _=>true|.bl _,.non=>true|.non,.str _=>true|.str _,.non=>true
|.int _,.int _=>true|.bl _,.bl _=>true|.str _,.str _=>true|.byt _,.byt _=>true
|.int _,.str _=>true|.str _,.int _=>true|.bl _,.str _=>true|.str _,.bl _=>true
|_,_=>false
def rEq:R2:=λx y H Q=>scal x y=true/\Q (.bl (decide (x=y))) H
def rNe:R2:=λx y H Q=>scal x y=true/\Q (.bl (!decide (x=y))) H
theorem zuf{i j:Int}:decide (V.int i=V.int j)=(i == j):=by
 rw[zA];simp
theorem zln{i j:Bool}:decide (V.bl i=V.bl j)=(i == j):=by
 rw[zA];simp
theorem zeg{i j:Str}:decide (V.str i=V.str j)=(i == j):=by
 rw[zA];simp
theorem zat{i j:Array UInt8}:decide (V.byt i=V.byt j)=(i.toList == j.toList):=by
 rw[zA];cases i;cases j;simp
section
variable {X:Cx}{a b c:aX}{ta tb tc:TE}{pos:Pos}
theorem zz1{Y:St}{H:Hp}{Q:VK}{k k':Bool}(I:Inv X pins Y H s)(q:Q (.bl k) H)(e:k=k'):EP X pins Y Q (.bool k') s:=by
 subst e;exact⟨.bl k,H,I,rfl,q⟩
theorem zac1:OpR X (a7 .Eq) rEq:=by
 walk_at"0";obtain⟨hs,q⟩:=h;cases x with
|non =>
  cases rx;cases y with
 |non=>cases ry;exact PySem.EqNone.eq_none_none (zz1 I q (by simp))
 |bl j=>cases ry;exact PySem.EqNone.eq_none_bool (zz1 I q (by simp))
 |int j=>obtain⟨t',rfl⟩:=ry;exact PySem.EqNone.eq_none_int (zz1 I q (by simp))
 |str j=>obtain⟨t',rfl⟩:=ry;exact PySem.EqNone.eq_none_str (zz1 I q (by simp))
 |_=>exact aJ (show false=true from hs) v5
|bl i =>
  cases rx;cases y with
 |non=>cases ry;exact PySem.EqNone.eq_bool_none (zz1 I q (by simp))
 |bl j=>cases ry;exact eq_bool (zz1 I q zln)
 |str j=>obtain⟨t',rfl⟩:=ry;exact PySem.EqMixed.eq_bool_str (zz1 I q (by simp))
 |_=>exact aJ (show false=true from hs) v5
|int i =>
  obtain⟨t,rfl⟩:=rx;cases y with
 |non=>cases ry;exact PySem.EqNone.eq_int_none (zz1 I q (by simp))
 |int j=>obtain⟨t',rfl⟩:=ry;exact eq_int (zz1 I q zuf)
 |str j=>obtain⟨t',rfl⟩:=ry;exact PySem.EqMixed.eq_int_str (zz1 I q (by simp))
 |_=>exact aJ (show false=true from hs) v5
|str i =>
  obtain⟨t,rfl⟩:=rx;cases y with
 |non=>cases ry;exact PySem.EqNone.eq_str_none (zz1 I q (by simp))
 |bl j=>cases ry;exact PySem.EqMixed.eq_str_bool (zz1 I q (by simp))
 |int j=>obtain⟨t',rfl⟩:=ry;exact PySem.EqMixed.eq_str_int (zz1 I q (by simp))
 |str j=>obtain⟨t',rfl⟩:=ry;exact eq_str (zz1 I q zeg)
 |_=>exact aJ (show false=true from hs) v5
|byt i =>
  obtain⟨t,rfl⟩:=rx;cases y with
 |byt j=>obtain⟨t',rfl⟩:=ry;exact PySem.W.eq_bytes (zz1 I q zat)
 |_=>exact aJ (show false=true from hs) v5
|_=>cases y <;> exact aJ (show false=true from hs) v5
theorem ztb1:OpR X (a7 .NotEq) rNe:=by
 walk_at"0";obtain⟨hs,q⟩:=h;cases x with
|non =>
  cases rx;cases y with
 |non=>cases ry;exact PySem.EqNone.ne_none_none (zz1 I q (by simp))
 |bl j=>cases ry;exact PySem.EqNone.ne_none_bool (zz1 I q (by simp))
 |int j=>obtain⟨t',rfl⟩:=ry;exact PySem.EqNone.ne_none_int (zz1 I q (by simp))
 |str j=>obtain⟨t',rfl⟩:=ry;exact PySem.EqNone.ne_none_str (zz1 I q (by simp))
 |_=>exact aJ (show false=true from hs) v5
|bl i =>
  cases rx;cases y with
 |non=>cases ry;exact PySem.EqNone.ne_bool_none (zz1 I q (by simp))
 |bl j=>cases ry;exact ne_bool (zz1 I q (congrArg not zln))
 |str j=>obtain⟨t',rfl⟩:=ry;exact PySem.EqMixed.ne_bool_str (zz1 I q (by simp))
 |_=>exact aJ (show false=true from hs) v5
|int i =>
  obtain⟨t,rfl⟩:=rx;cases y with
 |non=>cases ry;exact PySem.EqNone.ne_int_none (zz1 I q (by simp))
 |int j=>obtain⟨t',rfl⟩:=ry;exact ne_int (zz1 I q (congrArg not zuf))
 |str j=>obtain⟨t',rfl⟩:=ry;exact PySem.EqMixed.ne_int_str (zz1 I q (by simp))
 |_=>exact aJ (show false=true from hs) v5
|str i =>
  obtain⟨t,rfl⟩:=rx;cases y with
 |non=>cases ry;exact PySem.EqNone.ne_str_none (zz1 I q (by simp))
 |bl j=>cases ry;exact PySem.EqMixed.ne_str_bool (zz1 I q (by simp))
 |int j=>obtain⟨t',rfl⟩:=ry;exact PySem.EqMixed.ne_str_int (zz1 I q (by simp))
 |str j=>obtain⟨t',rfl⟩:=ry;exact ne_str (zz1 I q (congrArg not zeg))
 |_=>exact aJ (show false=true from hs) v5
|byt i =>
  obtain⟨t,rfl⟩:=rx;cases y with
 |byt j=>obtain⟨t',rfl⟩:=ry;exact PySem.W.ne_bytes (zz1 I q (congrArg not zat))
 |_=>exact aJ (show false=true from hs) v5
|_=>cases y <;> exact aJ (show false=true from hs) v5
theorem zyt:OpR X (a7 .Lt) (rI0 λi j=>.bl (decide (i < j))):=opB0 λ_ _ _ _ _ _ _ q=>lt_int q
theorem zcc1:OpR X (a7 .LtE) (rI0 λi j=>.bl (decide (i<=j))):=opB0 λ_ _ _ _ _ _ _ q=>le_int q
theorem zll:OpR X (a7 .Gt) (rI0 λi j=>.bl (decide (j < i))):=opB0 λ_ _ _ _ _ _ _ q=>gt_int q
theorem zz41:OpR X (a7 .GtE) (rI0 λi j=>.bl (decide (j<=i))):=opB0 λ_ _ _ _ _ _ _ q=>ge_int q
theorem zer:OpR X (a7 .In) (λx y H Q=>∃i j,x=.str i/\y=.str j/\Q (.bl (!(Builtin.Str.occurrences j i 0 j.length 1).isEmpty)) H):=by
 walk_at"0";obtain⟨i,j,rfl,rfl,q⟩:=h;obtain⟨t,rfl⟩:=rx;obtain⟨t',rfl⟩:=ry;exact in_str (zz1 I q rfl)
theorem za31:OpR X (a7 .Is) (λx y H Q=>y=.non/\Q (.bl (decide (x=.non))) H):=by
 walk_at"0";obtain⟨rfl,q⟩:=h;cases ry;refine is_none_gen (zz1 I q ?_);cases x <;> first
 |(cases rx;rfl)
 |(obtain⟨t,rfl⟩:=rx;rfl)
theorem zss:OpR X (a7 .IsNot) (λx y H Q=>y=.non/\Q (.bl (!decide (x=.non))) H):=by
 walk_at"0";obtain⟨rfl,q⟩:=h;cases ry;refine isnot_none_gen (zz1 I q ?_);cases x <;> first
 |(cases rx;rfl)
 |(obtain⟨t,rfl⟩:=rx;rfl)
theorem OpR.or{r r':R2}(h:OpR X f r)(h':OpR X f r'):OpR X f (λx y H Q=>r x y H Q \/ r' x y H Q):=by
 walk_at"14";rcases q with q|q
 ·exact h pins s Y H x y v u Q I rx ry q
 ·exact h' pins s Y H x y v u Q I rx ry q
theorem zz0(b:aX){op:CmpOp}(h:op≠.In:=by decide)(h2:op≠.NotIn:=by decide):dQ op b=false:=by
 have e1:(op == CmpOp.In)=false:=by cases op <;> first|rfl|exact aJ rfl h
 have e2:(op == CmpOp.NotIn)=false:=by cases op <;> first|rfl|exact aJ rfl h2
 cases b <;> simp[dQ,e1,e2]
theorem zup{op:CmpOp}{r:R2}(ho:OpR X (a7 op) r)(ha:PE X a ta)(hb:PE X b tb)(hm:dQ op b=false):PE X (.Compare a [op] [b] pos) (tOp r ta tb):=by
 walk_at"2";exact wpAny_Compare1 (binT ha hb I h λv u s2 x y H2 I2 rx ry q=>ho pins s2 Y H2 x y v u Q I2 rx ry q) hm
def zzb1(t:TE):TT:=λY H Q=>t Y H λx H'=>∃k,x=.bl k/\Q k H'
theorem zx01{op:CmpOp}{r:R2}(ho:OpR X (a7 op) r)(ha:PE X a ta)(hb:PE X b tb)(hm:dQ op b=false):PT X (.Compare a [op] [b] pos) (zzb1 (tOp r ta tb)):=by
 walk_at"2";refine wpAny_isTrue_Compare1 (thn (ha pins s Y H _ I h) λv s1 ⟨x,H1,I1,r1,q1⟩=>thn (hb pins s1 Y H1 _ I1 q1) λu s2 ⟨y,H2,I2,r2,q2⟩ =>
  thn (ho pins s2 Y H2 x y v u _ I2 r1 r2 q2) λc s3 hz=>?_) hm
 obtain⟨z,H3,I3,r3,k,e,q3⟩:=hz;subst e;cases r3;exact cP ⟨H3,I3,q3⟩
def TruV(K:Fg)(x:V)(H:Hp)(k:Bool):Prop :=
 match x with
|.non=>k=false
|.bl b=>k=b
|.int i=>k=(i != 0)
|.str y=>y.length<=sizeLine/\k=((y.length:Int) != 0)
|.byt y=>y.size<=sizeLine/\k=((y.size:Int) != 0)
|.ref p=>(∃xs,SqL K H p xs/\k=!xs.isEmpty) \/ (∃xs,SqT K H p xs/\k=!xs.isEmpty) \/ ∃kvs,H p=some (.dK kvs)/\k=!kvs.isEmpty
|_=>False
theorem zjo{κ:Type}{kvs:List (κ×V)}{vs:List (κ×aC)}(r:KV kvs vs):(!vs.isEmpty)=!kvs.isEmpty:=by
 cases r <;> rfl
theorem zmg{xs:List V}{its:List aC}(r:Vals xs its):(!its.toArray.isEmpty)=!xs.isEmpty:=by
 cases r <;> simp
theorem zzi:(sizeLine:Nat) < 2 ^ 63:=by rw[aW];decide
theorem zx81:TruR X (λx H Q=>∃k,TruV X.K x H k/\Q k H):=by
 walk_at"30";obtain⟨k,e,q⟩:=h;have hl:=zzi;have hs:sizeLine=16777216:=aW;cases x with
|non =>
  cases rx;have e':k=false:=e;subst e';exact truthy_none ⟨H,I,q⟩
|bl b =>
  cases rx;have e':k=b:=e;subst e';exact cP ⟨H,I,q⟩
|int i =>
  obtain⟨t,rfl⟩:=rx;have e':k=(i != 0):=e;subst e';exact PySem.P.truthy_int ⟨H,I,q⟩
|str y =>
  obtain⟨t,rfl⟩:=rx;obtain⟨hy,e'⟩:y.length<=sizeLine/\k=((y.length:Int) != 0):=e;subst e';exact PySem.P.truthy_str (by lia) ⟨H,I.tok _,q⟩
|byt y =>
  obtain⟨t,rfl⟩:=rx;obtain⟨hy,e'⟩:y.size<=sizeLine/\k=((y.size:Int) != 0):=e;subst e';exact PySem.W.truthy_bytes (by lia) ⟨H,I.tok _,q⟩
|ref p =>
  cases rx;have e':(∃xs,SqL X.K H p xs/\k=!xs.isEmpty) \/ (∃xs,SqT X.K H p xs/\k=!xs.isEmpty) \/ ∃kvs,H p=some (.dK kvs)/\k=!kvs.isEmpty:=e;rcases e' with⟨xs,hx,e'⟩|⟨xs,hx,e'⟩|⟨kvs,hx,e'⟩
  ·subst e';obtain⟨its,r,pl,hz⟩:=I.list hx;have hlen:=r.length;exact wpAny_truthy_list pl.isList (by simp only[v3];lia) ⟨H,I.tok _,by rw[zmg r];exact q⟩
  ·subst e';obtain⟨its,r,pl,hz⟩:=I.tuple hx;have hlen:=r.length;exact truthy_tuple pl (by simp only[v3];lia) ⟨H,I.tok _,by rw[zmg r];exact q⟩
  ·subst e';obtain⟨hz,hS,vs,r,m⟩:kvs.length<=sizeLine/\(p == bV)=false/\∃vs,KV kvs vs/\s.heap.DictOf (zu2 X.prog X.w) p vs:=I.hok p _ hx;have hlen:kvs.length=vs.length:=dR r;exact wpAny_truthy_dict hS m (by lia) ⟨H,I.tok _,by rw[zjo r];exact q⟩
|_=>exact(show False from e).elim
theorem zwx(ha:PE X a ta)(he:∀whole,gF a X.env whole=(do let v <- whole;eD a.pos;cX [v] (truthy v))) :
  PT X a (λY H Q=>ta Y H λx H'=>∃k,TruV X.K x H' k/\Q k H'):=by
 walk_at"2";exact isTrue_plain (thn (ha pins s Y H _ I h) λv s1 ⟨x,H1,I1,r1,q1⟩=>zx81 pins s1 Y H1 x v Q I1 r1 q1) (he _)
theorem zqn:OpR X (bL .Add) (λx y H Q=>∃i j,x=.str i/\y=.str j/\i.length+j.length<=sizeLine/\Q (.str (i++j)) H):=by
 walk_at"0";obtain⟨i,j,rfl,rfl,hz,q⟩:=h;obtain⟨t,rfl⟩:=rx;obtain⟨t',rfl⟩:=ry;exact add_str (λt' tk=>⟨.str (i++j),H,I.tok _,⟨_,rfl⟩,q⟩) hz
theorem zxs{x:V}(r:Vals [x] us):∃u,us=[u]/\RelV x u:=by
 cases r with
|cons r1 r2=>cases r2;exact⟨_,rfl,r1⟩
theorem zk21{x y:V}(r:Vals [x,y] us):∃u w',us=[u,w']/\RelV x u/\RelV y w':=by
 cases r with
|cons r1 r2 =>
  cases r2 with
 |cons r3 r4=>cases r4;exact⟨_,_,rfl,r1,r3⟩
theorem zsq(hc:X.calm=true):CallR X (.builtin "max") (λxs H Q=>∃i j,xs=[.int i,.int j]/\Q (.int (if j > i then j else i)) H):=by
 walk_at"7";obtain⟨i,j,rfl,q⟩:=h;obtain⟨u,w',rfl,⟨t,rfl⟩,⟨t',rfl⟩⟩:=zk21 r;refine max_two_ints (I.ok.hd hc) λh' tk k=>⟨_,H,I.kept k,?_,q⟩
 by_cases hj:j > i
 ·rw[aF hj,aF hj];exact⟨_,rfl⟩
 ·rw[aA hj,aA hj];exact⟨_,rfl⟩
theorem zlq(hc:X.calm=true):CallR X (.builtin "min") (λxs H Q=>∃i j,xs=[.int i,.int j]/\Q (.int (if j < i then j else i)) H):=by
 walk_at"7";obtain⟨i,j,rfl,q⟩:=h;obtain⟨u,w',rfl,⟨t,rfl⟩,⟨t',rfl⟩⟩:=zk21 r;refine min_two_ints (I.ok.hd hc) λh' tk k=>⟨_,H,I.kept k,?_,q⟩
 by_cases hj:j < i
 ·rw[aF hj,aF hj];exact⟨_,rfl⟩
 ·rw[aA hj,aA hj];exact⟨_,rfl⟩
def LenV(K:Fg)(x:V)(H:Hp)(n:Nat):Prop :=
 match x with
|.str y=>y.length<=sizeLine/\n=y.length
|.byt y=>y.size<=sizeLine/\n=y.size
|.ref p=>(∃xs,SqL K H p xs/\n=xs.length) \/ ∃xs,SqT K H p xs/\n=xs.length
|_=>False
theorem zky:CallR X (.builtin "len") (λxs H Q=>∃x n,xs=[x]/\LenV X.K x H n/\Q (.int n) H):=by
 walk_at"7";obtain⟨x,n,rfl,e,q⟩:=h;obtain⟨u,rfl,rx⟩:=zxs r;have hl:=zzi;have hs:sizeLine=16777216:=aW;cases x with
|str y =>
  obtain⟨t,rfl⟩:=rx;obtain⟨hy,e'⟩:y.length<=sizeLine/\n=y.length:=e;subst e';exact len_str (by lia) ⟨.int _,H,I.tok _,⟨_,rfl⟩,q⟩
|byt y =>
  obtain⟨t,rfl⟩:=rx;obtain⟨hy,e'⟩:y.size<=sizeLine/\n=y.size:=e;subst e';exact PySem.W.len_bytes (by lia) ⟨.int _,H,I.tok _,⟨_,rfl⟩,q⟩
|ref p =>
  cases rx;have e':(∃xs,SqL X.K H p xs/\n=xs.length) \/ ∃xs,SqT X.K H p xs/\n=xs.length:=e;rcases e' with⟨xs,hx,e'⟩|⟨xs,hx,e'⟩
  ·subst e';obtain⟨its,r',pl,hz⟩:=I.list hx;have hlen:=r'.length;exact Calls.call_len_list pl.isList (by simp only[v3];lia) ⟨.int xs.length,H,I.tok _,⟨_,by simp only[v3];rw[hlen]⟩,q⟩
  ·subst e';obtain⟨its,r',pl,hz⟩:=I.tuple hx;have hlen:=r'.length;exact len_tuple pl (by simp only[v3];lia) ⟨.int xs.length,H,I.tok _,⟨_,by simp only[v3];rw[hlen]⟩,q⟩
|_=>exact(show False from e).elim
end
structure ObjM(h:aT)(x dx C:aE)(mA:Str->Option aC):Prop where
 obj:h.get? x=some (bX C dx)
 ns:h.Ns1 dx mA
 ne:dx≠x
theorem zks{h:aT}(n:h.Ns1 dx mA):∃od,h.get? dx=some od/\∀name,eO name od=some (mA name):=by
 obtain⟨o,es,ep,ho,hd,hk,_,hm⟩:=n;refine⟨o,ho,λname=>?_⟩;have e:=hm name;unfold nsFind findBy at e;rw[<- Array.find?_toList]at e;unfold eO;rw[hd];dsimp only;split
 ·rename_i y q
  rw[q]at e;exact congrArg some e
 ·rename_i q
  rw[q]at e;have a:es.toList.any (·.refKey)=false:=by
   rw[List.any_eq_false];intro y hy;obtain⟨z,t,hkey⟩:=hk y (Array.mem_toList_iff.mp hy);simp[DictEntry.refKey,hkey]
  have a':¬es.toList.any (·.refKey)=true:=by rw[a];exact v5
  rw[aA a'];exact congrArg some e
theorem ObjM.look{h:aT}{x:aE}(I:ObjM h x dx C mA):∃od,PySem.W.InstAt h x (bX C dx) C (some od)/\∀name,eO name od=some (mA name) :=
 let ⟨od,ho,hl⟩:=zks I.ns
 ⟨od,⟨I.obj,rfl,rfl,ho⟩,hl⟩
section
variable {prog:aN}{w:aQ}{A:bB}{E:aC->aH->Prop}{s:aH}{K:Fg}{x dx C f:aE}{mA:Str->Option aC}{name:Str}{v:aC}
theorem zyz{expr:Bool}{Q:aC->aH->Prop}(X:K.In s.heap)(I:ObjM s.heap x dx C mA)(hg:cU K C name=true)(hh:dM K C=true)
  (ha:a6 K (.ref C) name=some none) (hv:mA name=some v) (hv':g8 v=true) (h:Q v { s with toks:=s.toks+1 }) :
  aI (aM prog w) A (getAttr (.ref x) name expr) Q E s:=by
 obtain⟨od,J,hl⟩:=I.look;exact PySem.W.get_value X J (eC hg).1 (PySem.W.findObj_own hh ha rfl (by rw[hl,hv])) hv' h
theorem zav{pl:Sem Bool}{Q:aC×List aC->aH->Prop}(X:K.In s.heap)(I:ObjM s.heap x dx C mA)(hg:cU K C name=true)
  (hf:a6 K (.ref C) name=some (some (.ref f))) (ht:d6 K (.ref f)=true) (hv:mA name=none) (h:Q (.ref f,[.ref x]) s) :
  aI (aM prog w) A (dU (.ref x) name pl) Q E s:=by
 obtain⟨od,J,hl⟩:=I.look;exact PySem.W.method_fn X J (eC hg).1 (eC hg).2 hf (beq_iff_eq.mp ht) (by show(eO name od).map (·.isSome)=some false;rw[hl,hv];rfl) h
theorem zx21{ns:List Str}{Q:Unit->aH->Prop}(X:K.In s.heap)(I:ObjM s.heap x dx C mA)
  (hs:a6 K (.ref C) "__setattr__"=some (some (.builtin "object.__setattr__"))) (hp:eZ K C=true) (ht:fP K C name=some none) (hh:dM K C=true)
  (hw:gJ mA ns) (hsz:ns.length<=sizeLine)
  (h:∀h',ObjM h' x dx C (λy=>if y=name then some v else mA y)->bD dx s.heap h'->Q () { s with heap:=h',toks:=s.toks+2 }) :
  aI (aM prog w) A (setAttr (.ref x) name v) Q E s:=by
 obtain⟨od,J,hl⟩:=I.look;refine PySem.W.set_plain X J hs (PySem.W.osa_open (s:={ s with toks:=s.toks+1 }) (r:=none) X J hp ht λb=>?_);obtain⟨cd,hc,hd'⟩:=PySem.W.any_some hh;have hx:s.heap.get? x=some ⟨.ref C,some dx,.plain,#[]⟩:=I.obj;refine aG (aK (aG (aG (wpAny_loadPart hx (aG (PySem.W.Looks.here (s:={ s with toks:=s.toks+1 }) (PySem.W.looks_clsIn X hc) ?_))))));rw[hd'];refine aK (a:=some dx) (aG (aK (aG ?_)));refine wpAny_nsSet1 (s:={ s with toks:=s.toks+1 }) I.ns λh' hn2 hs2=>?_;obtain⟨oD,esD,epD,hoD,hdD,hcD⟩:=hn2.count (PySem.Within.cons name v hw);refine aG (wpAny_lookBehind hoD (by rw[hdD];exact pastItsLine_dict (wZ hcD (by rw[xL];lia))) ?_);exact aK (h _ ⟨(hs2.2 _ (Ne.symm I.ne)).trans I.obj,hn2,I.ne⟩ hs2)
theorem zrv{R:hV->aH->Prop}{vs:List aC}(X:K.In s.heap)(hm:d9 K C=true)
  (hi:a6 K (.ref C) "__init__"=some (some (.ref f))) (hf:PySem.W.typeIn K (.ref f)=some (.type "function"))
  (h:dH (aM prog w) (A.under (.builtin "type.__call__" ⟨.ref C :: vs,kw⟩)) (.call (.ref f) ⟨.ref (s.heap.objs.size+1) :: vs,kw⟩) (PySem.W.InitBack (s.heap.objs.size+1) R)
   { s with heap:=(s.heap.push bQ).push (bX C s.heap.objs.size) }) :
  dH (aM prog w) A (.call (.ref C) ⟨vs,kw⟩) R s:=by
 obtain⟨hh,g,d,t,os⟩:=s;exact PySem.W.make_core (PySem.W.makes_of X hm) (PySem.W.looks_findIn X hi) (λself=>PySem.W.bind_fn X self hf) (.inl rfl) h
end
def putF(f:Str)(v:V):List (Str×V)->List (Str×V)
|[]=>[(f,v)]
|(g,x) :: r=>if g=f then(g,v) :: r else(g,x) :: putF f v r
theorem zjd(f g:Str)(v:V):∀fs:List (Str×V),(putF f v fs).lookup g=if g=f then some v else fs.lookup g
|[]=>by
  show xE g [(f,v)]=_;by_cases h:g=f
  ·have hb:(g == f)=true:=beq_iff_eq.mpr h;simp only[xE,hb,aF h]
  ·have hb:(g == f)=false:=beq_eq_false_iff_ne.mpr h;simp only[xE,hb,aA h]
|(k,x) :: r=>by
  have ih:=zjd f g v r;rw[show putF f v ((k,x) :: r)=(if k=f then(k,v) :: r else(k,x) :: putF f v r)from rfl];by_cases hk:k=f
  ·rw[aF hk];by_cases h:g=k
   ·have hb:(g == k)=true:=beq_iff_eq.mpr h;simp only[xE,hb,aF (h.trans hk)]
   ·have hb:(g == k)=false:=beq_eq_false_iff_ne.mpr h;simp only[xE,hb,aA (λe:g=f=>h (e.trans hk.symm))]
  ·rw[aA hk];by_cases h:g=k
   ·have hb:(g == k)=true:=beq_iff_eq.mpr h;simp only[xE,hb,aA (λe:g=f=>hk (h.symm.trans e))]
   ·have hb:(g == k)=false:=beq_eq_false_iff_ne.mpr h;simp only[xE,hb];exact ih
theorem znf(f:Str)(v:V):∀fs:List (Str×V),f∈(putF f v fs).map (·.1)/\∀g,g∈fs.map (·.1)->g∈(putF f v fs).map (·.1)
|[]=>⟨by simp[putF],λg h=>by simp at h⟩
|(k,x) :: r=>by
  obtain⟨i1,i2⟩:=znf f v r;rw[show putF f v ((k,x) :: r)=(if k=f then(k,v) :: r else(k,x) :: putF f v r)from rfl];by_cases hk:k=f
  ·rw[aF hk];subst hk;exact⟨by simp,λg h=>by simpa using h⟩
  ·rw[aA hk];refine⟨?_,λg h=>?_⟩
   ·rw[v4];exact wB _ i1
   ·rw[v4]at h ⊢;rcases vW.mp h with e|e
    ·exact vW.mpr (.inl e)
    ·exact wB _ (i2 g e)
theorem zyd(f:Str)(v:V):∀fs:List (Str×V),(putF f v fs).length<=fs.length+1
|[]=>by simp[putF]
|(k,x) :: r=>by
  have ih:=zyd f v r;rw[show putF f v ((k,x) :: r)=(if k=f then(k,v) :: r else(k,x) :: putF f v r)from rfl];by_cases hk:k=f
  ·rw[aF hk,xL,xL];lia
  ·rw[aA hk,xL,xL];lia
theorem RelO.some_of{v:V}{o:Option aC}(r:RelO (some v) o):∃u,o=some u/\RelV v u:=by
 cases o with
|none=>exact(show False from r).elim
|some u=>exact⟨u,rfl,r⟩
theorem RelO.none_of{o:Option aC}(r:RelO none o):o=none:=by
 cases o with
|none=>rfl
|some u=>exact(show False from r).elim
theorem zqr{v:V}(r:RelV v u):g8 u=true:=by
 cases v with
|non=>cases (show u=xI from r);rfl
|bl b=>cases (show u=zI b from r);rfl
|int i=>obtain⟨t,e⟩:=(show ∃t,u=y6 i t from r);cases e;rfl
|str x=>obtain⟨t,e⟩:=(show ∃t,u=y8 x t from r);cases e;rfl
|byt b=>obtain⟨t,e⟩:=(show ∃t,u=Value.bytes b t from r);cases e;rfl
|flt b=>obtain⟨t,e⟩:=(show ∃t,u=z6 b t from r);cases e;rfl
|ref a=>cases (show u=vX a from r);rfl
|ty n=>cases (show u=Value.type n from r);rfl
section
variable {P:aN}{w:aQ}{H H':Hp}{h h':aT}{a C dx:aE}{fs fs':List (Str×V)}
theorem zik(hok:HOk P w H h)(e:H a=some (.ins C dx fs)):∃mA,ObjM h a dx C mA/\(∀f,RelO (fs.lookup f) (mA f))/\gJ mA (fs.map (·.1))/\fs.length<=1000/\H dx=some (.own a):=by
 obtain⟨d,z,ne,ob,mA,n,r,q⟩:=(show ObjOk P w H h a (.ins C dx fs)from hok a _ e)
 exact⟨mA,⟨ob,n,ne⟩,r,q,z,d⟩
end
structure Cls(K:Fg)(C:aE):Prop where
 pg:cU K C Str.empty=true
 hd:dM K C=true
 po:eZ K C=true
 sa:a6 K (.ref C) "__setattr__"=some (some (.builtin "object.__setattr__"))
theorem Cls.get(c:Cls K C)(f:Str):cU K C f=true:=c.pg
def NoAttr(K:Fg)(C:aE)(f:Str):Prop:=a6 K (.ref C) f=some none
theorem NoAttr.taker{f:Str}(n:NoAttr K C f):fP K C f=some none:=by
 unfold fP;rw[show a6 K (.ref C) f=some none from n];rfl
structure Meth(K:Fg)(C:aE)(m:Str)(f:aE):Prop where
 at_:a6 K (.ref C) m=some (some (.ref f))
 fn:d6 K (.ref f)=true
 kp:bH K (.ref f)=true
section
variable {X:Cx}{pins:List (aE×Obj)}{Y:St}{H:Hp}{s:aH}{a C dx:aE}{fs:List (Str×V)}{f:Str}{v:V}{A:bB}{E:aC->aH->Prop}
theorem zdn{b:Bool}{Q:aC->aH->Prop}(I:Inv X pins Y H s)(e:H a=some (.ins C dx fs))(c:Cls X.K C)(n:NoAttr X.K C f)(l:fs.lookup f=some v)
  (h:∀u s',Inv X pins Y H s'->RelV v u->Q u s'):aI (aM X.prog X.w) A (getAttr (.ref a) f b) Q E s:=by
 obtain⟨mA,O,r,_,_,_⟩:=zik I.hok e;obtain⟨u,hu,ru⟩:=RelO.some_of (v:=v) (o:=mA f) (by rw[<- l];exact r f);exact zyz I.kIn O (c.get f) c.hd n hu (zqr ru) (h u _ (I.tok _) ru)
theorem zx9{m:Str}{g:aE}{pl:Sem Bool}{Q:aC×List aC->aH->Prop}(I:Inv X pins Y H s)(e:H a=some (.ins C dx fs))(c:Cls X.K C)(k:Meth X.K C m g)(l:fs.lookup m=none)
  (h:Q (.ref g,[.ref a]) s):aI (aM X.prog X.w) A (dU (.ref a) m pl) Q E s:=by
 obtain⟨mA,O,r,_,_,_⟩:=zik I.hok e;have hn:mA m=none:=RelO.none_of (by rw[<- l];exact r m);exact zav I.kIn O (c.get m) k.at_ k.fn hn h
theorem znp{y:V}{Q:Unit->aH->Prop}(I:Inv X pins Y H s)(e:H a=some (.ins C dx fs))(c:Cls X.K C)(n:NoAttr X.K C f)(hl:fs.length < 1000)(ry:RelV y u)
  (h:∀s',Inv X pins Y (upd H a (.ins C dx (putF f y fs))) s'->Q () s'):aI (aM X.prog X.w) A (setAttr (.ref a) f u) Q E s:=by
 obtain⟨mA,O,r,wi,_,ho⟩:=zik I.hok e;have hz:(fs.map (·.1)).length<=sizeLine:=by rw[u5,aW];lia
 refine zx21 I.kIn O c.sa c.po n.taker c.hd wi hz λh' O' sb=>h _ ?_;have hd:∃o,h'.get? dx=some o:=let ⟨o,_,_,e',_⟩:=O'.ns;⟨o,e'⟩;refine I.write (x:=a) (e:=dx) (by rw[e];exact True.intro) (.inr ho) (λb q hb z=>(sb.2 b hb).trans z) hd ?_;refine⟨by rw[ze1 O.ne];exact ho,?_,O.ne,O'.obj,_,O'.ns,λg=>?_,λg hg=>?_⟩
 ·have:=zyd f y fs;lia
 ·show RelO ((putF f y fs).lookup g) (if g=f then some u else mA g);rw[zjd];by_cases q:g=f
  ·rw[aF q,aF q];exact ry
  ·rw[aA q,aA q];exact r g
 ·by_cases q:g=f
  ·rw[q];exact(znf f y fs).1
  ·refine(znf f y fs).2 g (wi g λz=>hg ?_);show(if g=f then some u else mA g)=none;rw[aA q];exact z
theorem Inv.made(I:Inv X pins Y H s):Inv X pins Y (upd (upd H s.heap.objs.size (.own (s.heap.objs.size+1))) (s.heap.objs.size+1) (.ins C s.heap.objs.size []))
  { s with heap:=(s.heap.push bQ).push (bX C s.heap.objs.size) }:=by
 have e1:(s.heap.push bQ).get? s.heap.objs.size=some PySem.W.emptyDict:=wF s.heap rfl;have e2:((s.heap.push bQ).push (bX C s.heap.objs.size)).get? (s.heap.objs.size+1)=some (bX C s.heap.objs.size):=by
  have:=wF (s.heap.push bQ) (o:=bX C s.heap.objs.size) rfl
  rwa [xO]at this
 have e3:(s.heap.push bQ).Ns s.heap.objs.size (λ_=>none):=⟨bQ,#[],_,e1,rfl,(λe he=>aJ he (by simp)),λ_=>rfl⟩
 have I1:=I.laid (a:=s.heap.objs.size) (o:=.own (s.heap.objs.size+1)) (h':=s.heap.push bQ) (t':=s.toks) (λb u q=>vT _ q) (u7 _) ⟨_,e1⟩;refine I1.laid (a:=s.heap.objs.size+1) (o:=.ins C s.heap.objs.size []) (t':=s.toks) (λb u q=>vT _ q) (Nat.le_of_eq (xO _ _)) ?_;have ne:s.heap.objs.size≠s.heap.objs.size+1:=wJ (yU _);refine⟨by rw[ze1 ne,zt0],wX _,ne,e2,λ_=>none,(Heap.Ns1.of_empty e3).at λo q=>vT _ q,λ_=>True.intro,λy hy=>aJ rfl hy⟩
theorem zh21{prog:aN}{env:Env}{e:aX}{f:Str}{Q:aC->aH->Prop}(hb:cL e f env (a8 e env)=a8 e env)
  (h:aI (aM prog w) A (a8 e env) (λo s₁=>aI (aM prog w) A (getAttr o f true) Q E s₁) E s):aI (aM prog w) A (a8 (.Attribute e f pos) env) Q E s :=
 Attribute_any_ h (by rw[arm_eval_Attribute,hb])
end
def tFld(K:Fg)(ta:TE)(f:Str):TE:=λY H Q=>ta Y H λx H1=>∃a C dx fs v,x=.ref a/\H1 a=some (.ins C dx fs)/\Cls K C/\NoAttr K C f/\fs.lookup f=some v/\Q v H1
def sFld(K:Fg)(ta tv:TE)(f:Str):TS:=λD Y H=>tv Y H λy H1=>ta Y H1 λx H2=>∃a C dx fs,x=.ref a/\H2 a=some (.ins C dx fs)/\Cls K C/\NoAttr K C f/\fs.length < 1000 /\
 D.nx Y (upd H2 a (.ins C dx (putF f y fs)))
section
variable {X:Cx}{o e value:aX}{f:Str}{pos pos' tpos:Pos}{ta tv:TE}
theorem zq61(he:PE X e ta)(hb:cL e f X.env (a8 e X.env)=a8 e X.env):PE X (.Attribute e f pos) (tFld X.K ta f):=by
 walk_at"2";refine zh21 hb (thn (he pins s Y H _ I h) λu s1 hz=>?_);obtain⟨x,H1,I1,rx,a,C,dx,fs,v,ex,ea,c,n,l,q⟩:=hz;subst ex;obtain rfl:u=vX a:=rx;exact zdn I1 ea c n l λu' s2 I2 ru=>⟨v,H1,I2,ru,q⟩
theorem zaf(ha:PE X o ta)(hv:PE X value tv)(hs:fM value (some (.Attribute o f pos')) pos.line X.env=pure false):PS X (.Assign [.Attribute o f pos'] value pos) (sFld X.K ta tv f):=by
 walk_at"8";refine plainObj_wpAny_Assign_Attribute (thn (hv pins s Y H _ I h) λu s1 ⟨y,H1,I1,ry,q⟩=>thn (ha pins s1 Y H1 _ I1 q) λov s2 hz=>?_) hs;obtain⟨x,H2,I2,rx,a,C,dx,fs,ex,ea,c,n,l,q2⟩:=hz;subst ex;obtain rfl:ov=vX a:=rx;exact znp I2 ea c n l ry λs3 I3=>⟨Y,_,I3,q2⟩
end
section
variable {X:Cx}{pins:List (aE×Obj)}{Y:St}{H:Hp}{s:aH}{A:bB}{E:aC->aH->Prop}{Q:aC->aH->Prop}{c:aC}{b:Bool}
inductive TyOf(K:Fg)(H:Hp):V->aC->Prop where
|non:TyOf K H .non (.type "NoneType")
|bl (x:Bool):TyOf K H (.bl x) (.type "bool")
|int (i:Int):TyOf K H (.int i) (.type "int")
|str (x:Str):TyOf K H (.str x) (.type "str")
|flt (x:UInt64):TyOf K H (.flt x) (.type "float")
|lst {a:aE} {xs:List V} (e:H a=some (.lst xs)):TyOf K H (.ref a) (.type "list")
|frz {a:aE} {o:Obj} {xs:List V} (e:H a=some (.frz o (.lst xs))):TyOf K H (.ref a) (.type "list")
|tup {a:aE} {xs:List V} (e:H a=some (.tup xs)):TyOf K H (.ref a) (.type "tuple")
|dK {a:aE} {kvs:List (Key×V)} (e:H a=some (.dK kvs)):TyOf K H (.ref a) (.type "dict")
|dT {a:aE} {kvs:List (List Key×V)} (e:H a=some (.dT kvs)):TyOf K H (.ref a) (.type "dict")
|ins {a C dx:aE} {fs:List (Str×V)} (e:H a=some (.ins C dx fs)) (cl:Cls K C) (ha:a6 K (.ref C) "__class__"=some (some (.builtin "object.__class__")))
   (hn:PySem.W.specialIn K (.builtin "object.__class__") "__get__"=some (some (.builtin "getset_descriptor.__get__"))) (htk:PySem.W.takesIn K (.builtin "object.__class__")=some true)
   (hm:PySem.W.mroIn K C (.type "object")=some true):TyOf K H (.ref a) (.ref C)
theorem zjs{x:V}{t:aC}(I:Inv X pins Y H s)(rx:RelV x u)(ty:TyOf X.K H x t)(e:dI X.K t c=some b)(h:∀tk,Q (.bool b) { s with toks:=tk }) :
  aI (aM X.prog X.w) A (call (.builtin "isinstance") [u,c]) Q E s:=by
 cases ty with
|non=>cases (show u=xI from rx);exact bC PySem.W.kitx_none I.kIn True.intro e (λz=>nomatch z) h
|bl y=>cases (show u=zI y from rx);exact bC PySem.W.kitx_bool I.kIn True.intro e (λz=>nomatch z) h
|int i=>obtain⟨t,q⟩:=(show ∃t,u=y6 i t from rx);cases q;exact bC PySem.W.kitx_int I.kIn True.intro e (λz=>nomatch z) h
|str y=>obtain⟨t,q⟩:=(show ∃t,u=y8 y t from rx);cases q;exact bC PySem.W.kitx_str I.kIn True.intro e (λz=>nomatch z) h
|flt y=>obtain⟨t,q⟩:=(show ∃t,u=z6 y t from rx);cases q;exact bC PySem.W.kitx_float I.kIn True.intro e (λz=>nomatch z) h
|@lst a xs ea =>
  cases (show u=vX a from rx);obtain⟨_,_,n,_,h1⟩:=(show ObjOk X.prog X.w H s.heap a (.lst xs)from I.hok a _ ea)
  exact bC e7 I.kIn ⟨_,h1,rfl⟩ e (λz=>nomatch z) h
|@frz a ob xs ea =>
  cases (show u=vX a from rx);obtain⟨_,_,_,n,_,h1⟩:=(show ObjOk X.prog X.w H s.heap a (.frz ob (.lst xs))from I.hok a _ ea)
  exact bC e7 I.kIn ⟨_,h1,rfl⟩ e (λz=>nomatch z) h
|@tup a xs ea =>
  cases (show u=vX a from rx);obtain⟨_,_,_,p⟩:=(show ObjOk X.prog X.w H s.heap a (.tup xs)from I.hok a _ ea)
  obtain⟨o,h1,h2,_⟩:=p;exact bC gO I.kIn ⟨o,h1,h2⟩ e (λz=>nomatch z) h
|@dK a kvs ea =>
  cases (show u=vX a from rx);obtain⟨_,_,vs,_,p⟩:=(show ObjOk X.prog X.w H s.heap a (.dK kvs)from I.hok a _ ea)
  obtain⟨o,es,ep,h1,h2,_⟩:=p;exact bC gS I.kIn ⟨o,h1,h2.1⟩ e (λz=>nomatch z) h
|@dT a kvs ea =>
  cases (show u=vX a from rx);obtain⟨_,_,xs,_,o,es,ep,h1,h2,_⟩:=(show ObjOk X.prog X.w H s.heap a (.dT kvs)from I.hok a _ ea)
  exact bC gS I.kIn ⟨o,h1,h2.1⟩ e (λz=>nomatch z) h
|@ins a C dx fs ea cl ha hn htk hm =>
  cases (show u=vX a from rx);obtain⟨mA,O,_⟩:=zik I.hok ea;obtain⟨od,J,_⟩:=O.look;exact bC (PySem.W.kitx_own (cl.get _) cl.hd ha hn htk hm) I.kIn J e (λz=>nomatch z) h
end
structure Room(k:Nat)(A:bB):Prop where
 hd:A.handled=none
 dp:A.depth+3 * k+5 < recursionLimit
 gd:A.guards=some []
 un:A.units+16 * k+200 < b7
theorem Room.mono{j k:Nat}(r:Room k A)(h:j<=k):Room j A:=⟨r.hd,by have:=r.dp;lia,r.gd,by have:=r.un;lia⟩
theorem Room.deeper{k:Nat}{A:bB}(r:Room (k+1) A)(env:Env):Room k (A.deeper env) :=
 ⟨r.hd,by have:=r.dp;show A.depth+1+3 * k+5 < _;lia,r.gd,by have:=r.un;show A.units+3+16 * k+200 < _;lia⟩
theorem zwo:(A.under (.builtin "type.__call__" ⟨.ref C :: us,kw⟩)).depth=A.depth+1:=by
 first|rfl|simp[Around.under,Code.weight,Code.isCreation,Code.isGuard,Code.isCaller,Code.frames,Code.isFrame,guardIds]
theorem zno:(A.under (.builtin "type.__call__" ⟨.ref C :: us,kw⟩)).units=A.units+1:=by
 first|rfl|simp[Around.under,Code.cUnits,Code.frames,Code.isFrame]
theorem Room.make{k:Nat}(r:Room (k+1) A)(C:aE)(us:List aC)(kw:List (Str×aC)):Room k (A.under (.builtin "type.__call__" ⟨.ref C :: us,kw⟩)) :=
 ⟨r.hd,by have:=r.dp;rw[zwo];lia,r.gd,by have:=r.un;rw[zno];lia⟩
theorem Room.depth{k:Nat}{A:bB}(r:Room k A):A.depth < recursionLimit:=by have:=r.dp;lia
theorem Room.units{k:Nat}{A:bB}(r:Room k A):A.units+64 < cLine:=by have:=r.un;lia
def tNil:TA:=λ_ H Q=>Q [] H
def zon(ta:TE)(tr:TA):TA:=λY H Q=>ta Y H λx H1=>tr Y H1 λxs H2=>Q (x :: xs) H2
section
variable {X:Cx}{e:aX}{es:List aX}{te:TE}{t:TA}{pos:Pos}
theorem zg0:PA X [] tNil:=λ_ _ _ _ H Q I h=>Calls.spliced_nil ⟨[],H,I,.nil,h⟩
theorem za0(ha:PE X e te)(hr:PA X es t)(hs:aS (e :: es) X.env=(false,a8 e X.env) :: aS es X.env:=by rfl):PA X (e :: es) (zon te t):=by
 intro pos pins s Y H Q I h;rw[hs];show aI _ _ (spliced ((false,a8 e X.env) :: bS pos (aS es X.env))) _ _ s;refine Calls.spliced_cons (thn (ha pins s Y H _ I h) λu s1 hz=>?_);obtain⟨x,H1,I1,r1,q1⟩:=hz;exact thn (hr pos pins s1 Y H1 _ I1 q1) λus s2 ⟨xs,H2,I2,r2,q2⟩=>⟨x :: xs,H2,I2,.cons r1 r2,q2⟩
def tTup(t:TA):TE:=λY H Q=>t Y H λxs H1=>xs.length<=sizeLine/\∀p,H1 p=none->Q (.ref p) (upd H1 p (.tup xs))
def tLst(t:TA):TE:=λY H Q=>t Y H λxs H1=>xs.length<=sizeLine/\∀p,H1 p=none->Q (.ref p) (upd H1 p (.lst xs))
theorem zs61{x1}(h:PA X es t):PE X (.Tuple es x1 pos) (tTup t):=by
 intro pins s Y H Q I hq;refine wpAny_Tuple_spliced (thn (h pos pins s Y H _ I hq) λus s1 ⟨xs,H1,I1,r,z,q⟩=>⟨by rw[<- r.length];exact z,?_⟩);have hf:H1 s1.heap.objs.size=none:=I1.hok.fresh (u7 _);refine⟨.ref s1.heap.objs.size,upd H1 s1.heap.objs.size (.tup xs),I1.laid (t':=s1.toks) (λb u e=>vT _ e) (u7 _) ?_,rfl,q _ hf⟩;exact⟨z,us,r,⟨_,wF _ rfl,rfl,_,rfl⟩⟩
theorem zt71(h:PA X es t):PE X (.List es pos) (tLst t):=by
 intro pins s Y H Q I hq;refine wpAny_List_spliced (thn (h pos pins s Y H _ I hq) λus s1 ⟨xs,H1,I1,r,z,q⟩=>⟨by rw[<- r.length];exact z,?_⟩);have hf:H1 s1.heap.objs.size=none:=I1.hok.fresh (u7 _);refine⟨.ref s1.heap.objs.size,upd H1 s1.heap.objs.size (.lst xs),I1.laid (t':=s1.toks) (λb u e=>vT _ e) (u7 _) ?_,rfl,q _ hf⟩;exact⟨z,us,0,r,wF _ rfl⟩
end
abbrev Sp:=List V->Hp->VK->XK->Prop
abbrev CXT:=List Env->Hp->aH->XK->aC->aH->Prop
structure Env0(P:aN)(w:aQ)(K:Fg)(mg:Str->Option aC)(base:aT)(A:bB)(outer:List Env)(s:aH)(H:Hp):Prop where
 frames:A.frames=some outer
 mod:Mod K mg base
 bs:∀b o,base.get? b=some o->s.heap.get? b=some o/\H b=none
 bsz:base.objs.size<=s.heap.objs.size
 funs:s.heap.FunFrames base outer
 frf:∀b∈frs outer,H b=none
 hok:HOk P w H s.heap
 bare:dS s.gens
def CE(outer:List Env)(P:aN)(w:aQ)(H:Hp)(s:aH)(Q:VK)(u:aC)(s':aH):Prop :=
 ∃v H',s'.os=s.os/\dS s'.gens/\Un (frs outer) [] H H' s.heap s'.heap/\HOk P w H' s'.heap/\RelV v u/\Q v H'
def CR(CX:CXT)(outer:List Env)(P:aN)(w:aQ)(H:Hp)(s:aH)(Q:VK)(E:XK)(r:hV)(s':aH):Prop :=
 match r with
|.ok (.ret u)=>CE outer P w H s Q u s'
|.ok _=>False
|.error e=>CX outer H s E e s'
structure FnOk(P:aN)(w:aQ)(K:Fg)(mg:Str->Option aC)(base:aT)(CX:CXT)(k:Nat)(f:aE)(fd:cH)(ps:List Str)(sp:Sp):Prop where
 len:∀vs H Q E,sp vs H Q E->vs.length=ps.length
 run:∀(A:bB)(outer:List Env)(s:aH)(H:Hp)(args:Args)(us:List aC)(vs:List V)(Q:VK)(E:XK),Room k A->Env0 P w K mg base A outer s H->eK s fd args (ps.zip us)->Vals vs us->sp vs H Q E ->
  dH (aM P w) A (.call (.ref f) args) (CR CX outer P w H s Q E) s
theorem Env0.make{P:aN}{H:Hp}(e:Env0 P w K mg base A outer s H)(C:aE)(us:List aC)(kw:List (Str×aC)) :
  Env0 P w K mg base (A.under (.builtin "type.__call__" ⟨.ref C :: us,kw⟩)) outer s H:=⟨by first|exact e.frames|(simpa[Around.under,Code.envs,Code.isFrame,pushEnvs]using e.frames),e.mod,e.bs,e.bsz,e.funs,e.frf,e.hok,e.bare⟩
section
variable {X:Cx}{pins:List (aE×Obj)}{Y:St}{H:Hp}{s s':aH}
theorem Inv.env0(I:Inv X pins Y H s):Env0 X.prog X.w X.K X.mg X.base X.A X.stack s H :=
 ⟨I.ok.frames,I.ok.mod,I.bs,wZ I.ok.bsz I.sz,I.stack,I.stkFree,I.hok,I.bare⟩
theorem Inv.after{Q:VK}(I:Inv X pins Y H s)(h:CE X.stack X.prog X.w H s Q u s'):EP X pins Y Q u s':=by
 obtain⟨v,H',os,bare,un,hok,r,q⟩:=h;obtain⟨hh,g,d,t,os'⟩:=s';obtain rfl:os'=s.os:=os;exact⟨v,H',I.call (h':=hh) (g':=g) (d':=d) (t':=t) (ch:=[]) un hok bare (λb z=>aJ z (by simp)),r,q⟩
end
def zuz(sp:Sp)(dvs:List V)(E:XK)(t:TA):TE:=λY H Q=>t Y H λvs H1=>sp (vs++dvs) H1 Q E
def zjz(C:aE)(m:Str)(sp:Sp)(dvs:List V)(E:XK)(ta:TE)(t:TA):TE:=λY H Q=>ta Y H λx H1=>∃a dx fs,x=.ref a/\H1 a=some (.ins C dx fs)/\fs.lookup m=none /\
 t Y H1 λvs H2=>sp (x :: (vs++dvs)) H2 Q E
def zb91(C:aE)(sp:Sp)(dvs:List V)(E:XK)(t:TA):TE:=λY H Q=>t Y H λvs H1=>∀x dx,H1 x=none->H1 dx=none->dx≠x ->
 sp (.ref x :: (vs++dvs)) (upd (upd H1 dx (.own x)) x (.ins C dx [])) (λv H2=>v=.non/\Q (.ref x) H2) E
def Binds(K:Fg)(fd:cH)(ps:List Str)(ds:List aC):Prop :=
 ∀(s:aH)(us:List aC),K.In s.heap->(us++ds).length=ps.length->eK s fd ⟨us,[]⟩ (ps.zip (us++ds))
theorem Binds.all{fd:cH}(h:∀us:List aC,us.length=ps.length->gX fd ⟨us,[]⟩=pure (ps.zip us)):Binds K fd ps []:=λs us _ hl=>by
 rw[wN]at hl ⊢;exact .of_eq (h us hl)
def zji(CX:CXT)(X:Cx)(E:XK):Prop:=∀(pins:List (aE×Obj))(Y:St)(H:Hp)(s:aH)(e:aC)(s':aH),Inv X pins Y H s->CX X.stack H s E e s'->X.xe e s'
section
variable {X:Cx}{CX:CXT}{k:Nat}{f C:aE}{fd:cH}{ps:List Str}{sp:Sp}{dvs:List V}{ds:List aC}{E:XK}{x m:Str}{p pos apos:Pos}{e o:aX}{es:List aX}{ta:TE}{t:TA}
theorem zcs{Y:St}{H:Hp}{Q:VK}{vs:List V}(F:FnOk X.prog X.w X.K X.mg X.base CX k f fd ps sp)(hr:Room k X.A)(hb:Binds X.K fd ps ds)(hd:Vals dvs ds)(hx:zji CX X E)
  (I:Inv X pins Y H s) (r:Vals vs us) (h:sp (vs++dvs) H Q E):aI (aM X.prog X.w) X.A (call (.ref f) us) (EP X pins Y Q) X.xe s:=by
 have r2:Vals (vs++dvs) (us++ds):=r.append hd;have hl:(us++ds).length=ps.length:=by rw[<- r2.length];exact F.len _ _ _ _ h
 refine wpAny_call (fF (F.run X.A X.stack s H ⟨us,[]⟩ (us++ds) (vs++dvs) Q E hr I.env0 (hb s us I.kIn hl) r2 h) λr s' hq=>?_);cases r with
|error e=>exact hx pins Y H s e s' I hq
|ok fl =>
  cases fl with
 |ret u=>exact I.after hq
 |next=>exact False.elim hq
 |brk=>exact False.elim hq
 |cont=>exact False.elim hq
theorem zzs(F:FnOk X.prog X.w X.K X.mg X.base CX k f fd ps sp)(hr:Room k X.A)(hg:Gl X x)(hm:X.mg x=some (.ref f))(hk:bH X.K (.ref f)=true)(hb:Binds X.K fd ps ds)(hd:Vals dvs ds)(hx:zji CX X E)
  (ha:PA X (e :: es) t) (hdb:(x == ("__debug__":Str))=false:=by decide) (he:aS (e :: es) X.env=(false,a8 e X.env) :: aS es X.env:=by rfl) (hpl:(bS pos (aS es X.env)).any (·.1)=false:=by rfl) :
  PE X (.Call (.Name x p) (e :: es) [] pos) (zuz sp dvs E t):=by
 walk_at"2";refine dD (zyo I hg hm ?_ hdb);refine dE (h₀:=X.base) I.ok.mod.kin hk (thn (ha pos pins s Y H _ I h) λus s1 ⟨vs,H1,I1,r,q⟩=>⟨I1.kIn,?_⟩) he hpl;exact zcs F hr hb hd hx I1 r q
theorem zh01{pl:Sem Bool}(he:PE X o ta)(c:Cls X.K C)(hm:Meth X.K C m f)(F:FnOk X.prog X.w X.K X.mg X.base CX k f fd ps sp)(hr:Room k X.A)(hb:Binds X.K fd ps ds)(hd:Vals dvs ds)(hx:zji CX X E)(ha:PA X (e :: es) t)
  (hst:aS (e :: es) X.env=(false,a8 e X.env) :: aS es X.env:=by rfl) (hpl:(bS pos (aS es X.env)).any (·.1)=false:=by rfl)
  (ht:a8 (.Call (.Attribute o m apos) (e :: es) [] pos) X.env=(do
   let ov <- a8 o X.env
   eD apos.atName
   let (f,first) <- cX [ov] (dU ov m pl)
   f7 pos f first (bS pos (aS (e :: es) X.env)) (eM pos (cZ [] X.env))):=by rfl) :
  PE X (.Call (.Attribute o m apos) (e :: es) [] pos) (zjz C m sp dvs E ta t):=by
 walk_at"2";refine dW (pl:=pl) (thn (he pins s Y H _ I h) λu s1 hz=>?_) ht;obtain⟨x,H1,I1,rx,a,dx,fs,ex,ea,l,q⟩:=hz;subst ex;obtain rfl:u=vX a:=rx;refine zx9 I1 ea c hm l ?_;refine dE (first:=[.ref a]) (h₀:=X.base) I.ok.mod.kin hm.kp (thn (ha pos pins s1 Y H1 _ I1 q) λus s2 ⟨vs,H2,I2,r,q2⟩=>⟨I2.kIn,?_⟩) hst hpl;exact zcs (us:=.ref a :: us) (vs:=.ref a :: vs) F hr hb hd hx I2 (.cons rfl r) q2
theorem zzy{pl:Sem Bool}(he:PE X o ta)(c:Cls X.K C)(hm:Meth X.K C m f)(F:FnOk X.prog X.w X.K X.mg X.base CX k f fd ps sp)(hr:Room k X.A)(hb:Binds X.K fd ps ds)(hd:Vals dvs ds)(hx:zji CX X E)
  (ht:a8 (.Call (.Attribute o m apos) [] [] pos) X.env=(do
   let ov <- a8 o X.env
   eD apos.atName
   let (f,first) <- cX [ov] (dU ov m pl)
   f7 pos f first (bS pos (aS [] X.env)) (eM pos (cZ [] X.env))):=by rfl) :
  PE X (.Call (.Attribute o m apos) [] [] pos) (zjz C m sp dvs E ta tNil):=by
 walk_at"2";refine dW (pl:=pl) (thn (he pins s Y H _ I h) λu s1 hz=>?_) ht;obtain⟨x,H1,I1,rx,a,dx,fs,ex,ea,l,q⟩:=hz;subst ex;obtain rfl:u=vX a:=rx;refine zx9 I1 ea c hm l ?_;exact PySem.W.callWith_K0 (first:=[.ref a]) I1.kIn hm.kp (zcs (us:=[.ref a]) (vs:=[.ref a]) F hr hb hd hx I1 (.cons rfl .nil) q)
structure Mk(K:Fg)(C f:aE):Prop where
 makes:d9 K C=true
 init:a6 K (.ref C) "__init__"=some (some (.ref f))
 fn:d6 K (.ref f)=true
 kp:bH K (.ref C)=true
theorem zev{Y:St}{H:Hp}{Q:VK}{vs:List V}(M:Mk X.K C f)(F:FnOk X.prog X.w X.K X.mg X.base CX k f fd ps sp)(hr:Room (k+1) X.A)(hb:Binds X.K fd ps ds)(hd:Vals dvs ds)
  (hx:zji CX X E) (I:Inv X pins Y H s) (r:Vals vs us)
  (h:∀x dx,H x=none->H dx=none->dx≠x->sp (.ref x :: (vs++dvs)) (upd (upd H dx (.own x)) x (.ins C dx [])) (λv H2=>v=.non/\Q (.ref x) H2) E) :
  aI (aM X.prog X.w) X.A (call (.ref C) us) (EP X pins Y Q) X.xe s:=by
 have hq:=h (s.heap.objs.size+1) s.heap.objs.size (I.hok.fresh (zJ _)) (I.hok.fresh (u7 _)) (wJ (yU _));have I2:=Inv.made (C:=C) I;have r2:Vals (V.ref (s.heap.objs.size+1) :: (vs++dvs)) (vX (s.heap.objs.size+1) :: (us++ds)):=.cons rfl (r.append hd);have hl:(vX (s.heap.objs.size+1) :: us++ds).length=ps.length:=by
  have e:=r2.length;rw[F.len _ _ _ _ hq]at e;exact e.symm
 refine wpAny_call (zrv (f:=f) I.kIn M.makes M.init (beq_iff_eq.mp M.fn) (fF (F.run _ X.stack _ _ ⟨vX (s.heap.objs.size+1) :: us,[]⟩ (vX (s.heap.objs.size+1) :: (us++ds)) _ _ E (hr.make C us [])
  (I2.env0.make C us []) (hb _ (vX (s.heap.objs.size+1) :: us) I2.kIn hl) r2 hq) λr s' hq'=>?_))
 cases r with
|error e=>exact hx pins Y _ _ e s' I2 hq'
|ok fl =>
  cases fl with
 |ret u =>
   obtain⟨v,H',I3,rv,ev,q3⟩:=I2.after hq';subst ev;exact⟨rv,⟨V.ref (s.heap.objs.size+1),H',I3,rfl,q3⟩⟩
 |next=>exact False.elim hq'
 |brk=>exact False.elim hq'
 |cont=>exact False.elim hq'
theorem zg31(M:Mk X.K C f)(F:FnOk X.prog X.w X.K X.mg X.base CX k f fd ps sp)(hr:Room (k+1) X.A)(hg:Gl X x)(hm:X.mg x=some (.ref C))(hb:Binds X.K fd ps ds)(hd:Vals dvs ds)(hx:zji CX X E)
  (ha:PA X (e :: es) t) (hdb:(x == ("__debug__":Str))=false:=by decide) (he:aS (e :: es) X.env=(false,a8 e X.env) :: aS es X.env:=by rfl) (hpl:(bS pos (aS es X.env)).any (·.1)=false:=by rfl) :
  PE X (.Call (.Name x p) (e :: es) [] pos) (zb91 C sp dvs E t):=by
 walk_at"2";refine dD (zyo I hg hm ?_ hdb);refine dE (h₀:=X.base) I.ok.mod.kin M.kp (thn (ha pos pins s Y H _ I h) λus s1 ⟨vs,H1,I1,r,q⟩=>⟨I1.kIn,?_⟩) he hpl;exact zev M F hr hb hd hx I1 r q
end
structure FnScope(N P:List Str)(sc:dP):Prop where
 kind:sc.kind=.function
 co:sc.isCoroutine=false
 gen:sc.isGenerator=false
 nd:N.Nodup
 pre:N.take P.length=P
 par:∀x∈P,sc.names.lookup x=some .local \/ sc.names.lookup x=some .cell
 nofree:∀y∈sc.names,y.2≠.free
theorem ztj{kindOf:Str->Option bM}{x:Str}:∀{binds:List (Str×aC)}{m:Str->Option aC},(∀v,(x,v) ∉ binds)->fY kindOf binds m x=m x
|[],_,_=>rfl
|(n,v) :: r,m,h=>by
  unfold fY;rw[ztj λw hw=>h w (wB _ hw)];split
  ·have:x≠n:=by rintro rfl;exact h v wP
   simp[this]
  ·rfl
theorem zbk{kindOf:Str->Option bM}{x:Str}:∀{binds:List (Str×aC)}{m:Str->Option aC},(∀v,(x,v) ∉ binds)->fZ kindOf binds m x=m x
|[],_,_=>rfl
|(n,v) :: r,m,h=>by
  unfold fZ;rw[zbk λw hw=>h w (wB _ hw)];split
  ·rfl
  ·have:x≠n:=by rintro rfl;exact h v wP
   simp[this]
theorem znj{kindOf:Str->Option bM}{x:Str}{v:aC}:∀{P:List Str}{vs:List aC}{i:Nat}{m:Str->Option aC},P.Nodup->P[i]?=some x->vs[i]?=some v->kindOf x=some .local ->
  fY kindOf (P.zip vs) m x=some v
|[],_,_,_,_,h,_,_=>by simp at h
|_ :: _,[],_,_,_,_,h,_=>by simp at h
|p :: P,w :: vs,0,m,nd,h1,h2,hk=>by
  simp at h1 h2;subst h1;subst h2;show fY kindOf ((p,w) :: P.zip vs) m p=_;unfold fY;rw[ztj λv hv=>(v7.mp nd).1 (z9 hv).1,aF hk];simp
|p :: P,w :: vs,i+1,m,nd,h1,h2,hk=>by
  show fY kindOf ((p,w) :: P.zip vs) m x=_;unfold fY;exact znj (i:=i) (v7.mp nd).2 (by simpa using h1) (by simpa using h2) hk
theorem zzj{kindOf:Str->Option bM}{x:Str}{v:aC}:∀{P:List Str}{vs:List aC}{i:Nat}{m:Str->Option aC},P.Nodup->P[i]?=some x->vs[i]?=some v->kindOf x≠some .local ->
  fZ kindOf (P.zip vs) m x=some v
|[],_,_,_,_,h,_,_=>by simp at h
|_ :: _,[],_,_,_,_,h,_=>by simp at h
|p :: P,w :: vs,0,m,nd,h1,h2,hk=>by
  simp at h1 h2;subst h1;subst h2;show fZ kindOf ((p,w) :: P.zip vs) m p=_;unfold fZ;rw[zbk λv hv=>(v7.mp nd).1 (z9 hv).1,aA hk];simp
|p :: P,w :: vs,i+1,m,nd,h1,h2,hk=>by
  show fZ kindOf ((p,w) :: P.zip vs) m x=_;unfold fZ;exact zzj (i:=i) (v7.mp nd).2 (by simpa using h1) (by simpa using h2) hk
def start(N:List Str)(vs:List V):St:=vs.map some++vV (N.length - vs.length) none
def cxOf(CX:CXT)(P:aN)(w:aQ)(K:Fg)(mg:Str->Option aC)(base:aT)(N:List Str)(qual:Str)(scope:dP)(f:aE)(cd:aC)(A:bB)(outer:List Env)(s:aH)(H:Hp)(E:XK):Cx where
 prog:=P
 w:=w
 K:=K
 mg:=mg
 base:=base
 A:=A.deeper (cQ qual scope s.heap.objs.size f cd)
 N:=N
 s₀:=s
 H₀:=H
 env:=cQ qual scope s.heap.objs.size f cd
 outer:=outer
 stack:=cQ qual scope s.heap.objs.size f cd :: outer
 ex:=[]
 calm:=true
 fn:=λ_=>true
 pn:=[]
 xe:=λe s'=>aI (aM P w) (A.deeper (cQ qual scope s.heap.objs.size f cd)) (leaving (cQ qual scope s.heap.objs.size f cd) e) (λ_ s''=>CX outer H s E e s'') (λe' s''=>CX outer H s E e' s'') s'
theorem zko{sc:dP}(h:sc.names.lookup x=some .cell):∃c,(bT n sc.names []).lookup x=some c:=by
 have q:=dN sc.names n [] (.inl h);exact xM.mp q
theorem zoq{CX:CXT}{P:aN}{f:aE}{cd:aC}{s1:aH}{H:Hp}{E:XK}{vs:List V}
  (S:FnScope N ps scope) (hd:A.handled=none) (e0:Env0 P w K mg base A outer s H) (hl:vs.length=ps.length) (r:Vals vs us)
  (x:InCallC s s.heap.objs.size (fY (cQ qual scope s.heap.objs.size f cd).kindOf (ps.zip us) λ_=>none) (bT (s.heap.objs.size+1) scope.names []) (fZ (cQ qual scope s.heap.objs.size f cd).kindOf (ps.zip us) λ_=>none) s1) :
  Inv (cxOf CX P w K mg base N qual scope f cd A outer s H E) [] (start N vs) H s1:=by
 have hpl:ps.length<=N.length:=by have:=congrArg kP S.pre;rw[wS]at this;lia
 obtain⟨h1,tk,rfl,hk⟩:=x.done;have noA:∀b:aE,b ∉ (cxOf CX P w K mg base N qual scope f cd A outer s H E).ex:=λb z=>aJ (show b∈([]:List aE)from z) (by simp);refine⟨⟨e0.mod,S.kind,rfl,rfl,u7 _,λy z c h1 h2=>?_,λy hy=>?_,λy c _ h=>?_,λ_=>hd,Around.frames_deeper e0.frames,.inr ⟨rfl,rfl⟩,λb z=>aJ z (noA b),e0.bs,e0.bsz,λb _ _=>noA b,λb z=>aJ z (noA b),e0.funs,e0.frf⟩,
  rfl,e0.bare,Un.kept hk,⟨_,x.toInCall.ns,λi y v h1 h2 h3=>?_⟩,λy c h=>⟨_,x.cell y c h⟩,e0.hok.fresh (u7 _),λy c h=>?_,λp hp=>aJ (show p∈([]:List (aE×Obj))from hp) (by simp),e0.hok.kept hk,?_⟩
 ·exact name_of_addr x.apart (bF h1) (bF h2)
 ·have hy:scope.names.lookup y=some .cell \/ scope.names.lookup y=some .free:=hy;rcases hy with hy|hy
  ·exact zko hy
  ·exact aJ rfl (S.nofree _ (bF hy))
 ·exact yH (x.above y c (bF h))
 ·have hi:i < vs.length:=by
   unfold start at h2;by_cases hi:i < vs.length
   ·exact hi
   ·rw[wL (by simpa using hi)]at h2;rw[xF]at h2;split at h2 <;> cases h2
  have ha:vs[i]?=some v:=by
   unfold start at h2;rw[wO (by simpa using hi),u8]at h2;cases e:vs[i]? with
  |none=>rw[e]at h2;cases h2
  |some a=>rw[e]at h2;cases h2;rfl
  obtain⟨u,hu,rv⟩:=r.get ha;have hp:ps[i]?=some y:=by
   rw[<- S.pre,uaI (by lia)];exact h1
  have ndP:ps.Nodup:=by rw[<- S.pre];exact S.nd.sublist (List.take_sublist _ _)
  refine⟨u,rv,?_⟩;rcases S.par y (wI hp)with k|k
  ·exact .inl ⟨k,znj ndP hp hu k⟩
  ·obtain⟨c,e⟩:=zko (n:=s.heap.objs.size+1) k;refine .inr ⟨.inl k,c,e,?_⟩;have q:=x.cell y c e;rw[zzj ndP hp hu (by show scope.names.lookup y≠_;rw[k];decide)]at q;exact q
 ·exact e0.hok.fresh (yH (x.above y c (bF h)))
 ·unfold start;show _=N.length;rw[vR,u5,yK];lia
theorem zaa1{CX:CXT}{P:aN}{k:Nat}{f:aE}{name:Str}{params:Arguments}{dV kV doc pm cdv ct oc:aC}{an od:Option aE}
  {osl:Array (Option aC)} {sp:Sp} (lk:K.lookup f=some ⟨oc,od,.func (bO name qual params body scope dV kV doc pm an cdv ct),osl⟩) (hcd:cG K cdv qual=true) (S:FnScope N ps scope)
  (len:∀vs H Q E,sp vs H Q E->vs.length=ps.length)
  (hbody:∀(A:bB)(outer:List Env)(s:aH)(H:Hp)(vs:List V)(Q:VK)(E:XK),Room k (A.deeper (cQ qual scope s.heap.objs.size f cdv))->sp vs H Q E ->
   ∃t,PSs (cxOf CX P w K mg base N qual scope f cdv A outer s H E) body t/\t { nx:=λ_ H'=>Q .non H',rt:=Q } (start N vs) H) :
  FnOk P w K mg base CX (k+1) f (bO name qual params body scope dV kV doc pm an cdv ct) ps sp:=by
 refine⟨len,λA outer s H args us vs Q E hr e0 hb r hsp=>?_⟩;have hl:=len _ _ _ _ hsp;have KX:K.In s.heap:=e0.mod.kin.keeps λb o e=>(e0.bs b o e).1;have lim:s.heap.NoLimit:=e0.mod.nolimit.keeps λb o e=>(e0.bs b o e).1;have hkind:∀y∈ps.zip us,scope.names.lookup y.1=some .local \/ (scope.names.lookup y.1=some .cell/\((bT (s.heap.objs.size+1) scope.names []).lookup y.1).isSome=true):=λ⟨n,v⟩ hy=>by
  rcases S.par n (z9 hy).1 with q|q
  ·exact .inl q
  ·exact .inr ⟨q,dN _ _ _ (.inl q)⟩
 refine codeAny_call_function hr.depth (KX _ _ lk) rfl S.co S.gen rfl (PySem.W.codeRec_of KX hcd) (hb _ _ _ _ ?_);refine wpAny_newFunctionEnv_cells S.kind hkind λenv he s1 x=>?_;subst he;refine⟨lim.keeps x.toInCall.keep,codeAny_func ?_⟩;obtain⟨t,ht,hq⟩:=hbody A outer s H vs Q E (hr.deeper _) hsp;have I:Inv (cxOf CX P w K mg base N qual scope f cdv A outer s H E) [] (start N vs) H s1:=zoq S hr.hd e0 hl r x;refine cC (ht [] s1 (start N vs) H _ I hq) (λfl s' hs=>?_) λe s' hs=>hs;have fin:∀{Y':St}{H':Hp}{v:V}{u:aC},Inv (cxOf CX P w K mg base N qual scope f cdv A outer s H E) [] Y' H' s'->RelV v u->Q v H'->CE outer P w H s Q u s' :=
  λ{Y' H' v u} J rv q=>⟨v,H',J.os,J.bare,J.base,J.hok,rv,q⟩
 cases fl with
|ret u =>
  obtain⟨v,Y',H',J,rv,q⟩:=hs;exact fin J rv q
|next =>
  obtain⟨Y',H',J,q⟩:=hs;exact fin (v:=V.non) (u:=xI) J rfl q
|brk =>
  obtain⟨_,_,_,q⟩:=hs;exact False.elim q
|cont =>
  obtain⟨_,_,_,q⟩:=hs;exact False.elim q
section
variable {X:Cx}{x:Str}{p pos:Pos}{e:aX}{es:List aX}{t:TA}{id T:String}{r:List V->Hp->VK->Prop}
def tCB(r:List V->Hp->VK->Prop)(t:TA):TE:=λY H Q=>t Y H λvs H1=>r vs H1 Q
theorem zv0(hc:CallR X (.builtin id) r)(hg:Gl X x)(hm:X.mg x=none)(hv:a9 x=some (.builtin id))(ha:PA X (e :: es) t)(hn:x ≠ "__name__":=by decide)(hdb:(x == ("__debug__":Str))=false:=by decide)
  (he:aS (e :: es) X.env=(false,a8 e X.env) :: aS es X.env:=by rfl) (hpl:(bS pos (aS es X.env)).any (·.1)=false:=by rfl):PE X (.Call (.Name x p) (e :: es) [] pos) (tCB r t):=by
 walk_at"2";refine dD (zhj I hg hm hv ?_ hn hdb);exact iI (thn (ha pos pins s Y H _ I h) λus s1 ⟨vs,H1,I1,r1,q1⟩=>hc pins s1 Y H1 vs us Q I1 r1 q1) he hpl
theorem zk6(hc:CallR X (.type T) r)(hg:Gl X x)(hm:X.mg x=none)(hv:a9 x=some (.type T))(ha:PA X (e :: es) t)(hn:x ≠ "__name__":=by decide)(hdb:(x == ("__debug__":Str))=false:=by decide)
  (he:aS (e :: es) X.env=(false,a8 e X.env) :: aS es X.env:=by rfl) (hpl:(bS pos (aS es X.env)).any (·.1)=false:=by rfl):PE X (.Call (.Name x p) (e :: es) [] pos) (tCB r t):=by
 walk_at"2";refine dD (zhj I hg hm hv ?_ hn hdb);exact bR (thn (ha pos pins s Y H _ I h) λus s1 ⟨vs,H1,I1,r1,q1⟩=>hc pins s1 Y H1 vs us Q I1 r1 q1) he hpl
end
end _2
namespace HT
open PySem PyProof.Rows
variable {hi lo:Option Int}{sl:aE}{vl vu:aC}
section
variable {prog:aN}{w:aQ}{A:bB}{E:aC->aH->Prop}{s:aH}
theorem cat_tup{t b:aE}{vs ws:List aC}{Q:aC->aH->Prop}(ht:iV s.heap t vs.toArray)(hb:iV s.heap b ws.toArray)(hv:vs≠[])
  (h1:ws=[]->Q (.ref t) s) (h2:ws≠[]->Q (.ref s.heap.objs.size) { s with heap:=s.heap.push { cls:=.type "tuple",data:=.seq (vs++ws).toArray } })
  (hsz:vs.length+ws.length<=sizeLine):aI (aM prog w) A (bL .Add (.ref t) (.ref b)) Q E s:=by
 obtain⟨⟨cls,dd,data,sl⟩,ho,hc,n,hd⟩:=id ht;obtain⟨⟨cls2,dd2,data2,sl2⟩,ho2,hc2,n2,hd2⟩:=id hb;simp only at hc hd hc2 hd2;subst hc hd hc2 hd2;have e:vs.toArray++ws.toArray=(vs++ws).toArray:=by simp
 by_cases hw:ws=[]
 ·exact gI ⟨_,ho,rfl⟩ ⟨_,ho2,rfl⟩ g7 seq_tuple_add ğk ğj (ği _ _)
   (tuple_addW1 t b vs.toArray ws.toArray n n2 dd dd2 sl sl2 (by simpa using hv) (by simp[hw])) ⟨ho,ho2,h1 hw⟩
 ·refine gI ⟨_,ho,rfl⟩ ⟨_,ho2,rfl⟩ g7 seq_tuple_add ğk ğj (ği _ _)
   (tuple_addW2 t b vs.toArray ws.toArray n n2 dd dd2 sl sl2 (by simpa using hv) (by simpa using hw) (by rw[v3,v3];exact hsz)) ⟨ho,ho2,?_⟩
  rw[e];exact h2 hw
def sIx(n d:Nat):Option Int->Nat
|none=>d
|some v=>if v < 0 then(v+(n:Int)).toNat else min v.toNat n
theorem sIx_none(n d:Nat):sIx n d none=d:=rfl
theorem sIx_nat(n d k:Nat):sIx n d (some (k:Int))=min k n:=by
 show(if(k:Int) < 0 then((k:Int)+(n:Int)).toNat else min (k:Int).toNat n)=min k n;rw[aA (by lia),vZ]
theorem zk71(n d:Nat)(hd:d<=n)(o:Option Int):sIx n d o<=n:=by
 cases o with
|none=>exact hd
|some v =>
  show(if v < 0 then(v+(n:Int)).toNat else min v.toNat n)<=n;by_cases hv:v < 0
  ·rw[aF hv];lia
  ·rw[aA hv];exact Nat.min_le_right _ _
theorem znt(v:Int)(n d:Nat):(if v < 0 then max (v+(n:Int)) 0 else min v (n:Int))=((sIx n d (some v):Nat):Int):=by
 show(if v < 0 then max (v+(n:Int)) 0 else min v (n:Int))=(((if v < 0 then(v+(n:Int)).toNat else min v.toNat n):Nat):Int)
 by_cases hv:v < 0
 ·simp only[aF hv];lia
 ·simp only[aA hv];lia
theorem zan(lo hi:Option Int)(n:Nat):dB lo hi 1 (n:Int)=(((sIx n 0 lo:Nat):Int),((sIx n n hi:Nat):Int)):=by
 have h1:¬((1:Int) < 0):=by lia
 unfold dB;simp only[h1,if_false];refine Prod.ext ?_ ?_
 ·cases lo with
 |none=>rfl
 |some v=>exact znt v n 0
 ·cases hi with
 |none=>rfl
 |some v=>exact znt v n n
theorem zeo(i j:Nat):cD (i:Int) (j:Int) 1=j - i:=by
 unfold cD;have h1:(1:Int) > 0:=by lia
 simp only[h1,if_true,Int.ediv_one];split <;> lia
theorem zqg{v:aC}{o:Option Int}{Q:Option Int->aH->Prop}(p:fE v o)(h:Q o s):aI (aM prog w) A (iQ v) Q E s:=by
 cases p with
|none=>exact iO h
|int i t=>exact slicePart_int h
theorem zec{n:Nat}{Q:Int×Int×Nat->aH->Prop}(hs:s.heap.IsSliceOf sl vl vu .none)(pl:fE vl lo)(pu:fE vu hi)
  (h:Q (((sIx n 0 lo:Nat):Int),1,sIx n n hi - sIx n 0 lo) s):aI (aM prog w) A (eW (.ref sl) (pure (n:Int))) Q E s:=by
 obtain⟨os,hos,hcs,hds⟩:=id hs;unfold eW iX;refine aG (aG (bJ hos hds (x:=vl) rfl (aG (bJ hos hds (x:=vu) rfl (aG (bJ hos hds (x:=.none) rfl (aK ?_)))))));refine aG (iO ?_);show aI _ _ (if((1:Int) == 0)=true then _ else _) _ _ s;rw[aA (by decide)];refine aG (zqg pl (aG (zqg pu (aG (aK ?_)))));show aI _ _ (match dB lo hi 1 (n:Int)with|(lo,hi)=>pure (lo,(1:Int),cD lo hi 1)) _ _ s;rw[zan lo hi n];show aI _ _ (pure (((sIx n 0 lo:Nat):Int),(1:Int),cD ((sIx n 0 lo:Nat):Int) ((sIx n n hi:Nat):Int) 1)) _ _ s;rw[zeo];exact aK h
theorem ziy(xs:Array aC)(i k:Nat):((u4 k).filterMap λ(m:Nat)=>xs[((i:Int)+(m:Int) * 1).toNat]?).toArray=((xs.toList.drop i).take k).toArray:=by
 have e:(λ(m:Nat)=>xs[((i:Int)+(m:Int) * 1).toNat]?)=λm=>xs[i+m]?:=by
  funext m;have:((i:Int)+(m:Int) * 1).toNat=i+m:=by lia
  rw[this]
 rw[e];have:=pick_run xs i k;rw[uaJ]at this;have e2:((λx=>xs[x]?) ∘ λx=>i+x)=λm=>xs[i+m]?:=rfl;rw[e2]at this;rw[this]
theorem getItem_tuple_cut{t:aE}{items:Array aC}{Q:aC->aH->Prop}(ht:iV s.heap t items)(hs:s.heap.IsSliceOf sl vl vu .none)(pl:fE vl lo)(pu:fE vu hi)
  (hw:¬(sIx items.size 0 lo=0/\sIx items.size items.size hi=items.size))
  (h:Q (.ref s.heap.objs.size) { s with heap:=s.heap.push { cls:=.type "tuple",data:=.seq ((items.toList.drop (sIx items.size 0 lo)).take (sIx items.size items.size hi - sIx items.size 0 lo)).toArray } })
  (hsz:items.size<=sizeLine):aI (aM prog w) A (eI (.ref t) (.ref sl)) Q E s:=by
 have htake:sizeOk (.seq ((items.toList.drop (sIx items.size 0 lo)).take (sIx items.size items.size hi - sIx items.size 0 lo)).toArray):=by
  show((items.toList.drop (sIx items.size 0 lo)).take (sIx items.size items.size hi - sIx items.size 0 lo)).toArray.size<=sizeLine;rw[v3,wS,xV,yI];lia
 have hj:sIx items.size items.size hi<=items.size:=zk71 _ _ (u7 _) hi;obtain⟨os,hos,hcs,hds⟩:=id hs;have hTs:s.TypeIs (.ref sl) "slice":=⟨os,hos,hcs⟩
 unfold eI
 try with_reducible refine cK ?_
 first|refine aG (aK ?_)|skip
 refine aG (wpAny_sequenceKey ht.typeIs (by decide) ?_);refine aG (b6 (name:=xG "__getitem__") ht.typeIs dZ
  (cI dZ ht.typeIs entry_tuple_getitem ?_ (args_tuple_getitem _ _)))
 show aI _ _ (iU (.ref t) >>= _) _ _ s;refine aG (tupleItemsOf_ ht ?_);refine aG (gG hTs ?_);rw[aF (by decide)];refine aG (zec hs pl pu ?_);have hno:¬((((sIx items.size 0 lo:Nat):Int) == 0 && (1:Int) == 1 && (sIx items.size items.size hi - sIx items.size 0 lo) == items.size)=true):=by
  intro q;rw[yV,yV]at q;have q1:((sIx items.size 0 lo:Nat):Int)=0:=eq_of_beq q.1.1;have q2:sIx items.size items.size hi - sIx items.size 0 lo=items.size:=eq_of_beq q.2;exact hw ⟨by lia,by lia⟩
 show aI _ _ (if(((sIx items.size 0 lo:Nat):Int) == 0 && (1:Int) == 1 && (sIx items.size items.size hi - sIx items.size 0 lo) == items.size)=true then _ else _) _ _ s;rw[aA hno,ziy]
 first
 |exact aG (m:=cJ _) (bZ (aK ⟨_,rfl,aK h⟩) htake)
 |exact aG (m:=cJ _) (bZ (aG (aK (aK ⟨_,rfl,aK h⟩))) htake)
 |exact aG (aG (m:=cJ _) (bZ (aK (aK ⟨_,rfl,aK h⟩)) htake))
 |exact aG (aG (m:=cJ _) (bZ (aK ⟨_,rfl,aK h⟩) htake))
end
end HT
namespace _2
open PySem PySem.Spec PyProof.Rows
variable {Y:St}{i:Int}{its us:List aC}{n:Nat}{pins:List (aE×Obj)}{s:aH}{u:aC}{x y:V}
abbrev TO:=St->Hp->(Option Int->Hp->Prop)->Prop
def PO(X:Cx)(e:Option aX)(t:TO):Prop :=
 ∀(pins:List (aE×Obj))(s:aH)(Y:St)(H:Hp)(Q:Option Int->Hp->Prop),Inv X pins Y H s->t Y H Q ->
  aI (aM X.prog X.w) X.A (evalPart e X.env) (λu s'=>∃o H',Inv X pins Y H' s'/\fE u o/\Q o H') X.xe s
def zit:TO:=λ_ H Q=>Q none H
def zbc1(t:TE):TO:=λY H Q=>t Y H λx H1=>∃i,x=.int i/\Q (some i) H1
theorem zyb{ns:List Int}:∀{us:List aC},Vals (ns.map V.int) us->cY us ns:=by
 induction ns with
|nil=>intro us r;rw[yL]at r;cases r;exact .nil
|cons n ns ih =>
  intro us r;rw[v4]at r;cases r with
 |cons r1 r2 =>
   obtain⟨t,e⟩:=r1;subst e;exact .cons n t (ih r2)
section
variable {X:Cx}{e:aX}{te:TE}{lo hi:Option aX}{tl th:TO}{pos p2:Pos}
theorem zqd:PO X none zit:=by
 walk_at"2";rw[evalPart_none];exact aK ⟨none,H,I,.none,h⟩
theorem zg11(h:PE X e te):PO X (some e) (zbc1 te):=by
 intro pins s Y H Q I hw;rw[evalPart_some];refine thn (h pins s Y H _ I hw) λu s1 hz=>?_;obtain⟨x,H1,I1,r1,q1⟩:=hz;obtain⟨i,rfl,q⟩:=q1;obtain⟨t,rfl⟩:=r1;exact⟨some i,H1,I1,.int i t,q⟩
def SlR(X:Cx)(r:V->Option Int->Option Int->Hp->VK->Prop):Prop :=
 ∀(pins:List (aE×Obj))(s:aH)(Y:St)(H:Hp)(x:V)(v vl vu:aC)(lo hi:Option Int)(sl:aE)(Q:VK),Inv X pins Y H s->RelV x v->s.heap.IsSliceOf sl vl vu .none->fE vl lo->fE vu hi->r x lo hi H Q ->
  ∃T id,typeLookup (.type T) "__getitem__"=pure (some (.builtin id))/\s.TypeIs v T/\aI (aM X.prog X.w) X.A (eI v (.ref sl)) (EP X pins Y Q) X.xe s
theorem SlR.or{r r':V->Option Int->Option Int->Hp->VK->Prop}(h:SlR X r)(h':SlR X r'):SlR X (λx lo hi H Q=>r x lo hi H Q \/ r' x lo hi H Q):=by
 intro pins s Y H x v vl vu lo hi sl Q I rx hs pl pu q;rcases q with q|q
 ·exact h pins s Y H x v vl vu lo hi sl Q I rx hs pl pu q
 ·exact h' pins s Y H x v vl vu lo hi sl Q I rx hs pl pu q
def tSl(r:V->Option Int->Option Int->Hp->VK->Prop)(te:TE)(tl th:TO):TE:=λY H Q=>te Y H λx H1=>tl Y H1 λl H2=>th Y H2 λu H3=>r x l u H3 Q
theorem zrc{r:V->Option Int->Option Int->Hp->VK->Prop}(hr:SlR X r)(he:PE X e te)(hl:PO X lo tl)(hu:PO X hi th):PE X (.Subscript e (.Slice lo hi none p2) pos) (tSl r te tl th):=by
 walk_at"2";refine iB (thn (he pins s Y H _ I h) λv s1 hz=>?_);obtain⟨x,H1,I1,r1,q1⟩:=hz;refine wpAny_Slice (thn (hl pins s1 Y H1 _ I1 q1) λvl s2 ⟨l,H2,I2,pl,q2⟩=>thn (hu pins s2 Y H2 _ I2 q2) λvu s3 hz=>?_);obtain⟨u,H3,I3,pu,q3⟩:=hz;rw[evalPart_none];refine aK ?_;have I4:Inv X pins Y H3 { s3 with heap:=s3.heap.push { cls:=.type "slice",data:=.fields #[vl,vu,.none] } }:=I3.kept (t':=s3.toks) λb ob q=>vT _ q;obtain⟨T,id,hT,ht,hg⟩:=hr pins { s3 with heap:=s3.heap.push { cls:=.type "slice",data:=.fields #[vl,vu,.none] } } Y H3 x v vl vu l u s3.heap.objs.size Q I4 r1 (Heap.IsSliceOf.new ..) pl pu q3;show aI (aM X.prog X.w) X.A (subscriptTail e (.Slice lo hi none p2) v (.ref s3.heap.objs.size)) (EP X pins Y Q) X.xe { s3 with heap:=s3.heap.push { cls:=.type "slice",data:=.fields #[vl,vu,.none] } };exact f6 (ops:=[.ref s3.heap.objs.size,v]) ht hT hg (by with_unfolding_all rfl)
def cutV(xs:List V)(lo hi:Option Int):List V:=(xs.drop (HT.sIx xs.length 0 lo)).take (HT.sIx xs.length xs.length hi - HT.sIx xs.length 0 lo)
theorem zfe(xs:List V)(lo hi:Option Int):(cutV xs lo hi).length<=xs.length:=by
 unfold cutV;rw[wS,xV];lia
def rSlT(K:Fg):V->Option Int->Option Int->Hp->VK->Prop:=λx lo hi H Q=>∃a xs,x=.ref a/\SqT K H a xs /\
 ¬(HT.sIx xs.length 0 lo=0/\HT.sIx xs.length xs.length hi=xs.length)/\∀p,H p=none->Q (.ref p) (upd H p (.tup (cutV xs lo hi)))
theorem zq51:SlR X (rSlT X.K):=by
 walk_at"13";obtain⟨a,xs,rfl,hx,hw,q⟩:=h;cases rx;obtain⟨its,r,ht,hz⟩:=I.tuple hx;have hlen:its.toArray.size=xs.length:=by rw[v3];exact r.length.symm
 refine⟨"tuple",_,PyProof.Rows.slot_tuple_getitem.lookup,ht.typeIs,?_⟩;refine HT.getItem_tuple_cut ht hs pl pu (by rw[hlen];exact hw) ?_ (by rw[hlen];exact hz);rw[hlen];refine⟨.ref s.heap.objs.size,_,I.laid (t':=s.toks) (o:=.tup (cutV xs lo hi)) (λb ob q=>vT _ q) (u7 _) ?_,rfl,q _ (I.hok.fresh (u7 _))⟩;exact⟨wZ (zfe xs lo hi) hz,_,(r.drop (HT.sIx xs.length 0 lo)).take (HT.sIx xs.length xs.length hi - HT.sIx xs.length 0 lo),IsTup.new _ _⟩
def zla1(K:Fg):R2:=λx y H Q=>∃a b xs ys,x=.ref a/\y=.ref b/\SqT K H a xs/\SqT K H b ys/\xs≠[]/\xs.length+ys.length<=sizeLine /\
 (ys=[]->Q (.ref a) H)/\(ys≠[]->∀p,H p=none->Q (.ref p) (upd H p (.tup (xs++ys))))
theorem Vals.nil_iff{xs:List V}(r:Vals xs us):us=[] ↔ xs=[]:=by
 cases r with
|nil=>simp
|cons _ _=>simp
theorem zm41:OpR X (bL .Add) (zla1 X.K):=by
 walk_at"0";obtain⟨a,b,xs,ys,rfl,rfl,ha,hb,hx,hz,q1,q2⟩:=h;cases rx;cases ry;obtain⟨its,r1,p1,_⟩:=I.tuple ha;obtain⟨its2,r2,p2,_⟩:=I.tuple hb;refine HT.cat_tup p1 p2 (λz=>hx (r1.nil_iff.mp z)) (λz=>⟨.ref a,H,I,rfl,q1 (r2.nil_iff.mp z)⟩) (λz=>?_) (by rw[<- r1.length,<- r2.length];exact hz);refine⟨.ref s.heap.objs.size,_,I.laid (t':=s.toks) (o:=.tup (xs++ys)) (λb ob q=>vT _ q) (u7 _) ?_,rfl,q2 (λw=>z (r2.nil_iff.mpr w)) _ (I.hok.fresh (u7 _))⟩;exact⟨by rw[vR];exact hz,_,r1.append r2,IsTup.new _ _⟩
end
def ixN(n:Nat)(i:Int):Option Nat:=if 0<=i then(if i < n then some i.toNat else none)else if -(n:Int)<=i then some (i+n).toNat else none
def atI{α:Type}(xs:List α)(i:Int):Option α:=(ixN xs.length i).bind λj=>xs[j]?
theorem zqs{j:Nat}(h:ixN n i=some j):seqIndex? i n=some j/\j < n/\-(n:Int)<=i/\i < n:=by
 unfold ixN at h;by_cases h0:0<=i
 ·rw[aF h0]at h;by_cases h1:i < n
  ·rw[aF h1]at h;have e:i.toNat=j:=wV.inj h;exact⟨by rw[gW h0 h1,e],by lia,by lia,h1⟩
  ·rw[aA h1]at h;cases h
 ·rw[aA h0]at h;by_cases h1:-(n:Int)<=i
  ·rw[aF h1]at h;have e:(i+n).toNat=j:=wV.inj h;exact⟨by rw[gH (by lia) h1,e],by lia,h1,by lia⟩
  ·rw[aA h1]at h;cases h
theorem zcm{α:Type}{xs:List α}{v:α}(h:atI xs i=some v):∃j,seqIndex? i xs.length=some j/\xs[j]?=some v/\j < xs.length/\-(xs.length:Int)<=i/\i < xs.length:=by
 unfold atI at h;cases e:ixN xs.length i with
|none=>rw[e]at h;cases h
|some j =>
  rw[e]at h;obtain⟨h1,h2,h3,h4⟩:=zqs e;exact⟨j,h1,h,h2,h3,h4⟩
theorem zys{α:Type}{xs:List α}{j:Nat}{v:α}(h:xs[j]?=some v):atI xs (j:Int)=some v:=by
 have hj:j < xs.length:=(v8.mp h).1;have e:ixN xs.length (j:Int)=some j:=by
  unfold ixN;rw[aF (by lia),aF (by lia)];simp
 unfold atI;rw[e];exact h
def zot(b:aX):Prop:=∀o i,subscripted b false o i=operate [o,i] (eI o i)
def IxR(X:Cx)(r:R2):Prop :=
 ∀(value slice:aX)(pins:List (aE×Obj))(s:aH)(Y:St)(H:Hp)(x y:V)(v u:aC)(Q:VK),Inv X pins Y H s->RelV x v->RelV y u->r x y H Q ->
  subscripted slice false v u=operate [v,u] (eI v u)->aI (aM X.prog X.w) X.A (subscriptTail value slice v u) (EP X pins Y Q) X.xe s
def MtR(X:Cx)(id:String)(r:V->List V->Hp->VK->Prop):Prop :=
 ∀(pins:List (aE×Obj))(s:aH)(Y:St)(H:Hp)(x:V)(xs:List V)(v:aC)(us:List aC)(Q:VK),Inv X pins Y H s->RelV x v->Vals xs us->r x xs H Q ->
  aI (aM X.prog X.w) X.A (call (.builtin id) (v :: us)) (EP X pins Y Q) X.xe s
section
variable {X:Cx}{a b:aX}{ta tb:TE}{pos:Pos}
theorem IxR.or{r r':R2}(h:IxR X r)(h':IxR X r'):IxR X (λx y H Q=>r x y H Q \/ r' x y H Q):=by
 intro value slice pins s Y H x y v u Q I rx ry q hs;rcases q with q|q
 ·exact h value slice pins s Y H x y v u Q I rx ry q hs
 ·exact h' value slice pins s Y H x y v u Q I rx ry q hs
theorem zsb1{r:R2}(hr:IxR X r)(ha:PE X a ta)(hb:PE X b tb)(hs:zot b):PE X (.Subscript a b pos) (tOp r ta tb):=by
 walk_at"2";exact iB (binT ha hb I h λv u s2 x y H2 I2 rx ry q=>hr a b pins s2 Y H2 x y v u Q I2 rx ry q (hs _ _))
def rIxL(K:Fg):R2:=λx y H Q=>∃p xs i v,x=.ref p/\y=.int i/\SqL K H p xs/\atI xs i=some v/\Q v H
def rIxT(K:Fg):R2:=λx y H Q=>∃p xs i v,x=.ref p/\y=.int i/\SqT K H p xs/\atI xs i=some v/\Q v H
def rIxS:R2:=λx y H Q=>∃z i c,x=.str z/\y=.int i/\z.length<=sizeLine/\atI z.cps.toList i=some c/\Q (.str ⟨#[c]⟩) H
theorem zw11:IxR X (rIxL X.K):=by
 walk_at"9";obtain⟨p,xs,i,z,rfl,rfl,hq,he,q⟩:=h;cases rx;obtain⟨t,rfl⟩:=ry;obtain⟨its,r,pl,hz⟩:=I.list hq;obtain⟨j,h1,h2,h3,h4,h5⟩:=zcm he;obtain⟨w,ew,rw'⟩:=r.get h2;have hl:=r.length;have hn:=zzi;have fin:EP X pins Y Q w s:=⟨z,H,I,rw',q⟩
 by_cases h0:0<=i
 ·have hj:i.toNat=j:=by
   rw[gW h0 h5]at h1;exact wV.inj h1
  exact item_listR pl.isList h0 (by lia) (by rw[hj];simpa using ew) fin hs
 ·have hj:(i+(its.toArray.size:Int)).toNat=j:=by
   rw[gH (by lia) h4]at h1;rw[v3,<- hl];exact wV.inj h1
  exact fS (x:=w) pl.isList.typeIs slot_list_getitem.lookup
   (wpAny_getItem_list_neg (Q:=λr s'=>r=w/\EP X pins Y Q r s') pl.isList (by lia) (by rw[v3] <;> lia) (by lia) (by rw[hj];simpa using ew) ⟨rfl,fin⟩) hs
theorem zc91:IxR X (rIxT X.K):=by
 walk_at"9";obtain⟨p,xs,i,z,rfl,rfl,hq,he,q⟩:=h;cases rx;obtain⟨t,rfl⟩:=ry;obtain⟨its,r,pl,hz⟩:=I.tuple hq;obtain⟨j,h1,h2,h3,h4,h5⟩:=zcm he;obtain⟨w,ew,rw'⟩:=r.get h2;have hl:=r.length;have hn:=zzi;have fin:EP X pins Y Q w s:=⟨z,H,I,rw',q⟩
 exact fS (x:=w) pl.typeIs slot_tuple_getitem.lookup
  (getItem_tuple (j:=j) (Q:=λr s'=>r=w/\EP X pins Y Q r s') pl (by lia) (by lia) (by rw[v3,<- hl];exact h1) (by simpa using ew) ⟨rfl,fin⟩) hs
theorem zu61:IxR X rIxS:=by
 walk_at"9";obtain⟨z,i,c,rfl,rfl,hz,he,q⟩:=h;obtain⟨t,rfl⟩:=rx;obtain⟨t',rfl⟩:=ry;obtain⟨j,h1,h2,h3,h4,h5⟩:=zcm he;have hl:z.cps.toList.length=z.length:=by simp[Str.length]
 rw[hl]at h1 h4 h5;have hn:=zzi;exact f6 (h8 s z t) slot_str_getitem.lookup (getItem_str (c:=c) (by
  have e1:decide (i < -(2 ^ 63:Int))=false:=aY (by lia);have e2:decide (i ≥ 2 ^ 63)=false:=aY (by lia);rw[e1,e2,Bool.or_false]) (by rw[h1];simpa using h2) ⟨.str ⟨#[c]⟩,H,I.tok _,⟨_,rfl⟩,q⟩) hs
def rIx(K:Fg):R2:=λx y H Q=>rIxL K x y H Q \/ rIxT K x y H Q \/ rIxS x y H Q
theorem zi91:IxR X (rIx X.K):=zw11.or (zc91.or zu61)
theorem zun(its:List aC)(n j:Nat)(u:aC):d5 (·.setIfInBounds j u) { cls:=.type "list",data:=.seq its.toArray n }={ cls:=.type "list",data:=.seq (its.set j u).toArray n }:=by
 simp[d5]
theorem Inv.lst{pins:List (aE×Obj)}{Y:St}{H:Hp}{s:aH}{p:aE}{xs:List V}(I:Inv X pins Y H s)(h:H p=some (.lst xs)) :
  ∃(its:List aC)(n:Nat),Vals xs its/\s.heap.get? p=some { cls:=.type "list",data:=.seq its.toArray n }/\xs.length<=sizeLine:=by
 obtain⟨z,its,n,r,e⟩:=I.hok p _ h;exact⟨its,n,r,e,z⟩
theorem Inv.lstUpd{H:Hp}{p:aE}{xs ys:List V}{its its':List aC}{n n':Nat}{f:Obj->Obj}(I:Inv X pins Y H s)(h:H p=some (.lst xs))
  (ho:s.heap.get? p=some { cls:=.type "list",data:=.seq its.toArray n }) (hf:f { cls:=.type "list",data:=.seq its.toArray n }={ cls:=.type "list",data:=.seq its'.toArray n' }) (r:Vals ys its') (hz:ys.length<=sizeLine) (t:Nat) :
  Inv X pins Y (upd H p (.lst ys)) { s with heap:=s.heap.update p f,toks:=t }:=by
 have e:(s.heap.update p f).get? p=some { cls:=.type "list",data:=.seq its'.toArray n' }:=by
  rw[uaK f ho (by rw[hf] <;> rfl),hf]
 refine I.write (x:=p) (e:=p) (by rw[h];trivial) (.inl rfl) (λb u hb q=>(uaL _ _ (Ne.symm hb)).trans q) ⟨_,e⟩ ?_;exact⟨hz,its',n',r,e⟩
def zka1:V->V->V->Hp->(Hp->Prop)->Prop:=λo i v H Q=>∃p xs k j,o=.ref p/\i=.int k/\H p=some (.lst xs)/\ixN xs.length k=some j/\Q (upd H p (.lst (xs.set j v)))
theorem zpv:PSet X zka1:=by
 walk_at"24";obtain⟨p,xs,k,j,rfl,rfl,hp,hj,q⟩:=h;cases ro;obtain⟨t,rfl⟩:=ri;obtain⟨its,n,r,ho,hz⟩:=I.lst hp;obtain⟨h1,h2,h3,h4⟩:=zqs hj;have hl:=r.length;have hn:=zzi;have I':Inv X pins Y (upd H p (.lst (xs.set j v))) { s with heap:=s.heap.update p (d5 (·.setIfInBounds j u)) } :=
  I.lstUpd hp ho (zun its n j u) (r.set rv j) (by rw[wK];exact hz) s.toks
 by_cases h0:0<=k
 ·have hk:k.toNat=j:=by
   rw[gW h0 h4]at h1;exact wV.inj h1
  exact PySem.W.ki_setAt ho h0 (by lia) (by rw[v3,<- hl];exact h4) (by rw[hk];exact⟨_,I',q⟩)
 ·have hk:(k+(its.toArray.size:Int)).toNat=j:=by
   rw[gH (by lia) h3]at h1;rw[v3,<- hl];exact wV.inj h1
  exact PySem.W.ki_setBack ho (by lia) (by rw[v3,<- hl];exact h3) (by lia) (by rw[hk];exact⟨_,I',q⟩)
theorem zaj(lo hi:Option Int)(n:Nat):(bK lo hi none n).1=((HT.sIx n 0 lo:Nat):Int)/\(bK lo hi none n).2.1=((HT.sIx n n hi:Nat):Int)/\(bK lo hi none n).2.2=1:=by
 refine⟨?_,?_,rfl⟩
 ·cases lo with
 |none=>simp[bK,HT.sIx]
 |some i =>
   simp only[bK,HT.sIx,Option.getD_none,show(1:Int) > 0 by decide,if_true];by_cases h:i < 0
   ·simp only[h,if_true] <;> lia
   ·simp only[h,if_false] <;> lia
 ·cases hi with
 |none=>simp[bK,HT.sIx]
 |some i =>
   simp only[bK,HT.sIx,Option.getD_none,show(1:Int) > 0 by decide,if_true];by_cases h:i < 0
   ·simp only[h,if_true] <;> lia
   ·simp only[h,if_false] <;> lia
theorem zsg(its:List aC)(lo hi:Option Int):fN its.toArray lo hi none=((its.drop (HT.sIx its.length 0 lo)).take (HT.sIx its.length its.length hi - HT.sIx its.length 0 lo)).toArray:=by
 obtain⟨h1,h2,h3⟩:=zaj lo hi its.toArray.size;unfold fN;rw[h1,h2,h3];simp only[sliceRange_one,pick_run,v3] <;> rfl
def rSlL(K:Fg):V->Option Int->Option Int->Hp->VK->Prop:=λx lo hi H Q=>∃a xs,x=.ref a/\SqL K H a xs/\∀p,H p=none->Q (.ref p) (upd H p (.lst (cutV xs lo hi)))
theorem zb41:SlR X (rSlL X.K):=by
 walk_at"13";obtain⟨a,xs,rfl,hx,q⟩:=h;cases rx;obtain⟨its,r,ht,hz⟩:=I.list hx;have hlen:=r.length;refine⟨"list",_,slot_list_getitem.lookup,ht.isList.typeIs,?_⟩;refine fH ht.isList hs pl pu .none (by simp) ?_ (by rw[v3] <;> lia);rw[zsg,<- hlen];refine⟨.ref s.heap.objs.size,_,I.laid (t':=s.toks) (o:=.lst (cutV xs lo hi)) (λb ob q=>vT _ q) (u7 _) ?_,rfl,q _ (I.hok.fresh (u7 _))⟩;exact⟨wZ (zfe xs lo hi) hz,_,0,(r.drop (HT.sIx xs.length 0 lo)).take (HT.sIx xs.length xs.length hi - HT.sIx xs.length 0 lo),wF _ rfl⟩
def zaq:V->Bool
|.non=>true
|.bl _=>true
|.int _=>true
|.str _=>true
|_=>false
def eqV:V->V->Bool
|.non,.non=>true
|.bl a,.bl b=>a == b
|.bl a,.int b=>(if a then 1 else 0) == b
|.int a,.bl b=>a == (if b then 1 else 0)
|.int a,.int b=>a == b
|.str a,.str b=>a == b
|_,_=>false
theorem za91{A:bB}{v:aC}(ry:RelV y u)(rx:RelV x v)(fy:zaq y=true)(fx:zaq x=true):i9 A s u v (eqV y x):=by
 cases y with
|non =>
  cases ry;cases x with
 |non=>cases rx;exact SeqAt.EqAt.same _
 |bl b=>cases rx;exact SeqAt.EqAt.none_bool b
 |int b=>obtain⟨t,rfl⟩:=rx;exact SeqAt.EqAt.none_int b t
 |str b=>obtain⟨t,rfl⟩:=rx;exact SeqAt.EqAt.none_str b t
 |_=>exact aJ (show false=true from fx) v5
|bl a =>
  cases ry;cases x with
 |non=>cases rx;exact SeqAt.EqAt.bool_none a
 |bl b=>cases rx;exact SeqAt.EqAt.bool_bool a b
 |int b=>obtain⟨t,rfl⟩:=rx;exact SeqAt.EqAt.bool_int a b t
 |str b=>obtain⟨t,rfl⟩:=rx;exact SeqAt.EqAt.bool_str a b t
 |_=>exact aJ (show false=true from fx) v5
|int a =>
  obtain⟨t',rfl⟩:=ry;cases x with
 |non=>cases rx;exact SeqAt.EqAt.int_none a t'
 |bl b=>cases rx;exact SeqAt.EqAt.int_bool a t' b
 |int b=>obtain⟨t,rfl⟩:=rx;exact SeqAt.EqAt.int_int a t' b t
 |str b=>obtain⟨t,rfl⟩:=rx;exact SeqAt.EqAt.int_str a t' b t
 |_=>exact aJ (show false=true from fx) v5
|str a =>
  obtain⟨t',rfl⟩:=ry;cases x with
 |non=>cases rx;exact SeqAt.EqAt.str_none a t'
 |bl b=>cases rx;exact SeqAt.EqAt.str_bool a t' b
 |int b=>obtain⟨t,rfl⟩:=rx;exact SeqAt.EqAt.str_int a t' b t
 |str b=>obtain⟨t,rfl⟩:=rx;exact SeqAt.EqAt.str_str a t' b t
 |_=>exact aJ (show false=true from fx) v5
|_=>exact aJ (show false=true from fy) v5
def eqU(x:V)(u:aC):Bool:=match u with
|.none=>eqV .non x
|.bool b=>eqV (.bl b) x
|.int i _=>eqV (.int i) x
|.str z _=>eqV (.str z) x
|_=>false
theorem zo11(r:RelV y u)(f:zaq y=true):eqU x u=eqV y x:=by
 cases y with
|non=>cases r;rfl
|bl b=>cases r;rfl
|int i=>obtain⟨t,rfl⟩:=r;rfl
|str z=>obtain⟨t,rfl⟩:=r;rfl
|_=>exact aJ (show false=true from f) v5
theorem ztf{x:V}:∀{xs:List V}{us:List aC},Vals xs us->xs.all zaq=true->us.any (eqU x)=xs.any λy=>eqV y x
|_,_,.nil,_=>rfl
|y :: xs,u :: us,.cons r t,f=>by
  rw[zB,yV]at f;rw[xP,xP,zo11 r f.1,ztf t f.2]
theorem zwb{A:bB}{s:aH}{x:V}{v:aC}(rx:RelV x v)(fx:zaq x=true):∀{xs:List V}{us:List aC},Vals xs us->xs.all zaq=true->∀u∈us,i9 A s u v (eqU x u)
|_,_,.nil,_=>λu hu=>by cases hu
|y :: xs,u :: us,.cons r t,f=>λu' hu=>by
  rw[zB,yV]at f;rcases vW.mp hu with rfl|hu
  ·rw[zo11 r f.1];exact za91 r rx f.1 fx
  ·exact zwb rx fx t f.2 u' hu
def inV(x:V)(xs:List V):Bool:=xs.any λy=>eqV y x
def rIn(K:Fg)(neg:Bool):R2:=λx y H Q=>∃p xs,y=.ref p/\(SqL K H p xs \/ SqT K H p xs)/\zaq x=true/\xs.all zaq=true/\Q (.bl (if neg then !inV x xs else inV x xs)) H
theorem zes:OpR X (a7 .In) (rIn X.K false):=by
 walk_at"0";obtain⟨p,xs,rfl,hq,fx,fs,q⟩:=h;cases ry;rcases hq with hq|hq
 ·obtain⟨its,r,pl,hz⟩:=I.list hq;refine SeqAt.in_listAt (eqU x) pl.isList (λw hw=>zwb rx fx r fs w (by simpa using hw)) ⟨.bl _,H,I,rfl,?_⟩;rw[show its.toArray.any (eqU x)=its.any (eqU x) by simp,ztf r fs];exact q
 ·obtain⟨its,r,pl,hz⟩:=I.tuple hq;refine SeqAt.in_tupleAt (eqU x) pl (λw hw=>zwb rx fx r fs w (by simpa using hw)) ⟨.bl _,H,I,rfl,?_⟩;rw[show its.toArray.any (eqU x)=its.any (eqU x) by simp,ztf r fs];exact q
theorem zqh:OpR X (a7 .NotIn) (rIn X.K true):=by
 walk_at"0";obtain⟨p,xs,rfl,hq,fx,fs,q⟩:=h;cases ry;rcases hq with hq|hq
 ·obtain⟨its,r,pl,hz⟩:=I.list hq;refine SeqAt.notIn_listAt (eqU x) pl.isList (λw hw=>zwb rx fx r fs w (by simpa using hw)) ⟨.bl _,H,I,rfl,?_⟩;rw[show its.toArray.any (eqU x)=its.any (eqU x) by simp,ztf r fs];exact q
 ·obtain⟨its,r,pl,hz⟩:=I.tuple hq;refine SeqAt.notIn_tupleAt (eqU x) pl (λw hw=>zwb rx fx r fs w (by simpa using hw)) ⟨.bl _,H,I,rfl,?_⟩;rw[show its.toArray.any (eqU x)=its.any (eqU x) by simp,ztf r fs];exact q
theorem zei:OpR X (a7 .NotIn) (λx y H Q=>∃i j,x=.str i/\y=.str j/\Q (.bl (!(!(Builtin.Str.occurrences j i 0 j.length 1).isEmpty))) H):=by
 walk_at"0";obtain⟨i,j,rfl,rfl,q⟩:=h;obtain⟨t,rfl⟩:=rx;obtain⟨t',rfl⟩:=ry;exact notIn_str ⟨.bl _,H,I,rfl,q⟩
theorem CallR.or{f:aC}{r r':List V->Hp->VK->Prop}(h:CallR X f r)(h':CallR X f r'):CallR X f (λxs H Q=>r xs H Q \/ r' xs H Q):=by
 intro pins s Y H xs us Q I rs q;rcases q with q|q
 ·exact h pins s Y H xs us Q I rs q
 ·exact h' pins s Y H xs us Q I rs q
theorem zxi:CallR X (.type "list") (λxs H Q=>∃p ys,xs=[.ref p]/\(SqL X.K H p ys \/ SqT X.K H p ys)/\∀l,H l=none->Q (.ref l) (upd H l (.lst ys))):=by
 walk_at"7";obtain⟨p,ys,rfl,hq,q⟩:=h;obtain⟨u,rfl,rx⟩:=zxs r;cases rx;have fin:∀(its:List aC),Vals ys its->ys.length<=sizeLine->∀(h':aT)(c':Nat),(∀b o',s.heap.get? b=some o'->h'.get? b=some o') ->
   h'.get? s.heap.objs.size=some { cls:=.type "list",dict:=none,data:=.seq its.toArray c',slots:=#[] }->EP X pins Y Q (.ref s.heap.objs.size) { s with heap:=h' }:=λits r' hz h' c' kp e =>
  ⟨.ref s.heap.objs.size,_,I.laid (t':=s.toks) kp (u7 _) (show ObjOk X.prog X.w _ h' _ (.lst ys)from⟨hz,its,c',r',e⟩),rfl,q _ (I.hok.fresh (u7 _))⟩
 rcases hq with hq|hq
 ·obtain⟨its,r',pl,hz⟩:=I.list hq;have hlen:=r'.length;obtain⟨o,ho,hc,n,hd⟩:=pl.isList;exact call_list_seq p (.inl rfl) ho hc hd (λh' c' kp e=>fin its r' hz h' c' kp e) (by simp only[v3] <;> lia)
 ·obtain⟨its,r',pl,hz⟩:=I.tuple hq;have hlen:=r'.length;obtain⟨o,ho,hc,n,hd⟩:=pl;exact call_list_seq p (.inr rfl) ho hc hd (λh' c' kp e=>fin its r' hz h' c' kp e) (by simp only[v3] <;> lia)
def tyV(K:Fg)(T:String)(x:V)(H:Hp):Prop:=match x with
|.str _=>T = "str"
|.int _=>T = "int"
|.ref p=>(T = "list"/\∃xs,SqL K H p xs) \/ (T = "tuple"/\∃o,K.lookup p=some o/\o.cls=.type "tuple"/\o.dict=none) \/
   (T = "dict"/\((∃kvs,H p=some (.dK kvs)) \/ ∃kvs,H p=some (.dT kvs))) \/ (T = "set"/\∃S n,H p=some (.set S n))
|_=>False
theorem zz31{H:Hp}{T:String}{v:aC}(I:Inv X pins Y H s)(r:RelV x v)(ty:tyV X.K T x H) :
  s.TypeIs v T/\∀a,v=.ref a->∃ob,s.heap.get? a=some ob/\ob.dict=none:=by
 cases x with
|str z =>
  obtain⟨t,rfl⟩:=r;cases (show T = "str" from ty);exact⟨h8 s z t,λ_ e=>nomatch e⟩
|int i =>
  obtain⟨t,rfl⟩:=r;cases (show T = "int" from ty);exact⟨h9 s i t,λ_ e=>nomatch e⟩
|ref p =>
  cases r;rcases ty with⟨rfl,xs,hq⟩|⟨rfl,o,hk,hc,hd⟩|⟨rfl,hk⟩|⟨rfl,S,n,hk⟩
  ·obtain⟨its,_,pl,_⟩:=I.list hq;refine⟨pl.isList.typeIs,λa e=>?_⟩;cases e;obtain⟨o,n,e,c,hd,_⟩:=pl;exact⟨o,e,hd⟩
  ·refine⟨⟨o,I.kIn p o hk,hc⟩,λa e=>?_⟩;cases e;exact⟨o,I.kIn _ o hk,hd⟩
  ·have z:∃o,s.heap.get? p=some o/\o.ExactDict:=by
    rcases hk with⟨kvs,hk⟩|⟨kvs,hk⟩
    ·obtain⟨_,_,_,_,o,_,_,e,ex,_⟩:=I.hok p _ hk;exact⟨o,e,ex⟩
    ·obtain⟨_,_,_,_,o,_,_,e,ex,_⟩:=I.hok p _ hk;exact⟨o,e,ex⟩
   obtain⟨o,e,ex⟩:=z;refine⟨⟨o,e,ex.1⟩,λa e2=>?_⟩;cases e2;exact⟨o,e,ex.2.1⟩
  ·obtain⟨o,_,_,_,e,ex,_⟩:=I.hok p _ hk;refine⟨⟨o,e,ex.1⟩,λa e2=>?_⟩;cases e2;exact⟨o,e,ex.2.1⟩
|_=>exact False.elim ty
def tBM0(K:Fg)(T:String)(r:V->List V->Hp->VK->Prop)(to:TE):TE:=λY H Q=>to Y H λx H1=>tyV K T x H1/\r x [] H1 Q
def tBM(K:Fg)(T:String)(r:V->List V->Hp->VK->Prop)(to:TE)(t:TA):TE:=λY H Q=>to Y H λx H1=>tyV K T x H1/\t Y H1 λxs H2=>r x xs H2 Q
variable {o e:aX}{es:List aX}{to:TE}{t:TA}{name:Str}{apos cpos:Pos}{T id:String}{r:V->List V->Hp->VK->Prop}
theorem zz51(pa:f9 T)(slot:Slot T name id)(hty:iY (.builtin id)=pure (.type "method_descriptor"))(hm:MtR X id r)(ho:PE X o to)
  (hbase:cL o name X.env (a8 o X.env)=a8 o X.env:=by rfl) (hline:(apos.endLine == cpos.line)=true:=by rfl):PE X (.Call (.Attribute o name apos) [] [] cpos) (tBM0 X.K T r to):=by
 walk_at"2";refine wpAny_Call_method0_late hbase hline (thn (ho pins s Y H _ I h) λv s1 hz=>?_);obtain⟨x,H1,I1,r1,ty,q1⟩:=hz;obtain⟨h1,h2⟩:=zz31 I1 r1 ty;exact⟨T,id,pa,slot,hty,h1,h2,Calls.callWith_builtin rfl (PySem.evalArgs_none (hm pins s1 Y H1 x [] v [] Q I1 r1 .nil q1))⟩
theorem zgc1(pa:f9 T)(slot:Slot T name id)(hty:iY (.builtin id)=pure (.type "method_descriptor"))(hm:MtR X id r)(ho:PE X o to)(ha:PA X (e :: es) t)
  (hbase:cL o name X.env (a8 o X.env)=a8 o X.env:=by rfl)
  (hfew:((bS cpos (aS (e :: es) X.env)).all (λx=>!x.1) && (eM cpos (cZ [] X.env)).all (λx=>x.1.isSome)
   && decide ((e :: es).length+([]:List iK).length+(if([]:List iK).isEmpty then 0 else 1) < 30))=true:=by rfl)
  (hline:(apos.endLine == cpos.line)=true:=by rfl) (hs:aS (e :: es) X.env=(false,a8 e X.env) :: aS es X.env:=by rfl) (hplain:(bS cpos (aS es X.env)).any (·.1)=false:=by rfl) :
  PE X (.Call (.Attribute o name apos) (e :: es) [] cpos) (tBM X.K T r to t):=by
 walk_at"2";refine wpAny_Call_method_late hbase hfew hline rfl (thn (ho pins s Y H _ I h) λv s1 hz=>?_);obtain⟨x,H1,I1,r1,ty,q1⟩:=hz;obtain⟨h1,h2⟩:=zz31 I1 r1 ty;refine⟨T,id,pa,slot,hty,h1,h2,?_⟩;have hA:=ha cpos pins s1 Y H1 _ I1 q1;rw[hs]at hA ⊢;refine Calls.callWith_builtin (by show(false || (bS cpos (aS es X.env)).any (·.1))=false;rw[hplain] <;> rfl) (Calls.evalArgs_plain ?_);exact thn hA λus s2 ⟨vs,H2,I2,r2,q2⟩=>hm pins s2 Y H2 x vs v us Q I2 r1 r2 q2
end
def MtM(X:Cx)(id:String)(r:V->List V->Hp->VK->Prop):Prop :=
 ∀(pins:List (aE×Obj))(s:aH)(Y:St)(H:Hp)(x:V)(xs:List V)(v:aC)(us:List aC)(Q:VK),Inv X pins Y H s->RelV x v->Vals xs us->r x xs H Q ->
  aI (aM X.prog X.w) X.A (call (.builtin id) (v :: us)) (EP X pins Y Q) X.xe s
theorem Vals.one(h:Vals [x] us):∃u,us=[u]/\RelV x u:=by cases h with|cons r t=>cases t;exact⟨_,rfl,r⟩
theorem Vals.two(h:Vals [x,y] us):∃u v,us=[u,v]/\RelV x u/\RelV y v:=by cases h with|cons r t=>cases t with|cons q t=>cases t;exact⟨_,_,rfl,r,q⟩
theorem Vals.zero:∀{us:List aC},Vals [] us->us=[]
|_,.nil=>rfl
theorem Vals.dropLast{xs:List V}{us:List aC}(h:Vals xs us):Vals xs.dropLast us.dropLast:=by
 induction h with
|nil=>exact .nil
|cons r t ih =>
  cases t with
 |nil=>exact .nil
 |cons q t'=>exact .cons r ih
theorem Vals.rep{xs:List V}{us:List aC}(h:Vals xs us):∀k:Nat,Vals (vV k xs).flatten (vV k us).flatten
|0=>.nil
|k+1=>by
  rw[yM,yM,yW,yW];exact Vals.append h (Vals.rep h k)
theorem zwm{α:Type}(l:List α):l.eraseIdx (l.length - 1)=l.dropLast:=by
 induction l with
|nil=>rfl
|cons a r ih =>
  cases r with
 |nil=>rfl
 |cons b r =>
   have e:(a :: b :: r).length - 1=((b :: r).length - 1)+1:=by
    have h1:(a :: b :: r).length=r.length+2:=rfl;have h2:(b :: r).length=r.length+1:=rfl;lia
   rw[e,List.eraseIdx_cons_succ,ih]
   all_goals rfl
theorem zoj(its:List aC):∀(k:Nat)(acc:List aC),
  List.foldl (λx1 x2=>x1++x2) acc.toArray (vV k its.toArray)=(acc++(vV k its).flatten).toArray
|0,acc=>by simp
|k+1,acc=>by
  have e:acc.toArray++its.toArray=(acc++its).toArray:=by simp
  have e2:(acc++its)++(vV k its).flatten=acc++(vV (k+1) its).flatten:=by
   rw[yM,yW,wC]
  rw[<- e2,<- zoj its k (acc++its),<- e,yM,zK]
section
variable {X:Cx}{pins:List (aE×Obj)}{Y:St}{H:Hp}{s:aH}{l b:aE}{xs ys zs:List V}
theorem Inv.lset{its its':List aC}{n:Nat}{f:Array aC->Array aC}{t':Nat}(I:Inv X pins Y H s)(hH:H l=some (.lst xs))
  (e:s.heap.get? l=some { cls:=.type "list",data:=.seq its.toArray n }) (hf:f its.toArray=its'.toArray) (hv:Vals ys its') (hz:ys.length<=sizeLine) :
  Inv X pins Y (upd H l (.lst ys)) { s with heap:=s.heap.update l (d5 f),toks:=t' }:=by
 have q:=PySem.IsL.update e f;rw[hf]at q;refine I.write (x:=l) (e:=l) (by rw[hH];exact trivial) (.inl rfl) (λb' u hb hu=>(uaL s.heap (d5 f) (Ne.symm hb)).trans hu) ⟨_,q⟩ ?_;exact⟨hz,its',_,hv,q⟩
theorem Inv.lnew{t':Nat}(I:Inv X pins Y H s)(hv:Vals ys its)(hz:ys.length<=sizeLine) :
  Inv X pins Y (upd H s.heap.objs.size (.lst ys)) { s with heap:=s.heap.push { cls:=.type "list",data:=.seq its.toArray },toks:=t' } :=
 I.laid (λ_ _ q=>vT _ q) (u7 _) ⟨hz,its,0,hv,wF _ rfl⟩
theorem Inv.fresh(I:Inv X pins Y H s):H s.heap.objs.size=none:=I.hok.fresh (u7 _)
theorem Inv.lstM(I:Inv X pins Y H s)(hH:H l=some (.lst xs)):xs.length<=sizeLine/\∃(its:List aC)(n:Nat),Vals xs its/\xs.length=its.length/\s.heap.get? l=some { cls:=.type "list",data:=.seq its.toArray n }:=by
 obtain⟨z,its,n,r,e⟩:=I.hok l _ hH;exact⟨z,its,n,r,r.length,e⟩
theorem zai(h:n<=sizeLine):bY n=false:=by
 unfold bY;exact aY (by lia)
end
section
variable {X:Cx}
def zut:V->List V->Hp->VK->Prop:=λx vs H Q=>∃l xs y,x=.ref l/\vs=[y]/\H l=some (.lst xs)/\xs.length < sizeLine/\Q .non (upd H l (.lst (xs++[y])))
theorem zk2:MtM X "list.append" zut:=by
 walk_at"16";obtain⟨l,xs,y,rfl,rfl,hH,hz,q⟩:=h;cases rx;obtain⟨u,rfl,ru⟩:=rv.one;obtain⟨z,its,n,r,hl,e⟩:=I.lstM hH;refine d4 F.slot_list_append ⟨_,e,rfl⟩ F.entry_list_append (F.args_list_append_2 _ _) (PySem.list_append l its.toArray n u (by rw[v3];lia)) ⟨e,?_⟩;refine⟨.non,_,I.lset (its':=its++[u]) hH e (by simp) (r.append (.cons ru .nil)) ?_,rfl,q⟩;rw[vR,zC];lia
def rPop:V->List V->Hp->VK->Prop:=λx vs H Q=>∃l xs y,x=.ref l/\vs=[]/\H l=some (.lst xs)/\xs[xs.length - 1]?=some y/\Q y (upd H l (.lst xs.dropLast))
theorem zny:MtM X "list.pop" rPop:=by
 walk_at"16";obtain⟨l,xs,y,rfl,rfl,hH,hy,q⟩:=h;cases rx;have hus:=rv.zero;subst hus;obtain⟨z,its,n,r,hl,e⟩:=I.lstM hH;obtain⟨u,hu,ru⟩:=r.get hy;have hy':its.toArray[its.toArray.size - 1]?=some u:=by
  show its.toArray[its.length - 1]?=some u;rw[<- k6,<- hl];exact hu
 refine d4 F.slot_list_pop ⟨_,e,rfl⟩ F.entry_list_pop (F.args_list_pop_1 _) (MeetsSeq.list_pop_last l its.toArray n u hy' (by rw[v3];lia)) ⟨e,?_⟩;refine⟨y,_,I.lset (its':=its.dropLast) hH e ?_ r.dropLast ?_,ru,q⟩
 ·show its.toArray.eraseIdxIfInBounds (its.toArray.size - 1)=its.dropLast.toArray;rw[v3,List.eraseIdxIfInBounds_toArray,zwm]
 ·rw[List.length_dropLast];lia
def rCat:R2:=λx y H Q=>∃l b xs zs,x=.ref l/\y=.ref b/\H l=some (.lst xs)/\H b=some (.lst zs)/\xs.length+zs.length<=sizeLine/\∀p,H p=none->Q (.ref p) (upd H p (.lst (xs++zs)))
theorem zh61:OpR X (bL .Add) rCat:=by
 walk_at"0";obtain⟨l,b,xs,zs,rfl,rfl,hH,hB,hz,q⟩:=h;cases rx;cases ry;obtain⟨z,its,n,r,hl,e⟩:=I.lstM hH;obtain⟨z2,its2,n2,r2,hl2,e2⟩:=I.lstM hB;refine PySem.P.add_list e e2 ?_ (by rw[v3,v3];lia);have ea:its.toArray++its2.toArray=(its++its2).toArray:=by simp
 rw[ea];exact⟨.ref _,_,I.lnew (t':=s.toks) (r.append r2) (by rw[vR];lia),rfl,q _ I.fresh⟩
def rRep:R2:=λx y H Q=>∃l k xs,x=.ref l/\y=.int k/\H l=some (.lst xs)/\-(2 ^ 63)<=k/\k < 2 ^ 63/\xs.length * k.toNat<=sizeLine /\
 ∀p,H p=none->Q (.ref p) (upd H p (.lst (vV k.toNat xs).flatten))
theorem zk41{α:Type}(xs:List α)(k:Nat):(vV k xs).flatten.length=k * xs.length:=by
 induction k with
|zero=>simp
|succ k ih=>rw[yM,yW,vR,ih,Nat.succ_mul,k7]
theorem zn21:OpR X (bL .Mult) rRep:=by
 walk_at"0";obtain⟨l,k,xs,rfl,rfl,hH,h1,h2,hz,q⟩:=h;cases rx;obtain⟨t,rfl⟩:=ry;obtain⟨z,its,n,r,hl,e⟩:=I.lstM hH;have hlen:its.toArray.size * k.toNat<=sizeLine:=by rw[v3,<- hl];exact hz
 have hcap:¬its.toArray.size * k.toNat > (2 ^ 63 - 1) / 8:=by
  have:(sizeLine:Nat)<=(2 ^ 63 - 1) / 8:=by decide
  lia
 have hfit:¬(!Builtin.List.listFitsIndex k)=true:=by
  rw[fitsIndex_both h1 h2];exact v5
 have hlong:¬bY (its.toArray.size * k.toNat)=true:=by
  rw[zai hlen];exact v5
 have hnew:List.foldl (λx1 x2=>x1++x2) #[] (vV (if its.toArray.isEmpty=true then 0 else k.toNat) its.toArray)=(vV k.toNat its).flatten.toArray:=by
  have f0:∀m:Nat,List.foldl (λx1 x2=>x1++x2) #[] (vV m its.toArray)=(vV m its).flatten.toArray:=λm=>by
   have:=zoj its m [];rw[k8]at this;exact this
  rw[f0];cases its with
 |nil=>simp
 |cons a r'=>rw[aA (by simp)]
 refine wpAny_binaryOp_repeat_ref (T := "list") (U := "int") (by decide) ⟨_,e,rfl⟩ (λs'=>h9 s' k t) noFill_list_mul F.fills_int_mul iH repeat_list F.slot_int_index.lookup
  (d4 iH (h9 s k t) F.entry_int_rmul (F.args_int_rmul_2 _ _) (int___rmul___int_list k t l its.toArray n)
   ⟨e,rfl,⟨_,e,rfl⟩,d4 F.slot_list_mul ⟨_,e,rfl⟩ F.entry_list_mul (F.args_list_mul_2 _ _) (AutoListH.list___mul___list_int_3 l its.toArray n k t hfit hcap hlong) ⟨e,?_⟩⟩)
 rw[hnew];exact⟨.ref _,_,I.lnew (t':=s.toks) (r.rep k.toNat) (by rw[zk41,zL];exact hz),rfl,q _ I.fresh⟩
end
end _2
namespace Att
open PySem PySem.W PySem.Calls PyProof.Rows
variable {n:Nat}
theorem zdd{P:iZ}{h:aT}:∀(ns:List Int)(vs:List aC),WellAll P h vs (ns.map WData.int)->cY vs ns:=by
 intro ns
 induction ns with
|nil =>
  intro vs w;rw[yL]at w;cases w;exact .nil
|cons n ns ih =>
  intro vs w;rw[v4]at w;cases w with
 |cons a b =>
   cases a;exact .cons _ _ (ih _ b)
theorem zgr{l:OpenLaw}(hn:l.most=some n){P:iZ}{h:aT}{args:List WData}{vals:List aC}
  (hpre:l.row.toRowW.claim.pre args=true) (hwl:WellAll P h vals args) :
  ∃a vs ns,vals=[vX a]/\args=[WData.list (ns.map WData.int)]/\h.get? a=some { cls:=.type "list",data:=.seq vs.toArray }/\cY vs ns/\ns.length<=n:=by
 have hsh:WShape.hasAll [] args [.list .int]=true:=(pre_splitW hpre).1;have hc:l.pre.holds [] { args:=args }=true:=(pre_splitW hpre).2;obtain⟨d,r,rfl,h1,h2⟩:=hasAllW_cons hsh;obtain rfl:=hasAllW_nil h2;obtain⟨xs,rfl,h3⟩:=hasW_list h1;obtain⟨ns,rfl⟩:=items_int h3;have hlen:ns.length<=n:=by
  unfold OpenLaw.pre at hc;have h4:(WTm.not (.lt (.lit (.int (n:Int))) (.len (.arg 0)))).holds [] { args:=[.list (ns.map .int)] }=true:=by
   have h4:=(holds_andW hc).1;rw[hn]at h4;exact h4
  have h5:=condW_of h4 (w_not (w_lt w_lit (w_len_list (w_arg rfl))));rw[u5]at h5;refine Nat.le_of_not_lt λq=>?_;have q':(n:Int) < ((ns.length:Nat):Int):=by lia
  first
  |(rw[bN q']at h5;exact aJ h5 (by decide))
  |(simp at h5;lia)
 cases hwl with
|cons w1 w2 =>
  cases w2;cases w1 with
 |list ho hall=>exact⟨_,_,ns,rfl,rfl,ho,zdd ns _ hall,hlen⟩
theorem zbs(l:OpenLaw)(args:List WData):l.row.toRowW.claim.post args (.bool true) args=true :=
 postW_of (r:=l.row.toRowW) (X:=(true == true))
  (show WShape.has [] (.bool true) .bool=true by first|rfl|decide|simp[WShape.has,WShape.arms,WShape.armsAll])
  (show(WTm.eq .res (.lit (.bool true))).value [] { args:=args,res:=some (.bool true),after:=args }=some (.bool (true == true))from w_eq_bool (w_res rfl) w_lit) rfl
theorem attach_call{l:OpenLaw}{q:aN}{loose:List Str}{XP:(Str->Option aC)->aT->Prop}{YP:aQ->aT->Prop}{d:DefRec}
  (hn:l.most=some n) (hdf:d.params.defaults=[])
  (call:∀(w:aQ)(s₀ s₁:aH)(mg mb:Str->Option aC)(fa:aE)(o:Obj)(pm cd doc:aC)(a:aE)(vs:List aC)(ns:List Int),
   Ground q loose [] XP w s₀ mg mb s₁.heap->YP w s₁.heap ->
   s₁.heap.get? fa=some o->o.data=.func (docDef d.name d.params d.body d.scope pm cd doc)->s₁.heap.CodeRec cd d.name->mg d.name=some (.ref fa) ->
   s₁.heap.get? a=some { cls:=.type "list",data:=.seq vs.toArray }->cY vs ns->ns.length<=n->s₁.gens=#[] ->
   dH (aM l.prog w) eJ (.call (.ref fa) ⟨[.ref a],[]⟩) (λr s'=>r=.ok (.ret (.bool true))/\OldK s₁.heap s'.heap/\s'.os=s₁.os/\dS s'.gens) s₁) :
  WalkO q loose XP YP l.row.toRowW d [] (λf vs=>iC f vs):=by
 intro w s₀ s₁ mg mb G Yv fa o pm cd doc dV kV ho hd hcd hD hmg hg args vals as hpre hlay hrd hwl hlo;obtain rfl:dV=.none:=Dflts.none hD hdf;obtain rfl:kV=.none:=Dflts.noKw hD;obtain⟨a,vs,ns,rfl,rfl,hobj,hints,hlen⟩:=zgr hn hpre hwl;refine enter_call (fF (call w s₀ s₁ mg mb fa o pm cd doc a vs ns G Yv ho (fd_plain hd) hcd hmg hobj hints hlen hg) λr s' hq=>?_);obtain⟨rfl,h2,h3,h4⟩:=hq;exact⟨.inl ⟨.bool true,.bool true,[],rfl,λ_=>rfl,.bool true,zbs l _,λ_=>⟨List.Pairwise.nil,λ_ hm=>(nomatch hm)⟩⟩,h2,h3,h4⟩
end Att
namespace _2
open PySem PySem.Spec PyProof.Rows
variable {K:Fg}{a f:aE}{fd:cH}{ps:List Str}{qual x:Str}{sp:Sp}{st:cO}
theorem zpb:∀{vs:List aC}{ns:List Int},cY vs ns->Vals (ns.map V.int) vs
|_,_,.nil=>.nil
|_,_,.cons n t h=>.cons ⟨t,rfl⟩ (zpb h)
def Only(H:Hp):Prop:=∀b,H b=none \/ ∃o xs,H b=some (.frz o (.lst xs))
theorem zxv{P:aN}{w:aQ}{mg mb:Str->Option aC}{CX:CXT}{k:Nat}{fa:aE}{fd:cH}{sp:Sp}{s₁:aH}{vs:List aC}{ns:List Int}
  (KX:K.In s₁.heap) (hns:s₁.heap.Ns aP mg) (hb:s₁.heap.Ns iA mb) (hbb:∀x:Str,x ≠ "__name__"->mb x=a9 x) (hlim:s₁.heap.NoLimit) (hg:s₁.gens=#[])
  (ha:s₁.heap.get? a=some { cls:=.type "list",data:=.seq vs.toArray }) (hi:cY vs ns) (hl:ns.length<=sizeLine) (hr:Room k eJ)
  (F:∀base:aT,K.In base->base.Ns aP mg->FnOk P w K mg base CX k fa fd [x] sp) (hbind:∀(s:aH)(u:aC),eK s fd ⟨[u],[]⟩ [(x,u)])
  (hsp:∀H:Hp,Only H->SqL K H a (ns.map V.int)->sp [.ref a] H (λv _=>v=.bl true) λ_ _ _=>False)
  (hCX:∀H e s',CX [] H s₁ (λ_ _ _=>False) e s'->False) :
  dH (aM P w) eJ (.call (.ref fa) ⟨[.ref a],[]⟩) (λr s'=>r=.ok (.ret (.bool true))/\OldK s₁.heap s'.heap/\s'.os=s₁.os/\dS s'.gens) s₁:=by
 have rv:=zpb hi;have lenV:=hi.length
 -- from an abstract heap in which nothing but the script may be tracked
 have core:∀H:Hp,Only H->SqL K H a (ns.map V.int)->HOk P w H s₁.heap->(∀b,H b≠none->b=a)->(H a≠none->K.lookup a=none) ->
   dH (aM P w) eJ (.call (.ref fa) ⟨[.ref a],[]⟩) (λr s'=>r=.ok (.ret (.bool true))/\OldK s₁.heap s'.heap/\s'.os=s₁.os/\dS s'.gens) s₁:=by
  intro H hO hS hok hA hK;have base_of:∀{b:aE}{o:Obj},s₁.heap.get? b=some o->H b=none->(hidT s₁.heap H).get? b=some o:=λe n=>zgx e n;have noA:∀{b:aE}{o:Obj}{es:Array DictEntry}{ep:Nat},s₁.heap.get? b=some o->o.data=.dict es ep->H b=none:=λ{b o es ep} e d=>by
   cases q:H b with
  |none=>rfl
  |some u =>
    have e':b=a:=hA b (by rw[q];simp);subst e';rw[ha]at e;cases e;have d':Data.seq vs.toArray _=Data.dict es ep:=d;cases d'
  have nsK:∀{b:aE}{m:Str->Option aC},s₁.heap.Ns b m->(hidT s₁.heap H).Ns b m:=λ{b m} ⟨o,es,ep,e,d,r⟩=>⟨o,es,ep,base_of e (noA e d),d,r⟩
  have hKb:K.In (hidT s₁.heap H):=λb o e=>base_of (KX b o e) (by
   cases q:H b with
  |none=>rfl
  |some u =>
    have e':b=a:=hA b (by rw[q];simp);subst e';rw[hK (by rw[q];simp)]at e;cases e)
  have hM:Mod K mg (hidT s₁.heap H):=⟨hKb,nsK hns,⟨mb,nsK hb,hbb⟩,let ⟨mc,h1,h2⟩:=hlim;⟨mc,nsK h1,h2⟩⟩
  have e0:Env0 P w K mg (hidT s₁.heap H) eJ [] s₁ H:=⟨rfl,hM,λb o e=>zh31 e,Nat.le_of_eq (zzr _ _),trivial,λb hb=>aJ (show b∈([]:List aE)from hb) (by simp),hok,.of_eq hg⟩
  refine fF ((F _ hKb (nsK hns)).run eJ [] s₁ H ⟨[.ref a],[]⟩ [.ref a] [.ref a] _ _ hr e0 (hbind s₁ (.ref a)) (.cons rfl .nil) (hsp H hO hS)) λr s' h=>?_;cases r with
 |error e=>exact(hCX H e s' h).elim
 |ok fl =>
   cases fl with
  |next=>exact False.elim h
  |brk=>exact False.elim h
  |cont=>exact False.elim h
  |ret u =>
    obtain⟨v,H',os,bare,un,hok',r',q⟩:=h;have q':v=.bl true:=q;subst q';obtain rfl:u=zI true:=r';refine⟨rfl,OldK.of_keep λb o e=>?_,os,bare⟩;cases q:H b with
   |none=>exact un.keep b o e q (by intro z;exact aJ (show b∈([]:List aE)from z) (by simp)) (by simp)
   |some u =>
     rcases hO b with z|⟨ob,xs,z⟩
     ·rw[q]at z;cases z
     ·have z2:=un.frzs b ob _ z;obtain⟨e1,_⟩:=hok b _ z;obtain⟨e2,_⟩:=hok' b _ z2;rw[e]at e1;cases e1;exact e2
 cases hk:K.lookup a with
|some o =>
  -- the script is one of the module's own objects
  have e:=KX a o hk;rw[ha]at e;cases e;refine core (λ_=>none) (λ_=>.inl rfl) (.inr ⟨_,vs.toArray,_,hk,rfl,rfl,rfl,by rw[v3,lenV];exact hl,by simpa using rv⟩) (λb u z=>by have z':(none:Option HO)=some u:=z;cases z') (λb z=>aJ rfl z) λz=>aJ rfl z
|none =>
  refine core (λb=>if b=a then some (.frz { cls:=.type "list",data:=.seq vs.toArray } (.lst (ns.map V.int)))else none) (λb=>?_) (.inl (.inr ⟨{ cls:=.type "list",data:=.seq vs.toArray },aF rfl⟩)) (λb u z=>?_) (λb z=>?_) λ_=>hk
  ·by_cases hb:b=a
   ·exact .inr ⟨_,_,aF hb⟩
   ·exact .inl (aA hb)
  ·by_cases hb:b=a
   ·have z':=(aF hb).symm.trans z;cases z';subst hb;exact⟨ha,by rw[u5];exact hl,vs,_,rv,ha⟩
   ·have z':=(aA hb).symm.trans z;cases z'
  ·by_cases hb:b=a
   ·exact hb
   ·exact aJ (aA hb) z
theorem walk_of{l:fQ}{n k:Nat}{q:aN}{loose:List Str}{XP:(Str->Option aC)->aT->Prop}{YP:aQ->aT->Prop}{d:DefRec}{K:iZ->Fg}{CX:aQ->CXT}{sp:aQ->Sp} 
  (hn:l.most=some n) (hn2:n<=sizeLine) (hdf:d.params.defaults=[]) (hr:Room k eJ)
  (hY:∀(w:aQ)(h:aT),YP w h->(K w.params).In h)
  (F:∀(w:aQ)(mg:Str->Option aC)(fa:aE)(h:aT),(K w.params).In h->h.Ns aP mg->mg d.name=some (.ref fa) ->
   ∃fd:cH,(∀(s:aH)(u:aC),eK s fd ⟨[u],[]⟩ [(x,u)]) /\
    ∀base:aT,(K w.params).In base->base.Ns aP mg->FnOk l.prog w (K w.params) mg base (CX w) k fa fd [x] (sp w))
  (hsp:∀(w:aQ)(H:Hp)(a:aE)(ns:List Int),ns.length<=n->Only H->SqL (K w.params) H a (ns.map V.int)->sp w [.ref a] H (λv _=>v=.bl true) λ_ _ _=>False)
  (hCX:∀(w:aQ)(H:Hp)(s:aH)(e:aC)(s':aH),CX w [] H s (λ_ _ _=>False) e s'->False) :
  iT q loose XP YP l.row.toRowW d [] (λf vs=>iC f vs):=by
 refine Att.attach_call hn hdf λw s₀ s₁ mg mb fa o pm cd doc a vs ns G Yv ho hd hcd hmg hobj hints hlen hg=>?_;have KX:=hY w _ Yv;obtain⟨fd,hb,hF⟩:=F w mg fa _ KX G.T.g hmg;exact zxv KX G.T.g G.T.b G.T.builtins G.T.nolimit hg hobj hints (wZ hlen hn2) hr hF hb (λH hO hS=>hsp w H a ns hlen hO hS) λH e s'=>hCX w H s₁ e s'
def zm4(s:cO)(j:Nat):Stmt:=match s with
|.ClassDef _ _ _ body _ _ _ _ _ _ _=>body.getD j (.Pass ⟨0,0,0,0⟩)
|_=>.Pass ⟨0,0,0,0⟩
def zw8(s:cO):Arguments:=match s with
|.FunctionDef _ a _ _ _ _ _ _ _ _=>a
|_=>{ posonlyargs:=[],args:=[],vararg:=none,kwonlyargs:=[],kw_defaults:=[],kwarg:=none,defaults:=[] }
def zp3(s:cO):List Stmt:=match s with
|.FunctionDef _ _ b _ _ _ _ _ _ _=>b
|_=>[]
def zh0(s:cO):Scope:=match s with
|.FunctionDef _ _ _ _ _ _ sc _ _ _=>sc
|_=>{ kind:=.function,names:=[],isGenerator:=false,isCoroutine:=false }
abbrev CX0:CXT:=λ_ _ _ _ _ _=>False
abbrev E0:XK:=λ_ _ _=>False
theorem znz{X:Cx}:zji CX0 X E0:=λ_ _ _ _ _ _ _ h=>h.elim
structure Fun(K:Fg)(x qual:Str)(st:cO)(f:aE)(fd:cH):Prop where
 ex:∃(oc:aC)(od:Option aE)(kV doc pm:aC)(an:Option aE)(cdv ct:aC)(osl:Array (Option aC)),
  fd=bO x qual (zw8 st) (zp3 st) (zh0 st) .none kV doc pm an cdv ct/\K.lookup f=some ⟨oc,od,.func fd,osl⟩/\cG K cdv qual=true
 kp:bH K (.ref f)=true
section
variable {P:aN}{w:aQ}{K:Fg}{mg:Str->Option aC}{base:aT}
theorem Fun.ok{N:List Str}{k:Nat}(F:Fun K x qual st f fd)(S:FnScope N ps (zh0 st))(len:∀vs H Q E,sp vs H Q E->vs.length=ps.length)
  (hbody:∀(cdv:aC)(A:bB)(outer:List Env)(s:aH)(H:Hp)(vs:List V)(Q:VK)(E:XK),Room k (A.deeper (cQ qual (zh0 st) s.heap.objs.size f cdv))->sp vs H Q E ->
   ∃t,PSs (cxOf CX0 P w K mg base N qual (zh0 st) f cdv A outer s H E).nox (zp3 st) t/\t { nx:=λ_ H'=>Q .non H',rt:=Q } (start N vs) H):FnOk P w K mg base CX0 (k+1) f fd ps sp:=by
 obtain⟨oc,od,kV,doc,pm,an,cdv,ct,osl,rfl,lk,hcd⟩:=F.ex;refine zaa1 lk hcd S len λA outer s H vs Q E hr hsp=>?_;obtain⟨t,h,q⟩:=hbody cdv A outer s H vs Q E hr hsp;exact⟨t,h.nox,q⟩
theorem Fun.binds(F:Fun K x qual st f fd)
  (h:∀(kV doc pm:aC)(an:Option aE)(cdv ct:aC)(us:List aC),us.length=ps.length->gX (bO x qual (zw8 st) (zp3 st) (zh0 st) .none kV doc pm an cdv ct) ⟨us,[]⟩=pure (ps.zip us)):Binds K fd ps []:=by
 obtain⟨oc,od,kV,doc,pm,an,cdv,ct,osl,rfl,lk,hcd⟩:=F.ex;exact .all (h kV doc pm an cdv ct)
theorem zz11{oc:aC}{od an:Option aE}{osl:Array (Option aC)}{kV doc pm cdv ct:aC}(l:K.lookup f=some ⟨oc,od,.func (bO x qual (zw8 st) (zp3 st) (zh0 st) .none kV doc pm an cdv ct),osl⟩)
  (c:cG K cdv qual=true) (k:bH K (.ref f)=true):Fun K x qual st f (bO x qual (zw8 st) (zp3 st) (zh0 st) .none kV doc pm an cdv ct):=⟨⟨oc,od,kV,doc,pm,an,cdv,ct,osl,rfl,l,c⟩,k⟩
end
section
variable {X:Cx}
theorem pv(i:Nat){pos:Pos}(hN:X.N[i]?=some x:=by rfl)(hv:Vis X.env.scope x:=by first|exact yA rfl|exact xW (yA rfl)|exact xW (xW rfl))(hd:(x == ("__debug__":Str))=false:=by decide)
  (hcd:(x == ("__classdict__":Str))=false:=by decide):PE X (.Name x pos) (tVar i):=zt81 hN hv hd hcd
end
def Same(H H':Hp):Prop:=∀b o,H b=some o->H' b=some o
theorem Same.trans{H H1 H2:Hp}(a:Same H H1)(b:Same H1 H2):Same H H2:=λc o h=>b c o (a c o h)
theorem Same.seq{H H':Hp}{xs:List V}(e:Same H H')(h:SqL K H a xs):SqL K H' a xs:=by
 rcases h with(h|⟨o,h⟩)|h
 ·exact .inl (.inl (e _ _ h))
 ·exact .inl (.inr ⟨o,e _ _ h⟩)
 ·exact .inr h
end _2
namespace _3
open PySem PySem.Spec PyProof.Rows _2
variable {C f:aE}{K:Fg}{N ps:List Str}{X:Cx}{a:aX}{an od:Option aE}{cdv ct doc oc pm:aC}{env:Env}{es:List aX}{fp:List aE}{m qual x:Str}{mg:Str->Option aC}{osl:Array (Option aC)}{pos:Pos}{scope:dP}{sp:Sp}{st:cO}{ta:TE}
abbrev St:=_2.St
def zo6(env:Env):List (Str×bM)->List (Str×aE)->List (Str×aE)
|[],cs=>cs
|(n,k) :: r,cs=>zo6 env r (if k == .free then(match env.cells.lookup n with|some c=>(n,c) :: cs|none=>cs)else cs)
theorem zbc{env:Env}:∀(names:List (Str×bM))(cs:List (Str×aE)),(∀y∈names,y.2=.free->∃c,env.cells.lookup y.1=some c) ->
  (forIn names cs (λ(x:Str×bM)(r:List (Str×aE))=>(match x with|(name,kind)=>if kind == .free then do let c <- cellOf env name;pure (ForInStep.yield ((name,c) :: r))else pure (ForInStep.yield r):Sem (ForInStep (List (Str×aE))))):Sem (List (Str×aE)))=pure (zo6 env names cs)
|[],cs,_=>rfl
|(n,k) :: r,cs,h=>by
  rw[k9];by_cases hk:k=.free
  ·subst hk;obtain⟨c,hc⟩:=h (n,.free) wP rfl;have hc':env.cells.lookup n=some c:=hc;have e1:cellOf env n=pure c:=by unfold cellOf;rw[hc']
   simp only[beq_self_eq_true,if_true,e1];have:=zbc r ((n,c) :: cs) λy hy=>h y (wB _ hy);unfold zo6;simp only[beq_self_eq_true,if_true,hc'];exact this
  ·have hb:(k == bI)=false:=by simpa using hk
   simp only[hb,yB,if_false];have:=zbc r cs λy hy=>h y (wB _ hy);unfold zo6;simp only[hb,yB,if_false];exact this
theorem zkg(h:∀y∈scope.names,y.2=.free->∃c,env.cells.lookup y.1=some c):closureFor scope env=pure (zo6 env scope.names []):=by
 unfold closureFor;show(forIn scope.names [] _ >>= λcs=>pure cs)=_;rw[zbc scope.names [] h];rfl
theorem zbf{env:Env}{x:Str}{c:aE}:∀(names:List (Str×bM))(cs:List (Str×aE)),(∀x c,cs.lookup x=some c->env.cells.lookup x=some c)->(zo6 env names cs).lookup x=some c->env.cells.lookup x=some c
|[],cs,h,e=>h x c e
|(n,k) :: r,cs,h,e=>by
  unfold zo6 at e;refine zbf r _ (λy d q=>?_) e;split at q
  ·split at q
   ·rename_i c' hc'
    rw[wG]at q;split at q
    ·rename_i hy
     cases q;rw[beq_iff_eq.mp hy];exact hc'
    ·exact h y d q
   ·exact h y d q
  ·exact h y d q
theorem zwd{env:Env}{x:Str}:∀(names:List (Str×bM))(cs:List (Str×aE)),(∃c,cs.lookup x=some c)->∃c,(zo6 env names cs).lookup x=some c
|[],cs,h=>h
|(n,k) :: r,cs,⟨c,h⟩=>by
  unfold zo6;refine zwd r _ ?_;split
  ·split
   ·rename_i c' hc'
    rw[wG];split
    ·exact⟨_,rfl⟩
    ·exact⟨c,h⟩
   ·exact⟨c,h⟩
  ·exact⟨c,h⟩
theorem zgc{env:Env}{x:Str}:∀(names:List (Str×bM))(cs:List (Str×aE)),(x,bI)∈names->(∃c,env.cells.lookup x=some c)->∃c,(zo6 env names cs).lookup x=some c
|[],cs,h,_=>nomatch h
|(n,k) :: r,cs,h,⟨c,hc⟩=>by
  rcases vW.mp h with e|h
  ·cases e;unfold zo6;simp only[beq_self_eq_true,if_true,hc];exact zwd r _ ⟨c,by simp[wG]⟩
  ·unfold zo6;exact zgc r _ h ⟨c,hc⟩
theorem zld{env:Env}{x:Str}{c:aE}:∀(names:List (Str×bM))(cs:List (Str×aE)),(zo6 env names cs).lookup x=some c->(x,bI)∈names \/ cs.lookup x=some c
|[],cs,e=>.inr e
|(n,k) :: r,cs,e=>by
  unfold zo6 at e;rcases zld r _ e with q|q
  ·exact .inl (wB _ q)
  ·split at q
   ·rename_i hk
    split at q
    ·rw[wG]at q;split at q
     ·rename_i hy
      rw[beq_iff_eq.mp hy,<- beq_iff_eq.mp hk];exact .inl wP
     ·exact .inr q
    ·exact .inr q
   ·exact .inr q
theorem zz21{x:Str}{c:aE}:∀(names:List (Str×bM))(n:Nat)(acc:List (Str×aE)),(bT n names acc).lookup x=some c->acc.lookup x=some c \/ ((x,cA)∈names/\n<=c)
|[],_,_,e=>.inl e
|(y,k) :: r,n,acc,e=>by
  unfold bT at e;split at e
  ·rename_i hk
   rcases zz21 r (n+1) _ e with q|q
   ·rw[wG]at q;split at q
    ·rename_i hy
     cases q;rw[beq_iff_eq.mp hy,<- beq_iff_eq.mp hk];exact .inr ⟨wP,u7 _⟩
    ·exact .inl q
   ·exact .inr ⟨wB _ q.1,zD q.2⟩
  ·rcases zz21 r n _ e with q|q
   ·exact .inl q
   ·exact .inr ⟨wB _ q.1,q.2⟩
theorem zbw{x:Str}:∀(names:List (Str×bM))(n:Nat)(acc:List (Str×aE)),(x,cA) ∉ names->(bT n names acc).lookup x=acc.lookup x
|[],_,_,_=>rfl
|(y,k) :: r,n,acc,h=>by
  unfold bT;split
  ·rename_i hk
   rw[zbw r _ _ λz=>h (wB _ z),wG];have:(x == y)=false:=by
    refine beq_eq_false_iff_ne.mpr λe=>h ?_;rw[e,<- beq_iff_eq.mp hk];exact wP
   rw[this]
  ·exact zbw r _ _ λz=>h (wB _ z)
theorem zjx:∀(names:List (Str×bM))(n:Nat)(acc:List (Str×aE)),(∀x c,acc.lookup x=some c->c < n)->(∀x y c,acc.lookup x=some c->acc.lookup y=some c->x=y) ->
  ∀x y c,(bT n names acc).lookup x=some c->(bT n names acc).lookup y=some c->x=y
|[],_,_,_,h=>h
|(z,k) :: r,n,acc,hb,h=>by
  unfold bT;split
  ·refine zjx r (n+1) _ (λx c e=>?_) λx y c e1 e2=>?_
   ·rw[wG]at e;split at e
    ·cases e;exact yU _
    ·exact zM (hb x c e)
   ·rw[wG]at e1 e2;by_cases a:(x == z)=true <;> by_cases b:(y == z)=true
    ·rw[beq_iff_eq.mp a,beq_iff_eq.mp b]
    ·rw[a]at e1;rw[j3]at b;rw[b]at e2;cases e1;exact aJ (hb _ _ e2) (w9 _)
    ·rw[b]at e2;rw[j3]at a;rw[a]at e1;cases e2;exact aJ (hb _ _ e1) (w9 _)
    ·rw[j3]at a b;rw[a]at e1;rw[b]at e2;exact h x y c e1 e2
  ·exact zjx r n acc hb h
theorem zsp:∀(names:List (Str×bM))(h:aT)(acc:List (Str×aE)),(∀x c,acc.lookup x=some c->∃v,h.IsCell c v) ->
  ∀x c,(bT h.objs.size names acc).lookup x=some c->∃v,(fO h names).IsCell c v
|[],_,_,p=>p
|(y,k) :: r,h,acc,p=>by
  unfold bT fO;split
  ·have q:=zsp r (h.push { cls:=.type "cell",data:=.cell none }) ((y,h.objs.size) :: acc) (by
    intro x c e;rw[wG]at e;split at e
    ·cases e;exact⟨none,_,wF _ rfl,rfl⟩
    ·obtain⟨v,z⟩:=p x c e;exact⟨v,z.keeps λb o e=>vT _ e⟩)
   rwa [xO]at q
  ·exact zsp r h acc p
theorem zbi{x:Str}{k k':bM}:∀{names:List (Str×bM)},(names.map (·.1)).Nodup->(x,k)∈names->(x,k')∈names->k=k'
|(y,j) :: r,h,a,b=>by
  obtain⟨h1,h2⟩:=v7.mp h;rcases vW.mp a with e|a' <;> rcases vW.mp b with e'|b'
  ·cases e;cases e';rfl
  ·cases e;exact(h1 (vU.mpr ⟨_,b',rfl⟩)).elim
  ·cases e';exact(h1 (vU.mpr ⟨_,a',rfl⟩)).elim
  ·exact zbi h2 a' b'
theorem zlg{M:Model}{A:bB}{E:aC->aH->Prop}{s:aH}{globals:aE}{cl:List (Str×aE)}{qual:Str}{env:Env}{Q:Env->aH->Prop}
  (h:Q { scope,locals:=s.heap.objs.size,globals,cells:=bT (s.heap.objs.size+1) scope.names cl,qual,func:=none,code:=env.code,frame:=env.frame,builtins:=env.builtins } { s with heap:=fO (s.heap.push { cls:=.type "dict",data:=.dict #[] }) scope.names }) :
  aI M A (fV scope globals cl [] qual none .none (some env)) Q E s:=by
 simp only[fV,uaM,if_true];refine aG (wpAny_alloc ?_);refine aG (wpAny_layCells _ (λname kind cells=>by cases hkc:kind == cA <;> simp[hkc]) _ _ _ _ ?_);rw[show({ s with heap:=s.heap.push { cls:=.type "dict",data:=.dict #[] } }:aH).heap.objs.size=s.heap.objs.size+1 from xO ..];rw[j4];exact aG (aK (aK h))
section
variable {prog:aN}{w:aQ}{A:bB}{R:hV->aH->Prop}{s:aH}
theorem zhi{elt target iter:aX}{ifs:List aX}{it acc:aC}(I:Nat->aH->Prop)
  (turn:∀n s,I n s->aI (aM prog w) A (fT it) (λr s₁=>match r with
  |none=>R (.ok .next) s₁
  |some v=>aI (aM prog w) A (d8 target it v) (λ_ s₁'=>aI (aM prog w) A (eS target env v) (λ_ s₂ =>
     aI (aM prog w) A (forIn ifs true λc r=>if r=true then do let ok <- gF c env (a8 c env);pure (ForInStep.yield ok)else pure (ForInStep.yield r)) (λok s₃ =>
      if ok=true then aI (aM prog w) A (a8 elt env) (λx s₄ =>
       aI (aM prog w) A (call (.builtin "list.append") [acc,x]) (λ_ s₅=>∃m,m < n/\I m s₅) (fU (aM prog w) A env λe s'=>R (.error e) s') s₄) (fU (aM prog w) A env λe s'=>R (.error e) s') s₃
      else ∃m,m < n/\I m s₃) (fU (aM prog w) A env λe s'=>R (.error e) s') s₂) (fU (aM prog w) A env λe s'=>R (.error e) s') s₁') (fU (aM prog w) A env λe s'=>R (.error e) s') s₁) (fU (aM prog w) A env λe s'=>R (.error e) s') s)
  (n:Nat) (h:I n s) :
  dH (aM prog w) A (.compLoop (.ListComp elt [⟨target,iter,ifs,0⟩] scope pos) 0 it acc env) R s:=by
 refine codeAny_loop rfl I (λn s hI=>?_) n h;show aI _ A ((compTurn (.ListComp elt [⟨target,iter,ifs,0⟩] scope pos) 0 it acc env).onRaise (λx=>do noteFrame x env;theTreesLotGoes x)) _ _ s;refine wpAny_noted ?_;rw[compTurn_list];refine aG (gB (aG (cC (turn n s hI) (λr s₁ h₁=>?_) λ_ _ h'=>h')));cases r with
|none=>exact aK h₁
|some v =>
  refine aG (cC h₁ (λ_ s₁' h₁'=>?_) λ_ _ h'=>h');refine aG (cC h₁' (λ_ s₂ h₂=>aG (cC h₂ (λok s₃ h₃=>?_) λ_ _ h'=>h')) λ_ _ h'=>h');cases ok with
 |false=>exact aK ⟨rfl,h₃⟩
 |true =>
   exact aG (aG (cC h₃ (λx s₄ h₄=>aG (cC h₄ (λ_ s₅ h₅=>aK (aK ⟨rfl,h₅⟩)) λ_ _ h'=>h')) λ_ _ h'=>h'))
end
abbrev zjr(X:Cx)(scope:dP)(C:aE):List (Str×aE):=bT (C+1) scope.names (zo6 X.env scope.names [])
def zx7(X:Cx)(scope:dP)(N:List Str)(s₀:aH)(H₀:Hp)(C:aE)(fp:List aE):Cx where
 prog:=X.prog
 w:=X.w
 K:=X.K
 mg:=X.mg
 base:=X.base
 A:=X.A
 N:=N
 s₀:=s₀
 H₀:=H₀
 env:=compEnvC scope (zjr X scope C) C X.env
 outer:=X.stack
 stack:=X.stack
 ex:=fp
 fn:=λx=>decide (scope.names.lookup x=some .cell)
 calm:=X.calm
 pn:=[]
 xe:=λ_ _=>False
def zqf(N:List Str)(own:List Str)(ix:List Nat):List Str:=own++ix.map λi=>N.getD i ""
def compY(n:Nat)(ix:List Nat)(Y:St):St:=vV n none++ix.map λi=>Y.getD i none
structure CompSc(sc:dP)(N own:List Str)(ix:List Nat)(scope:dP):Prop where
 kind:scope.kind=.function
 cell:(scope.names.map (·.1)).Nodup
 names:∀y∈scope.names,y.2=.local->scope.names.lookup y.1=some .local
 free:∀y∈scope.names,y.2=.free->sc.names.lookup y.1=some .cell \/ sc.names.lookup y.1=some .free
 caps:∀i∈ix,i < N.length/\scope.names.lookup (N.getD i "")≠some .local/\scope.names.lookup (N.getD i "")≠some .cell
theorem zfc{env : Env}{x : Str} : ∀(names : List (Str × bM)),
    ((names.map fun (n, k) => if(k == bI && env.scope.kind == .function && env.kindOf n == some .cell)then(n, cA)else(n, k)).lookup x = some .cell ∨
     (names.map fun (n, k) => if(k == bI && env.scope.kind == .function && env.kindOf n == some .cell)then(n, cA)else(n, k)).lookup x = some .free) → names.lookup x = some .free ∨ names.lookup x = some .cell
  | [], h => by rcases h with h | h <;> cases h
  | (n, k) :: r, h => by
    have ih := zfc (env := env) (x := x) r;rw[v4]at h;by_cases hx : (x == n) = true
    · rw[wG, hx];dsimp only at h ⊢;by_cases hcc : (k == bI && env.scope.kind == .function && env.kindOf n == some .cell) = true
      · have : k = .free := by
          have := (uaN.mp (uaN.mp hcc).1).1;exact beq_iff_eq.mp this
        rw[this]; exact .inl rfl
      · rw[aA hcc, wG, hx]at h;exact h.symm
    · have hx' : (x == n) = false := by simpa using hx
      rw[wG, hx'];refine ih ?_;by_cases hcc : (k == bI && env.scope.kind == .function && env.kindOf n == some .cell) = true
      · simp only[hcc, if_true]at h;rw[wG, hx']at h;exact h
      · simp only[hcc, yB, if_false]at h;rw[wG, hx']at h;exact h
section
variable {X:Cx}{pins:List (aE×Obj)}{Y:St}{H H':Hp}{s:aH}
theorem zxx{own:List Str}{ix:List Nat}{h₁:aT}{m:Str->Option aC}{t':Nat}(I:Inv X pins Y H s)(S:CompSc X.env.scope X.N own ix scope)
  (hns:h₁.Ns s.heap.objs.size m) (kc:∀x c,(zjr X scope s.heap.objs.size).lookup x=some c->∃v,h₁.IsCell c v) (k:∀b o,s.heap.get? b=some o->h₁.get? b=some o) (hf:∀b∈fp,FpOk X pins H b) (hfo:∀b∈fp,b < s.heap.objs.size) :
  Inv (zx7 X scope (zqf X.N own ix) s H s.heap.objs.size fp) [] (compY own.length ix Y) H { s with heap:=h₁,toks:=t' }:=by
 have hcl:∀x c,(zo6 X.env scope.names []).lookup x=some c->X.env.cells.lookup x=some c:=λx c e=>zbf scope.names [] (λ_ _ q=>by cases q) e;have hcl2:∀x c,(zjr X scope s.heap.objs.size).lookup x=some c->X.env.cells.lookup x=some c \/ s.heap.objs.size+1<=c:=λx c e=>(zz21 _ _ _ e).imp (hcl x c) And.right;have hfree:∀x,((eE scope X.env).names.lookup x=some .cell \/ (eE scope X.env).names.lookup x=some .free)->scope.names.lookup x=some .free \/ scope.names.lookup x=some .cell:=λx hx=>zfc scope.names hx;have hX:∀x,scope.names.lookup x=some .free->X.env.kindOf x=some .cell \/ X.env.kindOf x=some .free:=λx hx=>S.free (x,.free) (bF hx) rfl;refine⟨⟨I.ok.mod,S.kind,I.ok.glob,I.ok.blt,u7 _,zjx _ _ _ (λx c e=>?_) (λx y c e1 e2=>I.ok.inj x y c (hcl x c e1) (hcl y c e2)),λx hx=>?_,λx c z e=>?_,I.ok.hd,I.ok.frames,.inl rfl,λb hb=>?_,I.bs,wZ I.ok.bsz I.sz,λb o e hb=>?_,λb hb hs=>?_,I.stack,I.stkFree⟩,
  rfl,I.bare,Un.kept k,⟨m,hns,λi x v e1 e2 e3=>?_⟩,kc,I.hok.fresh (u7 _),λx c e=>(hcl2 x c e).elim (I.freeC x c) (λz=>I.hok.fresh (zD z)),λp hp=>aJ (show p∈([]:List (aE×Obj))from hp) (by simp),I.hok.kept k,?_⟩
 ·obtain⟨v,z⟩:=I.cell x c (hcl x c e);exact zM z.lt
 ·refine xM.mp (dN _ _ _ ?_);rcases hfree x hx with hx1|hx1
  ·exact .inr (xM.mpr (zgc scope.names [] (bF hx1) (I.ok.has x (hX x hx1))))
  ·exact .inl hx1
 ·rcases zz21 _ _ _ e with q|q
  ·rcases zld _ _ q with q|q
   ·have:=zbi S.cell (bF (dL z)) q;cases this
   ·cases q
  ·exact zD q.2
 ·exact⟨wJ (hfo b hb),λx c e=>(hcl2 x c e).elim ((hf b hb).2.2.2.2.1 x c) λz e2=>aJ (wW (hfo b hb) (zD (e2 ▸ z))) (w9 _)⟩
 ·rcases(hf b hb).2.2.2.1 with z|z
  ·exact I.ok.noex b o e z
  ·exact aJ (wW (vY e) (wZ I.ok.bsz z)) (w9 _)
 ·rcases vW.mp (I.stkSub b hs)with z|z
  ·exact(hf b hb).2.1 z
  ·exact(hf b hb).2.2.1 z
 ·-- a captured name
  have e2':(vV own.length (none:Option V)++ix.map λi=>Y.getD i none)[i]?=some (some v):=e2;have e1':(own++ix.map λi=>X.N.getD i "")[i]?=some x:=e1;by_cases hi:i < own.length
  ·rw[wO (by simpa using hi),xF]at e2';split at e2' <;> cases e2'
  ·have hi':own.length<=i:=Nat.le_of_not_lt hi;rw[wL (by simpa using hi'),yK,u8]at e2';rw[wL hi',u8]at e1';cases hq:ix[i - own.length]? with
  |none=>rw[hq]at e2';cases e2'
  |some q =>
    rw[hq]at e1' e2';have ex:X.N.getD q ""=x:=wV.inj e1';have ev:Y.getD q none=some v:=wV.inj e2';obtain⟨hql,hnl⟩:=S.caps q (wI hq);rw[ex]at hnl;have hnc:=hnl.2
    replace hnl:=hnl.1
    have e3':(eE scope X.env).names.lookup x=some .local \/ (eE scope X.env).names.lookup x=some .cell \/ (eE scope X.env).names.lookup x=some .free:=e3;have hcf:(eE scope X.env).names.lookup x=some .cell \/ (eE scope X.env).names.lookup x=some .free:=by
     rcases e3' with z|z
     ·exfalso;cases hs:scope.names.lookup x with
     |none =>
       have:∀(names:List (Str×bM)),names.lookup x=none->(names.map λ(n,k)=>if(k == bI && X.env.scope.kind == .function && X.env.kindOf n == some .cell)then(n,cA)else(n,k)).lookup x=none:=by
        intro names
        induction names with
       |nil=>intro _;rfl
       |cons y r ih =>
         obtain⟨n,kk⟩:=y;intro hh;rw[wG]at hh;by_cases hxn:(x == n)=true
         ·rw[hxn]at hh;cases hh
         ·have hx':(x == n)=false:=by simpa using hxn
          rw[hx']at hh;rw[v4];by_cases hcc:(kk == bI && X.env.scope.kind == .function && X.env.kindOf n == some .cell)=true
          ·simp only[hcc,if_true];rw[wG,hx'];exact ih hh
          ·simp only[hcc,yB,if_false];rw[wG,hx'];exact ih hh
       have q0:=this scope.names hs;have z':(scope.names.map λ(n,k)=>if(k == bI && X.env.scope.kind == .function && X.env.kindOf n == some .cell)then(n,cA)else(n,k)).lookup x=some .local:=z;rw[q0]at z';cases z'
     |some kk =>
       have:∀(names:List (Str×bM)),names.lookup x=some kk->(names.map λ(n,k)=>if(k == bI && X.env.scope.kind == .function && X.env.kindOf n == some .cell)then(n,cA)else(n,k)).lookup x=some .local->kk=.local:=by
        intro names
        induction names with
       |nil=>intro h;cases h
       |cons y r ih =>
         obtain⟨n,k2⟩:=y;intro hh hz;rw[wG]at hh;rw[v4]at hz;by_cases hxn:(x == n)=true
         ·rw[hxn]at hh;have hk2:k2=kk:=wV.inj hh;by_cases hcc:(k2 == bI && X.env.scope.kind == .function && X.env.kindOf n == some .cell)=true
          ·simp only[hcc,if_true]at hz;rw[wG,hxn]at hz;cases hz
          ·simp only[hcc,yB,if_false]at hz;rw[wG,hxn]at hz;rw[<- hk2];exact wV.inj hz
         ·have hx':(x == n)=false:=by simpa using hxn
          rw[hx']at hh;by_cases hcc:(k2 == bI && X.env.scope.kind == .function && X.env.kindOf n == some .cell)=true
          ·simp only[hcc,if_true]at hz;rw[wG,hx']at hz;exact ih hh hz
          ·simp only[hcc,yB,if_false]at hz;rw[wG,hx']at hz;exact ih hh hz
       have:=this scope.names hs z;rw[this]at hs;exact hnl hs
     ·exact z
    have hfr:=(hfree x hcf).resolve_right hnc;have hkX:=hX x hfr;obtain⟨mX,hnX,hlX⟩:=I.loc;have eN:X.N[q]?=some x:=by
     rw[<- ex,v6];rw[u6 hql];rfl
    have eY:Y[q]?=some (some v):=by
     rw[v6]at ev;cases hs:Y[q]? with
    |none=>rw[hs]at ev;cases ev
    |some o=>rw[hs]at ev;exact congrArg some ev
    obtain⟨u,r,l⟩:=hlX q x v eN eY (.inr hkX);refine⟨u,r,.inr ⟨hcf,?_⟩⟩;rcases l with⟨hk,_⟩|⟨_,c,ec,hcell⟩
    ·exfalso;rcases hkX with z|z
     ·rw[hk]at z;cases z
     ·rw[hk]at z;cases z
    ·obtain⟨c',ec'⟩:=zgc scope.names [] (bF hfr) ⟨c,ec⟩;have:=hcl x c' ec';rw[ec]at this;cases this;exact⟨c,(zbw _ _ _ λz=>by cases zbi S.cell z (bF hfr)).trans ec',hcell.keeps k⟩
 ·show(compY own.length ix Y).length=(zqf X.N own ix).length;unfold compY zqf;simp
theorem zzm{pins':List (aE×Obj)}{Y':St}{s':aH}{h'':aT}(I:Inv X pins Y H s)(hf:∀b∈fp,FpOk X pins H b)
  (I':Inv (zx7 X scope N s H s.heap.objs.size fp) pins' Y' H' s') (sb:bD s.heap.objs.size s'.heap h''):Inv X pins Y H' { s' with heap:=h'' }:=by
 have ext:∀b o,b≠s.heap.objs.size->s'.heap.get? b=some o->h''.get? b=some o:=λb o nb e=>by rw[sb.2 b nb];exact e
 have old:∀b o,s.heap.get? b=some o->b≠s.heap.objs.size:=λb o e=>wJ (vY e);have u:=I'.base;refine I.call' (ch:=fp) I'.os ⟨λb o e n hb hx=>ext b o (old b o e) (u.keep b o e n hb hx),λb o e n hb hx=>?_,u.free,λb o e hx=>?_,u.tups,u.frzs,u.tbls⟩ (λb ob e=>?_) I'.bare λb hb=>⟨(hf b hb).2.2.2.1,(hf b hb).2.1,(hf b hb).2.2.2.2.1,(hf b hb).2.2.2.2.2⟩
 ·obtain⟨sl,q⟩:=u.slot b o e n hb hx;exact⟨sl,ext b _ (old b o e) q⟩
 ·obtain⟨o',q⟩:=u.there b o e hx;exact⟨o',ext b _ (old b o e) q⟩
 ·have nC:∀c v,H' c=some v->c≠s.heap.objs.size:=λc v q z=>by
   have:=I'.free;rw[z]at q;have z2:H' s.heap.objs.size=none:=this;rw[z2]at q;cases q
  refine(I'.hok b ob e).stay (λc v hc q=>ext c v ?_ q) (λ_ q=>q) λ_ _ q=>q;rcases hc with z|z
  ·rw[z];exact nC b ob e
  ·exact nC c _ z
end
def zma1(n:Nat)(ix:List Nat)(g:TG)(tt:TT)(te:TE)(Y:St)(J:It)(H1:Hp)(Q:VK):Prop:=∀D,H1 D=none->∃W:Nat->Nat->List V->St->Hp->Prop,(∃m,W 0 m [] (compY n ix Y) (upd H1 D (.lst []))) /\
 ∀i m acc Y' H',W i m acc Y' H'->(J.stop i H'/\Q (.ref D) H') \/ (J.go i H'/\∃N:List V->St->Hp->Prop,(∀acc' Y2 H2,N acc' Y2 H2->∃m',m' < m/\W (i+1) m' acc' Y2 H2) /\
  ∀x H2,J.yld i H' x H2->g x Y' H2 λY2 H3=>tt Y2 H3 λb H4=>if b=true then te Y2 H4 λy H5=>H5 D=some (.lst acc)/\acc.length < sizeLine/\N (acc++[y]) Y2 (upd H5 D (.lst (acc++[y])))else N acc Y2 H4)
def zj51(wi:TI)(n:Nat)(ix:List Nat)(g:TG)(tt:TT)(te:TE):TE:=λY H Q=>wi Y H λJ H1=>zma1 n ix g tt te Y J H1 Q
def zf71:TT:=λ_ H Q=>Q true H
def PIf(X:Cx)(ifs:List aX)(t:TT):Prop :=
 ∀(pins:List (aE×Obj))(s:aH)(Y:St)(H:Hp)(Q:Bool->Hp->Prop),Inv X pins Y H s->t Y H Q ->
  aI (aM X.prog X.w) X.A (forIn ifs true λc r=>if r=true then do let ok <- gF c X.env (a8 c X.env);pure (ForInStep.yield ok)else pure (ForInStep.yield r)) (TP X pins Y Q) X.xe s
theorem zj3:PIf X [] zf71:=λpins s Y H Q I h=>wpAny_tests_nil ⟨H,I,h⟩
theorem zng{c:aX}{t:TT}(h:PT X c t):PIf X [c] t:=λpins s Y H Q I q=>wpAny_tests_one (h pins s Y H Q I q)
section
variable {X:Cx}{tg iter elt:aX}{ifs:List aX}{scope:dP}{pos:Pos}{own:List Str}{ix:List Nat}{wi:TI}{g:TG}{tt:TT}{te:TE}{sc:dP}{N:List Str}
theorem zvf{pins:List (aE×Obj)}{Y:St}{s2:aH}{itv:aC}{Q:VK}{RR:aC->aE->hV->aH->Prop}{E:aC->aH->Prop}(hc:X.calm=true)(S:CompSc X.env.scope X.N own ix scope)
  (hb:∀s₀ H₀ C fp,PG (zx7 X scope (zqf X.N own ix) s₀ H₀ C fp) tg g/\PIf (zx7 X scope (zqf X.N own ix) s₀ H₀ C fp) ifs tt/\PE (zx7 X scope (zqf X.N own ix) s₀ H₀ C fp) elt te)
  (h2:PIE X pins Y tg (λJ H1=>zma1 own.length ix g tt te Y J H1 Q) itv s2)
  (hR:∀(D C:aE)(m:Str->Option aC)(s':aH)(H':Hp),s'.heap.Ns C m->C≠X.env.locals->(∀x c,X.env.cells.lookup x=some c->c≠C)->H' C=none->(X.s₀.heap.objs.size<=C)->(∀p∈X.pn++pins,p.1≠C) ->
   (∀h'',bD C s'.heap h''->Inv X pins Y H' { s' with heap:=h'' })->Q (.ref D) H'->RR (.ref D) C (.ok .next) s') :
  aI (aM X.prog X.w) X.A (newList []) (λacc s₃=>aI (aM X.prog X.w) X.A (fV scope X.env.globals (zo6 X.env scope.names []) [] X.env.qual none .none (some X.env)) (λcenv s₄ =>
   dH (aM X.prog X.w) X.A (.compStart (.ListComp elt [⟨tg,iter,ifs,0⟩] scope pos) 0 itv acc { cenv with scope:=eE scope X.env }) (RR acc cenv.locals) s₄) E s₃) E s2:=by
 obtain⟨it,fp,tn,J,H1,e,I2,T,st2,f2,h⟩:=h2;subst e;have hD:H1 s2.heap.objs.size=none:=I2.hok.fresh (u7 _);obtain⟨W,⟨m0,w0⟩,turn⟩:=h _ hD;have hlt:∀b∈fp,b < s2.heap.objs.size:=λb hbf=>by obtain⟨o,e,_⟩:=T.obj 0 _ st2 b hbf;exact vY e
 refine bZ ?_
 -- the new list is tracked
 have I3:Inv X pins Y (upd H1 s2.heap.objs.size (.lst [])) { s2 with heap:=s2.heap.push { cls:=.type "list",dict:=none,data:=.seq ([]:List aC).toArray } }:=I2.lnew (ys:=[]) (its:=[]) .nil (wX _);generalize hs3:({ s2 with heap:=s2.heap.push { cls:=.type "list",dict:=none,data:=.seq ([]:List aC).toArray } }:aH)=s3 at I3 ⊢;have hsz:s3.heap.objs.size=s2.heap.objs.size+1:=by rw[<- hs3];exact xO ..
 have k3:∀b o,s2.heap.get? b=some o->s3.heap.get? b=some o:=λb o e=>by rw[<- hs3];exact vT _ e
 have neD:∀b∈fp,b≠s2.heap.objs.size:=λb hbf=>wJ (hlt b hbf);have f3:∀b∈fp,FpOk X pins (upd H1 s2.heap.objs.size (.lst [])) b:=λb hbf=>⟨by rw[ze1 (neD b hbf)];exact(f2 b hbf).1,(f2 b hbf).2⟩
 have hlt3:∀b∈fp,b < s3.heap.objs.size:=λb hbf=>by rw[hsz];exact zM (hlt b hbf)
 refine zlg ?_;have hns₁:=(Heap.Ns.new s3.heap (.type "dict")).keeps (iE scope.names _);have k4:∀b o,s3.heap.get? b=some o->(fO (s3.heap.push { cls:=.type "dict",data:=.dict #[] }) scope.names).get? b=some o:=λb o e=>iE _ _ b o (vT _ e);have hcl:∀x c,(zo6 X.env scope.names []).lookup x=some c->X.env.cells.lookup x=some c:=λx c e=>zbf scope.names [] (λ_ _ q=>by cases q) e;have kc:=zsp scope.names (s3.heap.push { cls:=.type "dict",data:=.dict #[] }) (zo6 X.env scope.names []) (λx c e=>by
  obtain⟨v,z⟩:=I3.cell x c (hcl x c e);exact⟨v,z.keeps λb o e=>vT _ e⟩)
 rw[xO]at kc;generalize fO (s3.heap.push { cls:=.type "dict",data:=.dict #[] }) scope.names=h₁ at hns₁ k4 kc ⊢;have I4:=zxx (t':=s3.toks) I3 S hns₁ kc k4 f3 hlt3;obtain⟨hG,hT,hE⟩:=hb s3 (upd H1 s2.heap.objs.size (.lst [])) s3.heap.objs.size fp;have fp':∀{H':Hp},(∀b∈fp,H' b=none)->∀b∈fp,FpOk (zx7 X scope (zqf X.N own ix) s3 (upd H1 s2.heap.objs.size (.lst [])) s3.heap.objs.size fp) [] H' b:=λ{H'} hn b hbf=>by
  refine⟨hn b hbf,wJ (hlt3 b hbf),?_,.inl hbf,λx c e=>(zz21 _ _ _ e).elim (λq=>(f2 b hbf).2.2.2.2.1 x c (hcl x c q)) (λq e2=>aJ (wW (hlt3 b hbf) (zD (e2 ▸ q.2))) (w9 _)),λp hp=>aJ (show p∈([]:List (aE×Obj))from hp) (by simp)⟩;intro z;rcases vW.mp (I3.stkSub b z)with z|z
  ·exact(f2 b hbf).2.1 z
  ·exact(f2 b hbf).2.2.1 z
 have st4:tn 0 h₁:=T.keep _ _ _ st2 λb _ o e=>k4 b o (k3 b o e);have cne:∀x c,X.env.cells.lookup x=some c->c≠s3.heap.objs.size:=λx c e z=>by
  obtain⟨v,q⟩:=I3.cell x c e;exact aJ q.lt (by rw[z];exact w9 _)
 have loop:dH (aM X.prog X.w) X.A (.compLoop (.ListComp elt [⟨tg,iter,ifs,0⟩] scope pos) 0 (.ref it) (.ref s2.heap.objs.size) (compEnvC scope (zjr X scope s3.heap.objs.size) s3.heap.objs.size X.env)) (RR (.ref s2.heap.objs.size) s3.heap.objs.size) { s3 with heap:=h₁ }:=by
  refine zhi (λn s'=>∃i acc Y' H',Inv (zx7 X scope (zqf X.N own ix) s3 (upd H1 s2.heap.objs.size (.lst [])) s3.heap.objs.size fp) [] Y' H' s'/\tn i s'.heap/\(∀b∈fp,H' b=none)/\W i n acc Y' H') ?_ m0 ⟨0,[],_,_,I4,st4,λb hbf=>(f3 b hbf).1,w0⟩;rintro n s5 ⟨i,acc,Y5,H5,I5,st5,fr5,w5⟩;rcases turn i n acc Y5 H5 w5 with⟨stop,qn⟩|⟨go,NN,hN,step⟩
  ·refine thn (T.done (zx7 X scope (zqf X.N own ix) s3 (upd H1 s2.heap.objs.size (.lst [])) s3.heap.objs.size fp) rfl rfl rfl hc i [] s5 Y5 H5 _ I5 (fp' fr5) st5 stop) λr s6 hz=>?_;obtain⟨hr,I6⟩:=hz;subst hr;obtain⟨m6,hn6,_⟩:=I6.loc;exact hR _ _ m6 s6 H5 hn6 (y9 I3.lt) cne I6.free (I3.sz) (λp hp z=>aJ (vY (I3.pin p hp).1) (by rw[z];exact w9 _)) (λh'' sb=>zzm I3 f3 I6 sb) qn
  ·refine thn (T.item (zx7 X scope (zqf X.N own ix) s3 (upd H1 s2.heap.objs.size (.lst [])) s3.heap.objs.size fp) rfl rfl rfl hc i [] s5 Y5 H5 _ I5 (fp' fr5) st5 go) λr s6 hz=>?_;obtain⟨u,hr,h6⟩:=hz;subst hr;refine thn h6 λ_ s7 hz=>?_;obtain⟨x,H7,I7,r7,y7,st7,fr7⟩:=hz;have I7':=I7.pinned (fp' fr7) (T.obj _ _ st7);have noE:∀{α:Type}{t:Sem α}{Q1:α->aH->Prop}{E1:aC->aH->Prop}{sx:aH},aI (aM X.prog X.w) X.A t Q1 (λ_ _=>False) sx->aI (aM X.prog X.w) X.A t Q1 E1 sx:=λq=>wpAny_noRaise q;refine noE (thn (hG _ s7 Y5 H7 x u _ I7' r7 (step x H7 y7)) λ_ s8 hz=>?_);obtain⟨Y8,H8,I8,q8⟩:=hz;refine noE (thn (hT _ s8 Y8 H8 _ I8 q8) λb s9 hz=>?_);obtain⟨H9,I9,q9⟩:=hz;have again:∀{Yz:St}{Hz:Hp}{sz:aH}{accz:List V},Inv (zx7 X scope (zqf X.N own ix) s3 (upd H1 s2.heap.objs.size (.lst [])) s3.heap.objs.size fp) ([]++zgm fp s7.heap) Yz Hz sz->NN accz Yz Hz->∃m,m < n/\∃i acc Y' H',Inv (zx7 X scope (zqf X.N own ix) s3 (upd H1 s2.heap.objs.size (.lst [])) s3.heap.objs.size fp) [] Y' H' sz/\tn i sz.heap/\(∀b∈fp,H' b=none)/\W i m acc Y' H':=λ{Yz Hz sz accz} Iz nz=>by
    obtain⟨m',hm,wz⟩:=hN accz Yz Hz nz;refine⟨m',hm,i+1,accz,Yz,Hz,Iz.unpinned,T.keep _ _ _ st7 λb hbf o e=>(Iz.pin (b,o) (w8 _ (w8 _ (zu9 hbf e)))).1,λb hbf=>?_,wz⟩;obtain⟨o,e,d⟩:=T.obj _ _ st7 b hbf;exact(Iz.pin (b,o) (w8 _ (w8 _ (zu9 hbf e)))).2.1
   cases b with
  |false =>
    have q9':NN acc Y8 H9:=by simpa using q9
    simp only[yB,if_false];exact again I9 q9'
  |true =>
    have q9':te Y8 H9 λy H5=>H5 s2.heap.objs.size=some (.lst acc)/\acc.length < sizeLine/\NN (acc++[y]) Y8 (upd H5 s2.heap.objs.size (.lst (acc++[y]))):=by simpa using q9
    simp only[if_true];refine noE (thn (hE _ s9 Y8 H9 _ I9 q9') λy s10 hz=>?_);obtain⟨yv,H10,I10,r10,hl,hz,q10⟩:=hz;refine noE (thn (zk2 _ s10 Y8 H10 (.ref s2.heap.objs.size) [yv] (.ref s2.heap.objs.size) [y] (λ_ H'=>NN (acc++[yv]) Y8 H') I10 rfl (.cons r10 .nil) ⟨_,acc,yv,rfl,rfl,hl,hz,q10⟩) λ_ s11 hz=>?_);obtain⟨_,H11,I11,_,q11⟩:=hz;exact again I11 q11
 exact codeAny_compStart_list loop (T.self X.A 0 _ _ _ st4 loop)
theorem zu4(hc:X.calm=true)(hsc:X.env.scope=sc)(hN:X.N=N)(S:CompSc sc N own ix scope)(hi:PI X tg iter wi)
  (hb:∀s₀ H₀ C fp,PG (zx7 X scope (zqf N own ix) s₀ H₀ C fp) tg g/\PIf (zx7 X scope (zqf N own ix) s₀ H₀ C fp) ifs tt/\PE (zx7 X scope (zqf N own ix) s₀ H₀ C fp) elt te)
  (hs:∀x,eX iter X.env x=pure x:=by intro _;rfl):PE X (.ListComp elt [⟨tg,iter,ifs,0⟩] scope pos) (zj51 wi own.length ix g tt te):=by
 subst hsc hN;walk_at"2";rw[eval_ListComp];refine fJ (use:=none) (g:=⟨tg,iter,ifs,0⟩) (gs:=[]) rfl hs (zkg λy hy hf=>I.ok.has y.1 (S.free y hy hf)) S.kind S.names ?_;show aI _ _ (a8 iter X.env) _ _ _;refine thn (hi pins s Y H _ I h) λv s1 h1=>thn h1 λitv s2 h2=>?_;refine zvf (Q:=Q) (RR:=λacc C=>compPost (aM X.prog X.w) X.A X.xe none (EP X pins Y Q) acc C) hc S hb h2 ?_;intro D C m s' H' hns _ _ _ _ _ hI q;exact⟨m,hns,λh'' sb=>⟨.ref D,H',hI h'' sb,rfl,q⟩⟩
theorem zh3{i:Nat}{pos' pos2:Pos}(hc:X.calm=true)(hsc:X.env.scope=sc)(hN:X.N=N)(S:CompSc sc N own ix scope)(hnd:X.N.Nodup)(hxi:X.N[i]?=some x)(hx:X.env.scope.names.lookup x=some .local)(hi:PI X tg iter wi)
  (hb:∀s₀ H₀ C fp,PG (zx7 X scope (zqf N own ix) s₀ H₀ C fp) tg g/\PIf (zx7 X scope (zqf N own ix) s₀ H₀ C fp) ifs tt/\PE (zx7 X scope (zqf N own ix) s₀ H₀ C fp) elt te)
  (hsw:fM (.ListComp elt [⟨tg,iter,ifs,0⟩] scope pos) (some (.Name x pos')) pos2.line X.env=pure true:=by rfl)
  (hs:∀x,eX iter X.env x=pure x:=by intro _;rfl):PS X (.Assign [.Name x pos'] (.ListComp elt [⟨tg,iter,ifs,0⟩] scope pos) pos2) (tAsg (zj51 wi own.length ix g tt te) (zir i)):=by
 subst hsc hN;walk_at"8";rw[exec_Assign_Name_used _ _ _ _ hsw];refine aG (gB (aG ?_));show aI _ X.A (do let _ <- comprehension (.ListComp elt [⟨tg,iter,ifs,0⟩] scope pos) scope X.env _ (newList []) false (a8 iter X.env) (some (eS (.Name x pos') X.env))) _ _ s;refine aG (cC (fJ (use:=some (eS (.Name x pos') X.env)) (g:=⟨tg,iter,ifs,0⟩) (gs:=[]) (Q:=λ_ s'=>SP X pins D .next s') rfl hs (zkg λy hy hf=>I.ok.has y.1 (S.free y hy hf)) S.kind S.names
  (thn (hi pins s Y H _ I h) λv s1 h1=>thn h1 λitv s2 h2=>?_)) (λ_ s' hq=>aK (aK hq)) λ_ _ e=>e)
 refine zvf (Q:=λv H1=>zir i v Y H1 D.nx) (RR:=λacc C=>compPost (aM X.prog X.w) X.A X.xe (some (eS (.Name x pos') X.env)) (λ_ s'=>SP X pins D .next s') acc C) hc S hb h2 ?_;intro L C m s' H' hns nL nC hC hC0 hCp hI q;show aI _ _ (eS (.Name x pos') X.env (.ref L)) _ _ s';have I':Inv X pins Y H' s':=hI s'.heap ⟨rfl,λ_ _=>rfl⟩;refine gR (zvj I' hnd hxi (.inl hx) (v:=.ref L) rfl (λs2 I2 hch=>?_) (.inr hx));obtain⟨a,sba,ha⟩:=hch;have naC:C≠a:=by
  rcases ha with z|z
  ·rw[z];exact nL
  ·exact λe=>nC x a z e.symm
 refine⟨m,hns.sameBut sba naC,λh'' sb=>?_⟩;refine⟨_,H',I2.turned (t':=s2.toks) (it:=C) (λb o nb e=>?_) hC nL (.inr hC0) nC hCp,q⟩;rw[sb.2 b nb];exact e
end
def zca1(K:Fg):R2:=λx y H Q=>rI0 (λi j=>.int (i+j)) x y H Q \/ (∃i j,x=.str i/\y=.str j/\i.length+j.length<=sizeLine/\Q (.str (i++j)) H) \/ rCat x y H Q \/ zla1 K x y H Q
def zu91:R2:=λx y H Q=>rI CMul (λi j=>.int (i * j)) x y H Q \/ rRep x y H Q
def rSlU(K:Fg):V->Option Int->Option Int->Hp->VK->Prop:=λx lo hi H Q=>rSlL K x lo hi H Q \/ rSlT K x lo hi H Q
def zfc1(K:Fg)(x:V)(H:Hp)(R:It->Hp->Prop):Prop:=(∃a,x=.ref a/\(∃xs,SqL K H a xs)/\R (Itl K a) H) \/ (∃a,x=.ref a/\(∃xs,SqT K H a xs)/\R (Itt K a) H)
def rLen(K:Fg):List V->Hp->VK->Prop:=λxs H Q=>∃x n,xs=[x]/\LenV K x H n/\Q (.int (n:Nat)) H
def zjb1:List V->Hp->VK->Prop:=λxs H Q=>∃i j,xs=[.int i,.int j]/\Q (.int (if j > i then j else i)) H
def zpb1(xs:List V)(H:Hp)(Q:VK):Prop:=xs.length<=sizeLine/\∀p,H p=none->Q (.ref p) (upd H p (.tup xs))
def zjc1(xs:List V)(H:Hp)(Q:VK):Prop:=xs.length<=sizeLine/\∀p,H p=none->Q (.ref p) (upd H p (.lst xs))
def zv81(t:TA):TE:=λY H Q=>t Y H λxs H1=>zpb1 xs H1 Q
def zl81(t:TA):TE:=λY H Q=>t Y H λxs H1=>zjc1 xs H1 Q
def zdc1(x:V)(H:Hp)(Q:Option Int->Hp->Prop):Prop:=∃i,x=.int i/\Q (some i) H
def zj41(t:TE):TO:=λY H Q=>t Y H λx H1=>zdc1 x H1 Q
def kFld(K:Fg)(f:Str)(x:V)(H:Hp)(Q:VK):Prop:=∃a C dx fs v,x=.ref a/\H a=some (.ins C dx fs)/\Cls K C/\NoAttr K C f/\fs.lookup f=some v/\Q v H
def zza1(K:Fg)(ta:TE)(f:Str):TE:=λY H Q=>ta Y H λx H1=>kFld K f x H1 Q
def kBl(x:V)(H:Hp)(Q:Bool->Hp->Prop):Prop:=∃k,x=.bl k/\Q k H
def zk31(t:TE):TT:=λY H Q=>t Y H λx H'=>kBl x H' Q
def kTru(K:Fg)(x:V)(H:Hp)(Q:Bool->Hp->Prop):Prop:=∃k,TruV K x H k/\Q k H
def zga1(K:Fg)(t:TE):TT:=λY H Q=>t Y H λx H'=>kTru K x H' Q
section
variable {X:Cx}{tg:aX}
theorem zy01(h:X.K=K):OpR X (bL .Add) (zca1 K):=h ▸ zn91.or (zqn.or (zh61.or zm41))
theorem zj01:OpR X (bL .Mult) zu91:=zj71.or zn21
theorem ix_U(h:X.K=K):IxR X (rIx K):=h ▸ zi91
theorem sl_U(h:X.K=K):SlR X (rSlU K):=h ▸ zb41.or zq51
theorem zi1(h:X.K=K):CallR X (.builtin "len") (rLen K):=h ▸ zky
theorem znq(hc:X.calm=true):CallR X (.builtin "max") zjb1:=zsq hc
theorem zo1{t:TA}{x1}(h:PA X es t):PE X (.Tuple es x1 pos) (zv81 t):=zs61 h
theorem zi2{t:TA}(h:PA X es t):PE X (.List es pos) (zl81 t):=zt71 h
theorem zm9{e:aX}{te:TE}(h:PE X e te):PO X (some e) (zj41 te):=zg11 h
theorem zy1(h:X.K=K){e:aX}{f:Str}(he:PE X e ta)(hb:cL e f X.env (a8 e X.env)=a8 e X.env):PE X (.Attribute e f pos) (zza1 K ta f):=h ▸ zq61 he hb
theorem zs0{b:aX}{tb:TE}{op:CmpOp}{r:R2}(ho:OpR X (a7 op) r)(ha:PE X a ta)(hb:PE X b tb)(hm:dQ op b=false):PT X (.Compare a [op] [b] pos) (zk31 (tOp r ta tb)):=zx01 ho ha hb hm
theorem zy5(h:X.K=K)(ha:PE X a ta)(he:∀whole,gF a X.env whole=(do let v <- whole;eD a.pos;cX [v] (truthy v))):PT X a (zga1 K ta):=h ▸ zwx ha he
def clsV:V->Option aC
|.ty n=>some (.type n)
|.ref a=>some (.ref a)
|_=>none
theorem zbp{cV:V}{c v:aC}(h:clsV cV=some c)(r:RelV cV v):v=c:=by
 cases cV with
|ty n=>cases h;exact r
|ref a=>cases h;exact r
|_=>cases h
def rIsI(K:Fg):List V->Hp->VK->Prop:=λxs H Q=>∃x cV c t b,xs=[x,cV]/\clsV cV=some c/\TyOf K H x t/\dI K t c=some b/\Q (.bl b) H
theorem zkl(h:X.K=K):CallR X (.builtin "isinstance") (rIsI K):=by
 subst h;walk_at"7";obtain⟨x,cV,c,t,b,rfl,rc,ty,e,q⟩:=h;obtain⟨u,v,rfl,ru,rv⟩:=r.two;obtain rfl:=zbp rc rv;exact zjs I ru ty e λtk=>⟨.bl b,H,I.tok tk,rfl,q⟩
end
def Def(P:aN)(w:aQ)(K:Fg)(mg:Str->Option aC)(base:aT)(x:Str)(k:Nat)(ps:List Str)(sp:Sp):Prop :=
 ∃f fd,FnOk P w K mg base CX0 k f fd ps sp/\Binds K fd ps []/\bH K (.ref f)=true/\mg x=some (.ref f)
def zbq(P:aN)(w:aQ)(K:Fg)(mg:Str->Option aC)(base:aT)(x:Str)(C:aE)(k:Nat)(ps:List Str)(sp:Sp):Prop :=
 ∃f fd,Mk K C f/\FnOk P w K mg base CX0 k f fd ps sp/\Binds K fd ps []/\mg x=some (.ref C)
def MethD(P:aN)(w:aQ)(K:Fg)(mg:Str->Option aC)(base:aT)(C:aE)(m:Str)(k:Nat)(ps:List Str)(sp:Sp):Prop :=
 ∃f fd,Cls K C/\Meth K C m f/\FnOk P w K mg base CX0 k f fd ps sp/\Binds K fd ps []
section
variable {X:Cx}{k:Nat}{C:aE}{ps:List Str}{sp:Sp}{x m:Str}{p pos apos:Pos}{e o:aX}{es:List aX}{ta:TE}{t:TA}
theorem zq0(d:Def X.prog X.w X.K X.mg X.base x k ps sp)(hr:Room k X.A)(hg:Gl X x)(ha:PA X (e :: es) t)(hdb:(x == ("__debug__":Str))=false:=by decide)
  (he:aS (e :: es) X.env=(false,a8 e X.env) :: aS es X.env:=by rfl) (hpl:(bS pos (aS es X.env)).any (·.1)=false:=by rfl):PE X (.Call (.Name x p) (e :: es) [] pos) (zuz sp [] E0 t):=by
 obtain⟨f,fd,F,b,kp,m⟩:=d;exact zzs F hr hg m kp b .nil znz ha hdb he hpl
theorem zye(d:zbq X.prog X.w X.K X.mg X.base x C k ps sp)(hr:Room (k+1) X.A)(hg:Gl X x)(ha:PA X (e :: es) t)(hdb:(x == ("__debug__":Str))=false:=by decide)
  (he:aS (e :: es) X.env=(false,a8 e X.env) :: aS es X.env:=by rfl) (hpl:(bS pos (aS es X.env)).any (·.1)=false:=by rfl):PE X (.Call (.Name x p) (e :: es) [] pos) (zb91 C sp [] E0 t):=by
 obtain⟨f,fd,M,F,b,m⟩:=d;exact zg31 M F hr hg m b .nil znz ha hdb he hpl
theorem zf7{pl:Sem Bool}(d:MethD X.prog X.w X.K X.mg X.base C m k ps sp)(hr:Room k X.A)(he:PE X o ta)(ha:PA X (e :: es) t)
  (hst:aS (e :: es) X.env=(false,a8 e X.env) :: aS es X.env:=by rfl) (hpl:(bS pos (aS es X.env)).any (·.1)=false:=by rfl)
  (ht:a8 (.Call (.Attribute o m apos) (e :: es) [] pos) X.env=(do
   let ov <- a8 o X.env
   eD apos.atName
   let (f,first) <- cX [ov] (dU ov m pl)
   f7 pos f first (bS pos (aS (e :: es) X.env)) (eM pos (cZ [] X.env))):=by rfl) :
  PE X (.Call (.Attribute o m apos) (e :: es) [] pos) (zjz C m sp [] E0 ta t):=by
 obtain⟨f,fd,c,M,F,b⟩:=d;exact zh01 he c M F hr b .nil znz ha hst hpl ht
end
theorem zw1{H:Hp}{p:aE}(h:H p=none)(o:HO):Same H (upd H p o):=λb u q=>by rw[ze1 (zp5 q h)];exact q
theorem zml{H H':Hp}{a:aE}{xs:List V}(e:Same H H')(h:SqT K H a xs):SqT K H' a xs:=by
 rcases h with(h|⟨o,h⟩)|h
 ·exact .inl (.inl (e _ _ h))
 ·exact .inl (.inr ⟨o,e _ _ h⟩)
 ·exact .inr h
section
variable {K:Fg}{Y:St}{H:Hp}{Q:VK}{D:Ends}{a b p:aE}{i j k:Int}{x y v:V}{xs ys:List V}{ta tb te:TE}{t u:TS}{tA:TA}{tt tt':TT}{A B:Prop}
theorem zob1(h:SqT K H a xs)(e:atI xs i=some v)(q:Q v H):rIx K (.ref a) (.int i) H Q:=.inr (.inl ⟨a,xs,i,v,rfl,rfl,h,e,q⟩)
end
theorem ze5:a9 "len"=some (.builtin "len"):=by decide +kernel
theorem zk61:a9 "max"=some (.builtin "max"):=by decide +kernel
theorem zi11:a9 "min"=some (.builtin "min"):=by decide +kernel
theorem zg2:a9 "isinstance"=some (.builtin "isinstance"):=by decide +kernel
theorem zn71:a9 "int"=some (.type "int"):=by decide +kernel
theorem ze21:a9 "bool"=some (.type "bool"):=by decide +kernel
theorem zva:a9 "list"=some (.type "list"):=by decide +kernel
theorem zul:a9 "tuple"=some (.type "tuple"):=by decide +kernel
structure Md(K:Fg)(mg:Str->Option aC):Prop where
 ex:∃h:aT,K.In h/\h.Ns aP mg
theorem Md.got(M:Md K mg){v:aC}(e:aZ K aP x=some (some v)):mg x=some v:=let ⟨_,X,G⟩:=M.ex;PySem.W.mg_of X G e
theorem Md.not(M:Md K mg)(e:aZ K aP x=some none):mg x=none:=let ⟨_,X,G⟩:=M.ex;PySem.W.mg_none_of X G e
structure TopDef(K:Fg)(x:Str)(st:cO):Prop where
 ex:∃f fd,aZ K aP x=some (some (.ref f))/\Fun K x x st f fd
theorem zfs{kV:aC}(a:aZ K aP x=some (some (.ref f)))
  (l:K.lookup f=some ⟨oc,od,.func (bO x x (zw8 st) (zp3 st) (zh0 st) .none kV doc pm an cdv ct),osl⟩) (c:cG K cdv x=true) (k:bH K (.ref f)=true):TopDef K x st:=⟨⟨_,_,a,zz11 l c k⟩⟩
structure TopMeth(K:Fg)(C:aE)(m qual:Str)(st:cO):Prop where
 ex:∃f fd,a6 K (.ref C) m=some (some (.ref f))/\d6 K (.ref f)=true/\Fun K m qual st f fd
theorem zvp{kV:aC}(a:a6 K (.ref C) x=some (some (.ref f)))(i:d6 K (.ref f)=true)
  (l:K.lookup f=some ⟨oc,od,.func (bO x qual (zw8 st) (zp3 st) (zh0 st) .none kV doc pm an cdv ct),osl⟩) (c:cG K cdv qual=true) (k:bH K (.ref f)=true):TopMeth K C x qual st:=⟨⟨_,_,a,i,zz11 l c k⟩⟩
structure TopCls(K:Fg)(x:Str)(C:aE):Prop where
 at_:aZ K aP x=some (some (.ref C))
 cls:Cls K C
 mkk:d9 K C=true
 kp:bH K (.ref C)=true
theorem zyq(a:aZ K aP x=some (some (.ref C)))(pg:cU K C Str.empty=true)(hd:dM K C=true)(po:eZ K C=true)
  (sa:a6 K (.ref C) "__setattr__"=some (some (.builtin "object.__setattr__"))) (mk:d9 K C=true) (kc:bH K (.ref C)=true):TopCls K x C:=⟨a,⟨pg,hd,po,sa⟩,mk,kc⟩
section
variable {P:aN}{w:aQ}{K:Fg}{mg:Str->Option aC}{base:aT}
abbrev ztb(x qual:Str)(st:cO)(ps:List Str):Prop :=
 ∀(kV doc pm:aC)(an:Option aE)(cdv ct:aC)(us:List aC),us.length=ps.length->gX (bO x qual (zw8 st) (zp3 st) (zh0 st) .none kV doc pm an cdv ct) ⟨us,[]⟩=pure (ps.zip us)
abbrev zl9(P:aN)(w:aQ)(K:Fg)(mg:Str->Option aC)(base:aT)(qual:Str)(st:cO)(N:List Str)(k:Nat)(sp:Sp):Prop :=
 ∀(f:aE)(cdv:aC)(A:bB)(outer:List Env)(s:aH)(H:Hp)(vs:List V)(Q:VK)(E:XK),Room k (A.deeper (cQ qual (zh0 st) s.heap.objs.size f cdv))->sp vs H Q E ->
   ∃t,PSs (cxOf CX0 P w K mg base N qual (zh0 st) f cdv A outer s H E).nox (zp3 st) t/\t { nx:=λ_ H'=>Q .non H',rt:=Q } (start N vs) H
theorem zi3{k:Nat}(M:Md K mg)(T:TopDef K x st)(S:FnScope N ps (zh0 st))(hb:ztb x x st ps)(len:∀vs H Q E,sp vs H Q E->vs.length=ps.length)
  (body:zl9 P w K mg base x st N k sp):Def P w K mg base x (k+1) ps sp:=by
 obtain⟨f,fd,a,F⟩:=T.ex;exact⟨f,fd,F.ok S len (λcdv A outer s H vs Q E hr h=>body f cdv A outer s H vs Q E hr h),F.binds hb,F.kp,M.got a⟩
theorem zm8{k:Nat}(c:Cls K C)(T:TopMeth K C m qual st)(S:FnScope N ps (zh0 st))(hb:ztb m qual st ps)(len:∀vs H Q E,sp vs H Q E->vs.length=ps.length)
  (body:zl9 P w K mg base qual st N k sp):MethD P w K mg base C m (k+1) ps sp:=by
 obtain⟨f,fd,a,i,F⟩:=T.ex;exact⟨f,fd,c,⟨a,i,F.kp⟩,F.ok S len (λcdv A outer s H vs Q E hr h=>body f cdv A outer s H vs Q E hr h),F.binds hb⟩
theorem zek{k:Nat}(M:Md K mg)(c:TopCls K x C)(T:TopMeth K C "__init__" qual st)(S:FnScope N ps (zh0 st))(hb:ztb "__init__" qual st ps)
  (len:∀vs H Q E,sp vs H Q E->vs.length=ps.length) (body:zl9 P w K mg base qual st N k sp):zbq P w K mg base x C (k+1) ps sp:=by
 obtain⟨f,fd,a,i,F⟩:=T.ex;exact⟨f,fd,⟨c.mkk,a,i,c.kp⟩,F.ok S len (λcdv A outer s H vs Q E hr h=>body f cdv A outer s H vs Q E hr h),F.binds hb,M.got c.at_⟩
theorem zq71{k:Nat}{fa:aE}(M:Md K mg)(T:TopDef K "law" st)(hfa:mg "law"=some (.ref fa))(S:FnScope N ["script"] (zh0 st))(hb:ztb "law" "law" st ["script"])(len:∀vs H Q E,sp vs H Q E->vs.length=1)
  (body:∀base:aT,K.In base->base.Ns aP mg->zl9 P w K mg base "law" st N k sp) :
  ∃fd:cH,(∀(s:aH)(v:aC),eK s fd ⟨[v],[]⟩ [("script",v)])/\∀base:aT,K.In base->base.Ns aP mg->FnOk P w K mg base CX0 (k+1) fa fd ["script"] sp:=by
 obtain⟨f,fd,a,F⟩:=T.ex;have e:=hfa.symm.trans (M.got a);cases e;obtain⟨oc,od,kV,doc,pm,an,cdv,ct,osl,e1,lk,hcd⟩:=id F.ex;refine⟨fd,λs v=>.of_eq ?_,λbase kb nb=>F.ok S len λcdv A outer s H vs Q E hr h=>body base kb nb fa cdv A outer s H vs Q E hr h⟩;rw[e1];exact hb kV doc pm an cdv ct [v] rfl
end
def zo21:bG->Bool
|.int _=>true
|.str _=>true
|_=>false
mutual
inductive Is(K:Fg)(H:Hp):V->bG->Prop
|non:Is K H .non .none
|bl (b:Bool):Is K H (.bl b) (.bool b)
|int (i:Int):Is K H (.int i) (.int i)
|str (x:Str):Is K H (.str x) (.str x)
|lst {a:aE} {xs:List V} {ds:List bG}:SqL K H a xs->IsAll K H xs ds->Is K H (.ref a) (.list ds)
|tup {a:aE} {xs:List V} {ds:List bG}:H a=some (.tup xs)->IsAll K H xs ds->Is K H (.ref a) (.tuple ds)
|tuc {a:aE} {xs:List V} {ds:List bG}:SqT K H a xs->IsAll K H xs ds->ds.all zo21=false->Is K H (.ref a) (.tuple ds)
inductive IsAll(K:Fg)(H:Hp):List V->List bG->Prop
|nil:IsAll K H [] []
|cons {x:V} {d:bG} {xs:List V} {ds:List bG}:Is K H x d->IsAll K H xs ds->IsAll K H (x :: xs) (d :: ds)
end
mutual
theorem Is.mono{K:Fg}{H H':Hp}(s:Same H H'):∀{v:V}{d:bG},Is K H v d->Is K H' v d
|_,_,.non=>.non
|_,_,.bl b=>.bl b
|_,_,.int i=>.int i
|_,_,.str x=>.str x
|_,_,.lst h r=>.lst (s.seq h) (IsAll.mono s r)
|_,_,.tup h r=>.tup (s _ _ h) (IsAll.mono s r)
|_,_,.tuc h r n=>.tuc (zml s h) (IsAll.mono s r) n
theorem IsAll.mono{K:Fg}{H H':Hp}(s:Same H H'):∀{v:List V}{d:List bG},IsAll K H v d->IsAll K H' v d
|_,_,.nil=>.nil
|_,_,.cons h r=>.cons (Is.mono s h) (IsAll.mono s r)
end
section
variable {X:Cx}{pins:List (aE×Obj)}{Y:St}{H:Hp}{s:aH}
mutual
theorem zd9(I:Inv X pins Y H s):∀{v:V}{d:bG}{u:aC},Is X.K H v d->RelV v u->∃as,Reads s.heap u d as
|_,_,_,.non,r=>by cases r;exact⟨_,.none⟩
|_,_,_,.bl b,r=>by cases r;exact⟨_,.bool b⟩
|_,_,_,.int i,r=>by obtain⟨t,rfl⟩:=r;exact⟨_,.int i t⟩
|_,_,_,.str x,r=>by obtain⟨t,rfl⟩:=r;exact⟨_,.str x t⟩
|_,_,_,.lst h q,r=>by
  cases r;obtain⟨its,rv,p,_⟩:=I.list h;obtain⟨as,z⟩:=ze8 I q rv;obtain⟨o,ho,hc,n,hd⟩:=p.isList;exact⟨_,.list ho hc hd (by simpa using z)⟩
|_,_,_,.tup h q,r=>by
  cases r;obtain⟨its,rv,p,_⟩:=I.tuple (SqT.of h);obtain⟨as,z⟩:=ze8 I q rv;obtain⟨o,ho,hc,n,hd⟩:=(show s.heap.IsTuple _ its.toArray from p)
  exact⟨_,.tuple ho hc hd (by simpa using z)⟩
|_,_,_,.tuc h q _,r=>by
  cases r;obtain⟨its,rv,p,_⟩:=I.tuple h;obtain⟨as,z⟩:=ze8 I q rv;obtain⟨o,ho,hc,n,hd⟩:=(show s.heap.IsTuple _ its.toArray from p)
  exact⟨_,.tuple ho hc hd (by simpa using z)⟩
theorem ze8(I:Inv X pins Y H s):∀{v:List V}{d:List bG}{u:List aC},IsAll X.K H v d->Vals v u->∃as,ReadsAll s.heap u d as
|_,_,_,.nil,r=>by cases r;exact⟨_,.nil⟩
|_,_,_,.cons h q,r=>by
  cases r with
 |cons r1 r2 =>
   obtain⟨as,z⟩:=zd9 I h r1;obtain⟨bs,y⟩:=ze8 I q r2;exact⟨_,.cons z y⟩
end
end
def rEqU(K:Fg):R2:=λx y H Q=>rEq x y H Q \/ (∃d e,Is K H x d/\Is K H y e/\bW d=true/\bW e=true/\Q (.bl (xD d e)) H)
def rNeU(K:Fg):R2:=λx y H Q=>rNe x y H Q \/ (∃d e,Is K H x d/\Is K H y e/\bW d=true/\bW e=true/\Q (.bl (!PyData.eqv d e)) H)
section
variable {X:Cx}
theorem zz2(h:X.K=K)(hu:X.A.units+64 < b7):OpR X (a7 .Eq) (rEqU K):=by
 subst h;refine zac1.or ?_;walk_at"14";obtain⟨d,e,hd,he,sd,se,q⟩:=q;obtain⟨as,r1⟩:=zd9 I hd rx;obtain⟨bs,r2⟩:=zd9 I he ry;exact eq_dataH r1 r2 sd se hu ⟨.bl _,H,I,rfl,q⟩
theorem zpn(h:X.K=K)(hu:X.A.units+64 < b7):OpR X (a7 .NotEq) (rNeU K):=by
 subst h;refine ztb1.or ?_;walk_at"14";obtain⟨d,e,hd,he,sd,se,q⟩:=q;obtain⟨as,r1⟩:=zd9 I hd rx;obtain⟨bs,r2⟩:=zd9 I he ry;exact ne_dataH r1 r2 sd se hu ⟨.bl _,H,I,rfl,q⟩
def zv31(P:aN)(w:aQ)(K:Fg)(mg:Str->Option aC)(base:aT)(m:Str)(k:Nat)(ta:TE)(t:TA):TE:=λY H Q=>ta Y H λx H1=>∃a C dx fs ps sp,x=.ref a/\H1 a=some (.ins C dx fs)/\fs.lookup m=none /\
 MethD P w K mg base C m k ps sp/\t Y H1 λvs H2=>sp (x :: vs) H2 Q E0
theorem zuy{P:aN}{w:aQ}{base:aT}{k:Nat}{m:Str}{pos apos:Pos}{e o:aX}{t:TA}{pl:Sem Bool}(hP:X.prog=P)(hw:X.w=w)(hK:X.K=K)(hmg:X.mg=mg)(hbs:X.base=base)(hr:Room k X.A)(he:PE X o ta)(ha:PA X (e :: es) t)
  (hst:aS (e :: es) X.env=(false,a8 e X.env) :: aS es X.env:=by rfl) (hpl:(bS pos (aS es X.env)).any (·.1)=false:=by rfl)
  (ht:a8 (.Call (.Attribute o m apos) (e :: es) [] pos) X.env=(do
   let ov <- a8 o X.env
   eD apos.atName
   let (f,first) <- cX [ov] (dU ov m pl)
   f7 pos f first (bS pos (aS (e :: es) X.env)) (eM pos (cZ [] X.env))):=by rfl) :
  PE X (.Call (.Attribute o m apos) (e :: es) [] pos) (zv31 P w K mg base m k ta t):=by
 subst hP hw hK hmg hbs;walk_at"2";refine dW (pl:=pl) (thn (he pins s Y H _ I h) λu s1 hz=>?_) ht;obtain⟨x,H1,I1,rx,a,C,dx,fs,ps,sp,ex,ea,l,d,q⟩:=hz;subst ex;obtain rfl:u=vX a:=rx;obtain⟨f,fd,c,hm,F,b⟩:=d;refine zx9 I1 ea c hm l ?_;refine dE (first:=[.ref a]) (h₀:=X.base) I.ok.mod.kin hm.kp (thn (ha pos pins s1 Y H1 _ I1 q) λus s2 ⟨vs,H2,I2,r,q2⟩=>⟨I2.kIn,?_⟩) hst hpl;exact zcs (us:=.ref a :: us) (vs:=.ref a :: vs) (dvs:=[]) (ds:=[]) F hr b .nil znz I2 (.cons rfl r) (by rw[wN];exact q2)
end
variable {A:bB}{E:aC->aH->Prop}{K:Fg}{X:Cx}{Y:St}{a i n:Nat}{b it:aE}{es:List aX}{h':aT}{pins:List (aE×Obj)}{pos:Pos}{s:aH}{w:aQ}{xs:List V}
section
variable {X:Cx}
def Its(z:Str):It:=⟨λi _=>i < z.cps.size,λi H x H'=>H'=H/\∃c,z.cps[i]?=some c/\x=.str ⟨#[c]⟩,λi _=>z.cps.size<=i⟩
theorem zmu{P:aN}{tg:aX}(z:Str)(t:Tok)(it:aE):Turn P w K tg (Its z) [it] it (λi h=>h.IsStrIter it "str_ascii_iterator" z t i) where
 mem:=by simp
 obj:=λi h st b hb=>by
  have e:b=it:=by simpa using hb
  subst e;obtain⟨o,e,c,d⟩:=st;exact⟨o,e,λv z=>by rw[d]at z;cases z⟩
 keep:=λi h h' st k=>by
  obtain⟨o,e,c,d⟩:=st;exact⟨o,k it (by simp) o e,c,d⟩
 item:=by
  walk_at"6";subst hP hw hK;have hg':i < z.cps.size:=hg;obtain⟨f0,f1,f2,f3,f4,f5⟩:=hf it (by simp);have hx:z.cps[i]?=some z.cps[i]:=by simp[hg']
  refine wpAny_pyNext_ascii_item st hx λh' st' sb=>?_;have I1:Inv X pins Y H { s with heap:=h',toks:=s.toks+1 }:=I.turned (t':=s.toks+1) (λb o hb e=>(sb.2 b hb).trans e) f0 f1 f3 f4 f5;obtain⟨o,e,c,d⟩:=id st';exact⟨_,rfl,zm51 (s:={ s with heap:=h',toks:=s.toks+1 }) e c d (by decide) ⟨.str ⟨#[z.cps[i]]⟩,H,I1,⟨_,rfl⟩,⟨rfl,_,hx,rfl⟩,st',λb hb=>(hf b hb).1⟩⟩
 done:=by
  walk_at"6";subst hP hw hK;have hg':z.cps.size<=i:=hg;obtain⟨f0,f1,f2,f3,f4,f5⟩:=hf it (by simp);have hx:z.cps[i]?=none:=by simp[hg']
  exact wpAny_pyNext_ascii_end (I.ok.hd hc) st hx λh' eb=>⟨rfl,I.turned (t':=s.toks) (λb o hb e=>eb b o hb e) f0 f1 f3 f4 f5⟩
 self:=λA i s Q E st h=>wpAny_pyIter_striter_ascii st h
def rInU(K:Fg):R2:=λx y H Q=>rIn K false x y H Q \/ ∃c z,x=.str ⟨#[c]⟩/\y=.str z/\Q (.bl (decide (c∈z.cps.toList))) H
def zau(K:Fg):R2:=λx y H Q=>rIn K true x y H Q \/ ∃c z,x=.str ⟨#[c]⟩/\y=.str z/\Q (.bl (!decide (c∈z.cps.toList))) H
theorem ze61(hK:X.K=K):OpR X (a7 .In) (rInU K):=by
 subst hK;refine zes.or ?_;walk_at"0";obtain⟨c,z,rfl,rfl,q⟩:=h;exact zer pins s Y H _ _ v u Q I rx ry ⟨_,_,rfl,rfl,by rw[StrLaws.found_one];exact q⟩
theorem zns(hK:X.K=K):OpR X (a7 .NotIn) (zau K):=by
 subst hK;refine zqh.or ?_;walk_at"0";obtain⟨c,z,rfl,rfl,q⟩:=h;exact zei pins s Y H _ _ v u Q I rx ry ⟨_,_,rfl,rfl,by rw[StrLaws.found_one];exact q⟩
def repS(x:Str)(n:Nat):Str:=⟨(vV n x.cps).foldl (·++·) #[]⟩
theorem zsw(c:List (Array Nat)):∀a:Array Nat,c.foldl (·++·) a=a++(c.map z8).flatten.toArray:=by
 induction c with
|nil=>intro a;simp
|cons y r ih=>intro a;rw[zK,ih,uaG];congr 1;apply Array.toList_inj.mp;simp
theorem zlx(x:Str)(n:Nat):(repS x n).cps.toList=(vV n x.cps.toList).flatten:=by
 unfold repS;rw[zsw];simp
def zpa1:R2:=λx y H Q=>∃z n,x=.str z/\y=.int n/\0<=n/\z.length * n.toNat<=sizeLine/\n<=sizeLine/\Q (.str (repS z n.toNat)) H
theorem zi01:OpR X (bL .Mult) zpa1:=by
 walk_at"0";obtain⟨z,n,rfl,rfl,h1,h2,h3,q⟩:=h;obtain⟨t,rfl⟩:=rx;obtain⟨t',rfl⟩:=ry;have hl:sizeLine=16777216:=aW;have hz:z.length=z.cps.size:=rfl;by_cases n0:n=0
 ·subst n0;refine P.mul_str (by rw[aY (by lia),aY (by lia)];rfl) (λa b hc=>?_) (λa b=>?_) ?_
  ·exact aJ a (by decide)
  ·exact aY (by simp)
  ·rw[aF (by decide)];exact⟨by decide,.str (repS z 0),H,I.tok _,⟨_,rfl⟩,q⟩
 have h1:0 < n:=by lia
 refine P.mul_str (by rw[aY (by lia),aY (by lia)];rfl) (λ_ _ hc=>?_) (λ_ _=>?_) ?_
 ·have h4:(2 ^ 63 - 1:Int) / n ≥ z.length:=by
   refine(Int.le_ediv_iff_mul_le h1).mpr ?_;have h5:((z.length * n.toNat:Nat):Int)=(z.length:Int) * n:=by rw[Int.natCast_mul,Int.toNat_of_nonneg (by lia)]
   have h6:((z.length * n.toNat:Nat):Int)<=(sizeLine:Nat):=by exact_mod_cast h2
   lia
  lia
 ·exact aY (by lia)
 ·rw[aA (by lia)];by_cases hc:(n == 1 || z.length == 0)=true
  ·rw[aF hc];refine⟨.str (repS z n.toNat),H,I,⟨t,?_⟩,q⟩;have:repS z n.toNat=z:=by
    have e:(repS z n.toNat).cps.toList=z.cps.toList:=by
     rw[zlx];rcases(Bool.or_eq_true _ _).mp hc with hc|hc
     ·have:n=1:=by simpa using hc
      subst this;simp
     ·have:z.cps.toList=[]:=by
       have:z.cps.size=0:=by simpa[hz]using hc
       simpa using this
      rw[this];simp
    cases z with|mk c =>
     show repS ⟨c⟩ n.toNat=⟨c⟩
     have e2:(repS ⟨c⟩ n.toNat).cps=c:=Array.toList_inj.mp e;cases hq:repS ⟨c⟩ n.toNat with|mk d=>rw[hq]at e2;cases e2;rfl
   rw[this]
  ·rw[aA hc];exact⟨fits_reps (aY (by lia)),.str (repS z n.toNat),H,I.tok _,⟨_,rfl⟩,q⟩
def rSlS:V->Option Int->Option Int->Hp->VK->Prop:=λx lo hi H Q=>∃z,x=.str z/\z.length<=sizeLine/\Q (.str (Txt.slice z lo hi)) H
theorem zf11:SlR X rSlS:=by
 walk_at"13";obtain⟨z,rfl,hz,q⟩:=h;obtain⟨t,rfl⟩:=rx;obtain⟨o,ho,hc,hd⟩:=hs;have go:∀(l u:Option (Int×Tok)),partValue l=vl->partValue u=vu->l.map (·.1)=lo->u.map (·.1)=hi->aI (aM X.prog X.w) X.A (eI (.str z t) (.ref sl)) (EP X pins Y Q) X.xe s:=λl u e1 e2 e3 e4=>by
  subst e3 e4;refine wpAny_getItem_str_slice (l:=l) (u:=u) (st:=none) ⟨o,ho,hc,by rw[e1,e2];exact hd⟩ rfl (post_val_or_str ⟨wZ (Txt.slice_le z _ _) hz,λt' k=>?_⟩);exact⟨.str (Txt.slice z (l.map (·.1)) (u.map (·.1))),H,I.tok _,⟨_,rfl⟩,q⟩
 refine⟨"str",_,F.slot_str_getitem.lookup,h8 _ _ _,?_⟩;cases pl with
|none=>cases pu with
 |none=>exact go none none rfl rfl rfl rfl
 |int j u=>exact go none (some (j,u)) rfl rfl rfl rfl
|int i t=>cases pu with
 |none=>exact go (some (i,t)) none rfl rfl rfl rfl
 |int j u=>exact go (some (i,t)) (some (j,u)) rfl rfl rfl rfl
end
section
variable {prog:aN}{w:aQ}{A:bB}{E:aC->aH->Prop}{s:aH}
theorem zfb{t:aE}{items}{x:aC}{Q:aC->aH->Prop}(hit:s.heap.IsTupleIter it t i)
  (ht:s.heap.IsTuple t items) (hx:items[i]?=some x) (hQ:∀h',h'.IsTupleIter it t (i+1)->bD it s.heap h'->Q x { s with heap:=h' }) :
  aI (aM prog w) A (bA (.ref it)) Q E s:=by
 obtain⟨o,ho,hc,hd⟩:=id hit;obtain⟨ol,hol,_,nl,hdl⟩:=ht;unfold bA;refine aG (b6 (name:=xG "__next__") hit.typeIs cB
  (cI cB hit.typeIs eU ?_ (eQ _)))
 show aI _ _ (fX (.ref it) 0 >>= _) _ _ s;refine aG (bJ ho hd (x:=.ref t) rfl ?_);show aI _ _ (if(vX t == xI)=true then _ else _) _ _ s;rw[aA (show ¬((vX t == xI)=true)from v5)];show aI _ _ (fX (.ref it) 1 >>= _) _ _ s;refine aG (bJ ho hd (x:=.int i 0) rfl ?_);show aI _ _ (iS (.ref t) >>= _) _ _ s;refine aG (bU hol hdl ?_);simp only[vZ,hx];refine aG (iM ho hd (by simp) (aK ⟨x,rfl,aK (hQ _ ?_ (Heap.SameBut.update ..))⟩));exact⟨_,uaK _ ho (Obj.isFreed_of_fields (gP hd _)),(Obj.cls_mapFields ..).trans hc,by
  rw[gP hd];simp[hU]⟩
theorem ztc{t:aE}{items}{Q:aC->aH->Prop}(hh:A.handled=none)
  (hit:s.heap.IsTupleIter it t i) (ht:s.heap.IsTuple t items) (hx:items[i]?=none)
  (hE:∀h' e,eR it s.heap h'->(∃o,h'.get? e=some o/\o.cls=.type "StopIteration")->E (.ref e) { s with heap:=h' }) :
  aI (aM prog w) A (bA (.ref it)) Q E s:=by
 obtain⟨o,ho,hc,hd⟩:=id hit;obtain⟨ol,hol,_,nl,hdl⟩:=ht;unfold bA;refine aG (b6 (name:=xG "__next__") hit.typeIs cB
  (cI cB hit.typeIs eU ?_ (eQ _)))
 show aI _ _ (fX (.ref it) 0 >>= _) _ _ s;refine aG (bJ ho hd (x:=.ref t) rfl ?_);show aI _ _ (if(vX t == xI)=true then _ else _) _ _ s;rw[aA (show ¬((vX t == xI)=true)from v5)];show aI _ _ (fX (.ref it) 1 >>= _) _ _ s;refine aG (bJ ho hd (x:=.int i 0) rfl ?_);show aI _ _ (iS (.ref t) >>= _) _ _ s;refine aG (bU hol hdl ?_);simp only[vZ,hx];refine aG (f8 (aG (iM ho hd (by simp) ?_)));show aI _ _ (newExc (.type "StopIteration") [] >>= _) _ _ _;refine aG ?_;simp only[newExc,newTuple];refine aG (bZ ?_ (by size_fits));refine aG (m:=iP _ _) (wpAny_of_eq (a:=xI) (by first|rfl|(simp only[iP];rfl)) ?_);refine bZ ?_ (by size_fits);simp only[raiseNew];refine aG (wpAny_handled ?_)
 first|rw[show A.in1.handled=none from hh]|rw[hh]
 refine aG (aK (wpAny_throw ?_));exact hE _ _ (((Heap.SameBut.update ..).extBut.push _).push _) ⟨_,wF _ rfl,rfl⟩
end
structure Nx(P:aN)(w:aQ)(K:Fg)(J:It)(it:aE)(st:Nat->aT->Prop):Prop where
 obj:∀i h,st i h->∃o,h.get? it=some o/\∀v,o.data≠.cell v
 keep:∀i h h',st i h->(∀o,h.get? it=some o->h'.get? it=some o)->st i h'
 item:∀(X:Cx),X.prog=P->X.w=w->X.K=K->∀(A:bB)(i:Nat)(pins:List (aE×Obj))(s:aH)(Y:St)(H:Hp)(Q:aC->aH->Prop)(E:aC->aH->Prop),Inv X pins Y H s->st i s.heap->J.go i H ->
  (∀u x h' tk,RelV x u->J.yld i H x H->st (i+1) h'->bD it s.heap h'->Q u { s with heap:=h',toks:=tk })->aI (aM P w) A (bA (.ref it)) Q E s
 done:∀(X:Cx),X.prog=P->X.w=w->X.K=K->∀(A:bB)(i:Nat)(pins:List (aE×Obj))(s:aH)(Y:St)(H:Hp)(Q:aC->aH->Prop)(E:aC->aH->Prop),A.handled=none->Inv X pins Y H s->st i s.heap->J.stop i H ->
  (∀h' e,eR it s.heap h'->(∃o,h'.get? e=some o/\o.cls=.type "StopIteration")->E (.ref e) { s with heap:=h' })->aI (aM P w) A (bA (.ref it)) Q E s
theorem zi31{P:aN}(a it:aE):Nx P w K (Itl K a) it (λi h=>h.IsListIter it a i) where
 obj:=λi h st=>by
  obtain⟨o,e,c,d⟩:=st;exact⟨o,e,λv z=>by rw[d]at z;cases z⟩
 keep:=λi h h' st k=>st.at k
 item:=by
  walk_at"23";subst hP hw hK;obtain⟨xs,x,hq,hx⟩:=hg;obtain⟨its,rv,p,hz⟩:=I.list hq;obtain⟨u,hu,ru⟩:=rv.get hx;exact wpAny_nextOf_list_item st p.isList (x:=u) (by simpa using hu) λh' st' sb=>hQ u x h' s.toks ru ⟨rfl,λys hy=>by rw[I.list_inj hy hq];exact hx⟩ st' sb
 done:=by
  walk_at"21";subst hP hw hK;obtain⟨xs,hq,hx⟩:=hg;obtain⟨its,rv,p,hz⟩:=I.list hq;have hl:=rv.length;exact wpAny_nextOf_list_end hh st p.isList (by simp;lia) hE
theorem zm61{P:aN}(a it:aE):Nx P w K (Itt K a) it (λi h=>h.IsTupleIter it a i) where
 obj:=λi h st=>by
  obtain⟨o,e,c,d⟩:=st;exact⟨o,e,λv z=>by rw[d]at z;cases z⟩
 keep:=λi h h' st k=>st.at k
 item:=by
  walk_at"23";subst hP hw hK;obtain⟨xs,x,hq,hx⟩:=hg;obtain⟨its,rv,p,hz⟩:=I.tuple hq;obtain⟨u,hu,ru⟩:=rv.get hx;exact zfb st (show s.heap.IsTuple a its.toArray from p) (x:=u) (by simpa using hu) λh' st' sb=>hQ u x h' s.toks ru ⟨rfl,λys hy=>by rw[I.tuple_inj hy hq];exact hx⟩ st' sb
 done:=by
  walk_at"21";subst hP hw hK;obtain⟨xs,hq,hx⟩:=hg;obtain⟨its,rv,p,hz⟩:=I.tuple hq;have hl:=rv.length;exact ztc hh st (show s.heap.IsTuple a its.toArray from p) (by simp;lia) hE
theorem zl4{H:Hp}{tk:Nat}(I:Inv X pins Y H s)(f:FpOk X pins H b)(k:bD b s.heap h'):Inv X pins Y H { s with heap:=h',toks:=tk } :=
 let ⟨f0,f1,_,f3,f4,f5⟩:=f
 I.turned (λc o hc e=>(k.2 c hc).trans e) f0 f1 f3 f4 f5
theorem zbx{H:Hp}{tk:Nat}(I:Inv X pins Y H s)(f:FpOk X pins H b)(k:eR b s.heap h'):Inv X pins Y H { s with heap:=h',toks:=tk } :=
 let ⟨f0,f1,_,f3,f4,f5⟩:=f
 I.turned (λc o hc e=>k c o hc e) f0 f1 f3 f4 f5
structure ZAp(z TI TO i1 i2:aE):Prop where
 TIz:TI≠z
 TOz:TO≠z
 i1z:i1≠z
 i2z:i2≠z
 TITO:TI≠TO
 TIi1:TI≠i1
 TIi2:TI≠i2
 TOi1:TO≠i1
 TOi2:TO≠i2
 i12:i1≠i2
structure ZSt(z TI TO i1 i2:aE)(f0:aC)(st1 st2:Nat->aT->Prop)(i:Nat)(h:aT):Prop where
 z:e8 h z TI TO f0
 TI:d3 h TI (.ref i1) (.ref i2)
 TO:∃a b,d3 h TO a b
 s1:st1 i h
 s2:st2 i h
section
variable {X:Cx}{pins:List (aE×Obj)}{Y:St}{H:Hp}{s:aH}{J1 J2:It}{z TI TO i1 i2:aE}{st1 st2:Nat->aT->Prop}{i:Nat}
theorem zrx{Q:aC->aH->Prop}(N1:Nx X.prog X.w X.K J1 i1 st1)(N2:Nx X.prog X.w X.K J2 i2 st2)(D:ZAp z TI TO i1 i2)(I:Inv X pins Y H s)
  (fz:FpOk X pins H z) (fTO:FpOk X pins H TO) (f1:FpOk X pins H i1) (f2:FpOk X pins H i2) (S:ZSt z TI TO i1 i2 .none st1 st2 i s.heap) (g1:J1.go i H) (g2:J2.go i H)
  (hQ:∀p x1 x2 s',H p=none->p≠z->p≠TI->p≠TO->p≠i1->p≠i2->J1.yld i H x1 H->J2.yld i H x2 H->Inv X pins Y (upd H p (.tup [x1,x2])) s'->ZSt z TI TO i1 i2 (hU p) st1 st2 (i+1) s'.heap->Q (.ref p) s') :
  aI (aM X.prog X.w) A (Builtin.«zip.__next__» ⟨[.ref z],[]⟩) (λfin s'=>∃v,fin=.done (.ret v)/\Q v s') E s:=by
 obtain⟨hz,hTI,⟨a,b,hTO⟩,h1,h2⟩:=S;show aI _ _ (fX (.ref z) 2 >>= _) _ _ _;refine aG (bJ hz rfl (x:=.bool false) rfl ?_);show aI _ _ (fX (.ref z) 3 >>= _) _ _ _;refine aG (bJ hz rfl (x:=.ref TI) rfl ?_);refine aG (bU hTI rfl ?_);show aI _ _ (bP (.ref z) >>= _) _ _ _;refine aG ?_;unfold bP;refine aG (bJ hz rfl (x:=.none) rfl (aK ?_));simp only[if_true];refine aG (f8 ?_);refine aG (bJ hz rfl (x:=.ref TO) rfl ?_);refine aG (b8 hz (by simp) λh₁ hz₁ hs₁=>?_)
 replace hz₁:e8 h₁ z TI TO .ellipsis:=hz₁
 have I1:Inv X pins Y H { s with heap:=h₁ }:=zl4 (tk:=s.toks) I fz hs₁;refine aG ?_;simp only[List.zipIdx_cons,List.zipIdx_nil,k9,j4];refine aG (aG (eV ?_));show aI _ _ (bA (.ref i1) >>= _) _ _ _;have a1:st1 i h₁:=N1.keep _ _ _ h1 λo e=>hs₁.extBut _ _ D.i1z e;refine aG (N1.item X rfl rfl rfl _ i pins _ Y H _ _ I1 a1 g1 λx x1 h₂ tk₂ r1 y1 b1 hs₂=>aK ?_)
 replace hs₂:bD i1 h₁ h₂:=hs₂
 have I2:Inv X pins Y H { s with heap:=h₂,toks:=tk₂ }:=zl4 (s:={ s with heap:=h₁ }) (tk:=tk₂) I1 f1 hs₂;have hTO₂:d3 h₂ TO a b:=hs₂.extBut _ _ D.TOi1 (hs₁.extBut _ _ D.TOz hTO);refine aG (bU hTO₂ rfl ?_);refine aG (eB (s:={ s with heap:=h₂,toks:=tk₂ }) hTO₂ λh₃ hTO₃ hs₃=>?_)
 replace hTO₃:d3 h₃ TO x b:=hTO₃
 replace hs₃:bD TO h₂ h₃:=hs₃
 have I3:Inv X pins Y H { s with heap:=h₃,toks:=tk₂ }:=zl4 (s:={ s with heap:=h₂,toks:=tk₂ }) (tk:=tk₂) I2 fTO hs₃;refine aG (gV (aK ?_));refine aG (aG (eV ?_));show aI _ _ (bA (.ref i2) >>= _) _ _ _;have a2:st2 i h₃:=N2.keep _ _ _ h2 λo e=>hs₃.extBut _ _ D.TOi2.symm (hs₂.extBut _ _ D.i12.symm (hs₁.extBut _ _ D.i2z e));refine aG (N2.item X rfl rfl rfl _ i pins _ Y H _ _ I3 a2 g2 λy x2 h₄ tk₄ r2 y2 b2 hs₄=>aK ?_)
 replace hs₄:bD i2 h₃ h₄:=hs₄
 have I4:Inv X pins Y H { s with heap:=h₄,toks:=tk₄ }:=zl4 (s:={ s with heap:=h₃,toks:=tk₂ }) (tk:=tk₄) I3 f2 hs₄;have hTO₄:d3 h₄ TO x b:=hs₄.extBut _ _ D.TOi2 hTO₃;refine aG (bU hTO₄ rfl ?_);refine aG (eB (s:={ s with heap:=h₄,toks:=tk₄ }) hTO₄ λh₅ hTO₅ hs₅=>?_)
 replace hTO₅:d3 h₅ TO x y:=hTO₅
 replace hs₅:bD TO h₄ h₅:=hs₅
 have I5:Inv X pins Y H { s with heap:=h₅,toks:=tk₄ }:=zl4 (s:={ s with heap:=h₄,toks:=tk₄ }) (tk:=tk₄) I4 fTO hs₅;refine aG (gV (aK (aK ?_)));refine aG (bU hTO₅ rfl ?_);refine aG (wpAny_newTuple ?_);have hz₅:e8 h₅ z TI TO .ellipsis:=hs₅.extBut _ _ D.TOz.symm (hs₄.extBut _ _ D.i2z.symm (hs₃.extBut _ _ D.TOz.symm (hs₂.extBut _ _ D.i1z.symm hz₁)));have hTI₅:d3 h₅ TI (.ref i1) (.ref i2):=hs₅.extBut _ _ D.TITO (hs₄.extBut _ _ D.TIi2 (hs₃.extBut _ _ D.TITO (hs₂.extBut _ _ D.TIi1 (hs₁.extBut _ _ D.TIz hTI))));have c1:st1 (i+1) h₅:=N1.keep _ _ _ b1 λo e=>hs₅.extBut _ _ D.TOi1.symm (hs₄.extBut _ _ D.i12 (hs₃.extBut _ _ D.TOi1.symm e));have c2:st2 (i+1) h₅:=N2.keep _ _ _ b2 λo e=>hs₅.extBut _ _ D.TOi2.symm e;have hp:H h₅.objs.size=none:=I5.hok.fresh (u7 _);have I6:Inv X pins Y (upd H h₅.objs.size (.tup [x1,x2])) { s with heap:=h₅.push { cls:=.type "tuple",data:=.seq #[x,y] },toks:=tk₄ }:=by
  refine I5.laid (t':=tk₄) (o:=.tup [x1,x2]) (λb ob q=>vT _ q) (u7 _) ?_;exact⟨by show 2<=sizeLine;rw[aW];decide,[x,y],.cons r1 (.cons r2 .nil),_,wF _ rfl,rfl,0,rfl⟩
 have lt:∀{c:aE}{o:Obj},h₅.get? c=some o->h₅.objs.size≠c:=λe=>y9 (vY e);obtain⟨o1,e1,_⟩:=N1.obj _ _ c1;obtain⟨o2,e2,_⟩:=N2.obj _ _ c2;have fz':FpOk X pins (upd H h₅.objs.size (.tup [x1,x2])) z:=⟨by rw[ze1 (lt hz₅).symm];exact fz.1,fz.2⟩
 show aI _ _ (dG (.ref z) (.ref h₅.objs.size) >>= _) _ _ _;refine aG ?_;unfold dG;have hz₆:e8 (h₅.push { cls:=.type "tuple",data:=.seq #[x,y] }) z TI TO .ellipsis:=vT _ hz₅;refine aG (b8 hz₆ (by simp) λh₇ hz₇ hs₇=>?_)
 replace hz₇:e8 h₇ z TI TO (hU h₅.objs.size):=hz₇
 have I7:Inv X pins Y (upd H h₅.objs.size (.tup [x1,x2])) { s with heap:=h₇,toks:=tk₄ }:=zl4 (s:={ s with heap:=h₅.push { cls:=.type "tuple",data:=.seq #[x,y] },toks:=tk₄ }) (tk:=tk₄) I6 fz' hs₇;refine b8 hz₇ (by simp) λh₈ hz₈ hs₈=>?_
 replace hz₈:e8 h₈ z TI TO (hU h₅.objs.size):=hz₈
 have I8:Inv X pins Y (upd H h₅.objs.size (.tup [x1,x2])) { s with heap:=h₈,toks:=tk₄ }:=zl4 (s:={ s with heap:=h₇,toks:=tk₄ }) (tk:=tk₄) I7 fz' hs₈;have up:∀c o,c≠z->h₅.get? c=some o->h₈.get? c=some o:=λc o c1 e=>hs₈.extBut _ _ c1 (hs₇.extBut _ _ c1 (vT _ e));refine aK ⟨_,rfl,?_⟩;exact hQ h₅.objs.size x1 x2 _ hp (lt hz₅) (lt hTI₅) (lt hTO₅) (lt e1) (lt e2) y1 y2 I8 ⟨hz₈,up _ _ D.TIz hTI₅,⟨_,_,up _ _ D.TOz hTO₅⟩,N1.keep _ _ _ c1 λo e=>up _ o D.i1z e,N2.keep _ _ _ c2 λo e=>up _ o D.i2z e⟩
theorem zn41{E:aC->aH->Prop}{Q:Fin->aH->Prop}(hh:A.handled=none)(N1:Nx X.prog X.w X.K J1 i1 st1)(N2:Nx X.prog X.w X.K J2 i2 st2)(D:ZAp z TI TO i1 i2)(I:Inv X pins Y H s)
  (fz:FpOk X pins H z) (fTO:FpOk X pins H TO) (f1:FpOk X pins H i1) (f2:FpOk X pins H i2) (S:ZSt z TI TO i1 i2 .none st1 st2 i s.heap) (g:J1.stop i H \/ (J1.go i H/\J2.stop i H))
  (hE:∀h' e tk,Inv X pins Y H { s with heap:=h',toks:=tk }->(∃o,h'.get? e=some o/\o.cls=.type "StopIteration")->E (.ref e) { s with heap:=h',toks:=tk }) :
  aI (aM X.prog X.w) A (Builtin.«zip.__next__» ⟨[.ref z],[]⟩) Q E s:=by
 obtain⟨hz,hTI,⟨a,b,hTO⟩,h1,h2⟩:=S;show aI _ _ (fX (.ref z) 2 >>= _) _ _ _;refine aG (bJ hz rfl (x:=.bool false) rfl ?_);show aI _ _ (fX (.ref z) 3 >>= _) _ _ _;refine aG (bJ hz rfl (x:=.ref TI) rfl ?_);refine aG (bU hTI rfl ?_);show aI _ _ (bP (.ref z) >>= _) _ _ _;refine aG ?_;unfold bP;refine aG (bJ hz rfl (x:=.none) rfl (aK ?_));simp only[if_true];refine aG (f8 ?_);refine aG (bJ hz rfl (x:=.ref TO) rfl ?_);refine aG (b8 hz (by simp) λh₁ hz₁ hs₁=>?_)
 replace hz₁:e8 h₁ z TI TO .ellipsis:=hz₁
 have I1:Inv X pins Y H { s with heap:=h₁ }:=zl4 (tk:=s.toks) I fz hs₁;refine aG ?_;simp only[List.zipIdx_cons,List.zipIdx_nil,k9,j4];refine aG (aG (eV ?_));show aI _ _ (bA (.ref i1) >>= _) _ _ _;have a1:st1 i h₁:=N1.keep _ _ _ h1 λo e=>hs₁.extBut _ _ D.i1z e;rcases g with g|⟨g1,g2⟩
 ·refine aG (N1.done X rfl rfl rfl _ i pins _ Y H _ _ hh I1 a1 g λh₂ e hs₂ he=>?_)
  replace hs₂:eR i1 h₁ h₂:=hs₂
  have I2:Inv X pins Y H { s with heap:=h₂ }:=zbx (s:={ s with heap:=h₁ }) (tk:=s.toks) I1 f1 hs₂;obtain⟨oe,hoe,hce⟩:=he;have hz₂:e8 h₂ z TI TO .ellipsis:=hs₂ _ _ D.i1z.symm hz₁;have hez:e≠z:=λx=>by subst x;rw[hz₂]at hoe;cases hoe;simp at hce
  exact b8 hz₂ (by simp) λh₃ _ hs₃=>hE h₃ e s.toks (zl4 (s:={ s with heap:=h₂ }) (tk:=s.toks) I2 fz hs₃) ⟨oe,hs₃.extBut _ _ hez hoe,hce⟩
 ·refine aG (N1.item X rfl rfl rfl _ i pins _ Y H _ _ I1 a1 g1 λx x1 h₂ tk₂ r1 y1 b1 hs₂=>aK ?_)
  replace hs₂:bD i1 h₁ h₂:=hs₂
  have I2:Inv X pins Y H { s with heap:=h₂,toks:=tk₂ }:=zl4 (s:={ s with heap:=h₁ }) (tk:=tk₂) I1 f1 hs₂;have hTO₂:d3 h₂ TO a b:=hs₂.extBut _ _ D.TOi1 (hs₁.extBut _ _ D.TOz hTO);refine aG (bU hTO₂ rfl ?_);refine aG (eB (s:={ s with heap:=h₂,toks:=tk₂ }) hTO₂ λh₃ hTO₃ hs₃=>?_)
  replace hs₃:bD TO h₂ h₃:=hs₃
  have I3:Inv X pins Y H { s with heap:=h₃,toks:=tk₂ }:=zl4 (s:={ s with heap:=h₂,toks:=tk₂ }) (tk:=tk₂) I2 fTO hs₃;refine aG (gV (aK ?_));refine aG (aG (eV ?_));show aI _ _ (bA (.ref i2) >>= _) _ _ _;have a2:st2 i h₃:=N2.keep _ _ _ h2 λo e=>hs₃.extBut _ _ D.TOi2.symm (hs₂.extBut _ _ D.i12.symm (hs₁.extBut _ _ D.i2z e));refine aG (N2.done X rfl rfl rfl _ i pins _ Y H _ _ hh I3 a2 g2 λh₄ e hs₄ he=>?_)
  replace hs₄:eR i2 h₃ h₄:=hs₄
  have I4:Inv X pins Y H { s with heap:=h₄,toks:=tk₂ }:=zbx (s:={ s with heap:=h₃,toks:=tk₂ }) (tk:=tk₂) I3 f2 hs₄;obtain⟨oe,hoe,hce⟩:=he;have hz₄:e8 h₄ z TI TO .ellipsis:=hs₄ _ _ D.i2z.symm (hs₃.extBut _ _ D.TOz.symm (hs₂.extBut _ _ D.i1z.symm hz₁));have hez:e≠z:=λx=>by subst x;rw[hz₄]at hoe;cases hoe;simp at hce
  exact b8 hz₄ (by simp) λh₅ _ hs₅=>hE h₅ e tk₂ (zl4 (s:={ s with heap:=h₄,toks:=tk₂ }) (tk:=tk₂) I4 fz hs₅) ⟨oe,hs₅.extBut _ _ hez hoe,hce⟩
end
def Itz(J1 J2:It):It:=⟨λi H=>J1.go i H/\J2.go i H,λi H x H'=>∃x1 x2 p,J1.yld i H x1 H/\J2.yld i H x2 H/\H p=none/\x=.ref p/\H'=upd H p (.tup [x1,x2]),λi H=>J1.stop i H \/ (J1.go i H/\J2.stop i H)⟩
theorem zqx{P:aN}{elts:List aX}{c:_}{J1 J2:It}{z TI TO i1 i2:aE}{st1 st2:Nat->aT->Prop}(N1:Nx P w K J1 i1 st1)(N2:Nx P w K J2 i2 st2)(D:ZAp z TI TO i1 i2) :
  Turn P w K (.Tuple elts c pos) (Itz J1 J2) [z,TI,TO,i1,i2] z (ZSt z TI TO i1 i2 .none st1 st2) where
 mem:=by simp
 obj:=λi h S b hb=>by
  obtain⟨hz,hTI,⟨a,b',hTO⟩,h1,h2⟩:=S;simp at hb;rcases hb with rfl|rfl|rfl|rfl|rfl
  ·exact⟨_,hz,λv q=>by cases q⟩
  ·exact⟨_,hTI,λv q=>by cases q⟩
  ·exact⟨_,hTO,λv q=>by cases q⟩
  ·exact N1.obj _ _ h1
  ·exact N2.obj _ _ h2
 keep:=λi h h' S k=>by
  obtain⟨hz,hTI,⟨a,b',hTO⟩,h1,h2⟩:=S;exact⟨k _ (by simp) _ hz,k _ (by simp) _ hTI,⟨a,b',k _ (by simp) _ hTO⟩,N1.keep _ _ _ h1 λo e=>k _ (by simp) _ e,N2.keep _ _ _ h2 λo e=>k _ (by simp) _ e⟩
 item:=by
  walk_at"12";subst hP hw hK;have hT:s.TypeIs (.ref z) "zip":=⟨_,S.z,rfl⟩
  unfold fT;refine aG (wpAny_attempt (b6 (name:=xG "__next__") hT eA
   (cI eA hT g9
    (zrx N1 N2 D I (hf _ (by simp)) (hf _ (by simp)) (hf _ (by simp)) (hf _ (by simp)) S hg.1 hg.2 λp x1 x2 s' hp n1 n2 n3 n4 n5 y1 y2 I' S'=>aK ?_) (gU _))))
  refine⟨.ref p,rfl,wpAny_letOwnedTupleGo_zip S'.z λh' hz' hs'=>?_⟩;have nn:∀b∈[z,TI,TO,i1,i2],b≠p:=λb hb=>by
   simp at hb;rcases hb with rfl|rfl|rfl|rfl|rfl
   ·exact n1.symm
   ·exact n2.symm
   ·exact n3.symm
   ·exact n4.symm
   ·exact n5.symm
  have fz:FpOk X pins (upd H p (.tup [x1,x2])) z:=⟨by rw[ze1 n1.symm];exact(hf z (by simp)).1,(hf z (by simp)).2⟩
  obtain⟨_,hTI,⟨a,b',hTO⟩,h1,h2⟩:=S';refine⟨.ref p,_,zl4 (tk:=s'.toks) I' fz hs',rfl,⟨x1,x2,p,y1,y2,hp,rfl,rfl⟩,⟨hz',hs'.extBut _ _ D.TIz hTI,⟨a,b',hs'.extBut _ _ D.TOz hTO⟩,N1.keep _ _ _ h1 λo e=>hs'.extBut _ _ D.i1z e,N2.keep _ _ _ h2 λo e=>hs'.extBut _ _ D.i2z e⟩,λb hb=>?_⟩;rw[ze1 (nn b hb)];exact(hf b hb).1
 done:=by
  walk_at"12";subst hP hw hK;have hT:s.TypeIs (.ref z) "zip":=⟨_,S.z,rfl⟩
  unfold fT;refine aG (wpAny_attempt (b6 (name:=xG "__next__") hT eA
   (cI eA hT g9 (zn41 (I.ok.hd hc) N1 N2 D I (hf _ (by simp)) (hf _ (by simp)) (hf _ (by simp)) (hf _ (by simp)) S hg λh' e tk I' he=>?_) (gU _))))
  obtain⟨o,ho,hc⟩:=he;refine aG (wpAny_isInstance (T := "StopIteration") (b:=true) ⟨o,ho,hc⟩ isSubtype_stop ?_);exact aK ⟨rfl,I'⟩
 self:=λ_ _ _ _ _ S h=>gY S.z h
def ze41(h:aT)(v:aC)(ob:Obj):Prop:=∀(prog:aN)(w:aQ)(A:bB)(s:aH)(Q E:aC->aH->Prop),(∀c o,h.get? c=some o->s.heap.get? c=some o)->Q (.ref s.heap.objs.size) { s with heap:=s.heap.push ob }->aI (aM prog w) A (gE v) Q E s
def zipO(h:aT)(o1 o2:Obj):Heap:=((((h.push o1).push o2).push { cls:=.type "tuple",data:=.seq #[.ref h.objs.size,.ref (h.push o1).objs.size] }).push { cls:=.type "tuple",data:=.seq #[.none,.none] }).push
 { cls:=.type "zip",data:=.fields #[.none,.bool false,.bool false,.ref ((h.push o1).push o2).objs.size,.ref (((h.push o1).push o2).push { cls:=.type "tuple",data:=.seq #[.ref h.objs.size,.ref (h.push o1).objs.size] }).objs.size] }
theorem zvq(v1 v2:aC)(o1 o2:Obj) :
  Meets (Builtin.«zip.__new__» ⟨[.type "zip",v1,v2],[]⟩) (λ_ R s=>ze41 s.heap v1 o1/\ze41 s.heap v2 o2 /\
   R (.ok (.ret (.ref ((((s.heap.push o1).push o2).push { cls:=.type "tuple",data:=.seq #[.ref s.heap.objs.size,.ref (s.heap.push o1).objs.size] }).push { cls:=.type "tuple",data:=.seq #[.none,.none] }).objs.size))) { s with heap:=zipO s.heap o1 o2 }) :=
 .of_wp λprog w A R s h=>by
  obtain⟨hp,g,d,tk,os⟩:=s;obtain⟨q1,q2,h⟩:=h;have hsub:=sub_zip;have p1:∀{A:bB}{Q E:aC->aH->Prop},Q (.ref hp.objs.size) ⟨hp.push o1,g,d,tk,os⟩->aI (aM prog w) A (gE v1) Q E ⟨hp,g,d,tk,os⟩:=λ{A Q E} z=>q1 prog w A ⟨hp,g,d,tk,os⟩ Q E (λ_ _ e=>e) z;have p2:∀{A:bB}{Q E:aC->aH->Prop},Q (.ref (hp.push o1).objs.size) ⟨(hp.push o1).push o2,g,d,tk,os⟩->aI (aM prog w) A (gE v2) Q E ⟨hp.push o1,g,d,tk,os⟩:=λ{A Q E} z=>q2 prog w A ⟨hp.push o1,g,d,tk,os⟩ Q E (λ_ _ e=>vT _ e) z
  wp_walk using p1,p2
  exact⟨_,rfl,h⟩
theorem zvu{prog:aN}{w:aQ}{A:bB}{E:aC->aH->Prop}{v1 v2:aC}{o1 o2:Obj}{Q:aC->aH->Prop}(h1:ze41 s.heap v1 o1)(h2:ze41 s.heap v2 o2)
  (h:∀h',e8 h' (s.heap.objs.size+4) (s.heap.objs.size+2) (s.heap.objs.size+3) .none->d3 h' (s.heap.objs.size+2) (.ref s.heap.objs.size) (.ref (s.heap.objs.size+1)) ->
   d3 h' (s.heap.objs.size+3) .none .none->h'.get? s.heap.objs.size=some o1->h'.get? (s.heap.objs.size+1)=some o2->(∀c o,s.heap.get? c=some o->h'.get? c=some o)->Q (.ref (s.heap.objs.size+4)) { s with heap:=h' })
  (f1:o1.isFreed=false) (f2:o2.isFreed=false):aI (aM prog w) A (call (.type "zip") [v1,v2]) Q E s:=by
 refine callType_new F.called_zip (by decide) (F.typeCall_zip_2 _ _) (F.newCall_zip_2 _ _) (λobj=>F.args_object_init_3 obj _ _) F.entry_zip_new (zvq v1 v2 o1 o2) ⟨h1,h2,?_⟩;have z1:(s.heap.push o1).objs.size=s.heap.objs.size+1:=xO ..;have z2:((s.heap.push o1).push o2).objs.size=s.heap.objs.size+2:=by rw[xO,z1]
 have z3:(((s.heap.push o1).push o2).push { cls:=.type "tuple",data:=.seq #[.ref s.heap.objs.size,.ref (s.heap.push o1).objs.size] }).objs.size=s.heap.objs.size+3:=by rw[xO,z2]
 have z4:((((s.heap.push o1).push o2).push { cls:=.type "tuple",data:=.seq #[.ref s.heap.objs.size,.ref (s.heap.push o1).objs.size] }).push { cls:=.type "tuple",data:=.seq #[.none,.none] }).objs.size=s.heap.objs.size+4:=by rw[xO,z3]
 have g5:(zipO s.heap o1 o2).get? ((((s.heap.push o1).push o2).push { cls:=.type "tuple",data:=.seq #[.ref s.heap.objs.size,.ref (s.heap.push o1).objs.size] }).push { cls:=.type "tuple",data:=.seq #[.none,.none] }).objs.size=some _:=wF _ rfl;have g4:(zipO s.heap o1 o2).get? (((s.heap.push o1).push o2).push { cls:=.type "tuple",data:=.seq #[.ref s.heap.objs.size,.ref (s.heap.push o1).objs.size] }).objs.size=some _:=vT _ (wF _ rfl);have g3:(zipO s.heap o1 o2).get? ((s.heap.push o1).push o2).objs.size=some _:=vT _ (vT _ (wF _ rfl));have g2:(zipO s.heap o1 o2).get? (s.heap.push o1).objs.size=some o2:=vT _ (vT _ (vT _ (wF _ f2)));have g1:(zipO s.heap o1 o2).get? s.heap.objs.size=some o1:=vT _ (vT _ (vT _ (vT _ (wF _ f1))));show _/\_;rw[z2,z3,z4]at g5;rw[z1,z2]at g3;rw[z3]at g4;rw[z1]at g2;rw[z4];exact⟨⟨_,g5,rfl⟩,h _ g5 g3 g4 g1 g2 λc o x=>vT _ (vT _ (vT _ (vT _ (vT _ x))))⟩
def kSrc(K:Fg)(x:V)(H:Hp)(R:It->Prop):Prop:=(∃a,x=.ref a/\(∃xs,SqL K H a xs)/\R (Itl K a)) \/ (∃a,x=.ref a/\(∃xs,SqT K H a xs)/\R (Itt K a))
theorem zyl{H:Hp}{x:V}{v:aC}{R:It->Prop}(I:Inv X pins Y H s)(r:RelV x v)(h:kSrc X.K x H R) :
  ∃(J:It)(ob:Obj)(st:aE->Nat->aT->Prop),R J/\ze41 s.heap v ob/\ob.isFreed=false/\(∀it,Nx X.prog X.w X.K J it (st it))/\∀it h,h.get? it=some ob->st it 0 h:=by
 rcases h with⟨a,rfl,⟨xs,hq⟩,hR⟩|⟨a,rfl,⟨xs,hq⟩,hR⟩
 ·cases r;obtain⟨its,rv,p,hz⟩:=I.list hq;refine⟨_,{ cls:=.type "list_iterator",data:=.fields #[.ref a,.int 0 0] },λit i h=>h.IsListIter it a i,hR,λprog w A s1 Q E k q=>?_,rfl,λit=>zi31 a it,λit h e=>⟨_,e,rfl,rfl⟩⟩;exact dJ (p.isList.at λo e=>k a o e) q
 ·cases r;obtain⟨its,rv,p,hz⟩:=I.tuple hq;refine⟨_,{ cls:=.type "tuple_iterator",data:=.fields #[.ref a,.int 0 0] },λit i h=>h.IsTupleIter it a i,hR,λprog w A s1 Q E k q=>?_,rfl,λit=>zm61 a it,λit h e=>⟨_,e,rfl,rfl⟩⟩;obtain⟨o,e,t⟩:=p;exact gK (show s1.heap.IsTuple a its.toArray from⟨o,k a o e,t⟩) q
theorem zap(n:Nat):ZAp (n+4) (n+2) (n+3) n (n+1):=by
 constructor <;> (refine λ(h:(_:Nat)=_)=>?_;lia)
theorem five(n:Nat)(b:Nat)(h:b=n+4 \/ b=n+2 \/ b=n+3 \/ b=n \/ b=n+1):n<=b:=by lia
theorem zt51:a9 "zip"=some (.type "zip"):=by decide +kernel
section
variable {X:Cx}{elts:List aX}
def znc1(K:Fg)(vs:List V)(H:Hp)(R:It->Hp->Prop):Prop:=∃x1 x2,vs=[x1,x2]/\kSrc K x1 H λJ1=>kSrc K x2 H λJ2=>R (Itz J1 J2) H
def iZip(K:Fg)(ta:TA):TI:=λY H R=>ta Y H λvs H1=>znc1 K vs H1 R
theorem zo01(hK:X.K=K){c:_}{tpos:Pos}{a b:aX}{ta:TA}{p pos:Pos}(hg:Gl X "zip")(hm:X.mg "zip"=none)(ha:PA X [a,b] ta)(hs:aS [a,b] X.env=[(false,a8 a X.env),(false,a8 b X.env)]:=by rfl)(hs2:aS [b] X.env=[(false,a8 b X.env)]:=by rfl) :
  PI X (.Tuple elts c tpos) (.Call (.Name "zip" p) [a,b] [] pos) (iZip K ta):=by
 subst hK;walk_at"18";refine Call_ (zhj I hg hm zt51 (bR (thn (ha pos pins s Y H _ I h) λus s1 hz=>?_) (by rw[hs,hs2]) (by rw[hs2];rfl)));obtain⟨vs,H1,I1,r1,q1⟩:=hz;obtain⟨x1,x2,e,q1⟩:=q1;subst e;obtain⟨u1,u2,rfl,r1,r2⟩:=zk21 r1;obtain⟨J1,o1,st1,q2,op1,fr1,n1,z1⟩:=zyl I1 r1 q1;obtain⟨J2,o2,st2,q,op2,fr2,n2,z2⟩:=zyl I1 r2 q2;refine zvu op1 op2 (λh' hz hTI hTO g1 g2 kk=>gY hz ?_) fr1 fr2;have I2:Inv X pins Y H1 { s1 with heap:=h' }:=I1.kept (t':=s1.toks) kk;refine⟨s1.heap.objs.size+4,[s1.heap.objs.size+4,s1.heap.objs.size+2,s1.heap.objs.size+3,s1.heap.objs.size,s1.heap.objs.size+1],_,_,H1,rfl,I2,
  zqx (n1 s1.heap.objs.size) (n2 (s1.heap.objs.size+1)) (zap _),⟨hz,hTI,⟨_,_,hTO⟩,z1 _ _ g1,z2 _ _ g2⟩,λb hb=>?_,q⟩
 have hb':s1.heap.objs.size<=b:=by
  simp at hb;exact five _ _ hb
 exact I1.fpOk hb' (I1.hok.fresh hb')
end
def entM(w:aQ)(e:Str×Tok×aC):DictEntry:=⟨PyData.keyHash w.params e.1,.str e.1 e.2.1,e.2.2⟩
structure KD(w:aQ)(K:Fg)(d:aE)(kvs:List (Str×V)):Prop where
 ne:(d == bV)=false
 ex:∃(l:List (Str×Tok×aC))(n:Nat),K.lookup d=some { cls:=.type "dict",data:=.dict (l.map (entM w)).toArray n }/\Paired (λ(p:Str×V)(q:Str×Tok×aC)=>p.1=q.1/\RelV p.2 q.2.2) kvs l
theorem zd11{w:aQ}{k:Str}:∀{kvs:List (Str×V)}{l:List (Str×Tok×aC)},Paired (λ(p:Str×V)(q:Str×Tok×aC)=>p.1=q.1/\RelV p.2 q.2.2) kvs l ->
  RelO (kvs.lookup k) (((l.map (entM w)).find? λe=>xU k e.key).map (·.val))
|_,_,.nil=>trivial
|_,_,.cons (a:=p) (b:=q) h r=>by
  obtain⟨x,v⟩:=p;obtain⟨y,t,u⟩:=q;obtain⟨e,rv⟩:=h;cases e;have ih:=zd11 (w:=w) (k:=k) r;show RelO (xE k ((x,v) :: _)) (((entM w (x,t,u) :: _).find? λe=>xU k e.key).map (·.val));rw[wG,xX];by_cases hk:k=x
  ·subst hk;have h1:(k == k)=true:=beq_self_eq_true k;have h2:xU k (entM w (k,t,u)).key=true:=by simp[entM,xU]
   rw[h1,h2];exact rv
  ·have h1:(k == x)=false:=beq_eq_false_iff_ne.mpr hk;have h2:xU k (entM w (x,t,u)).key=false:=by
    show(x == k)=false;exact beq_eq_false_iff_ne.mpr λe=>hk e.symm
   rw[h1,h2];exact ih
section
variable {X:Cx}{pins:List (aE×Obj)}{Y:St}{H:Hp}{s:aH}{d:aE}{kvs:List (Str×V)}
theorem KD.map(D:KD X.w X.K d kvs)(I:Inv X pins Y H s):∃f:Str->Option aC,s.heap.MapOf (gC X.prog X.w) d f/\∀k,RelO (kvs.lookup k) (f k):=by
 obtain⟨l,n,e,r⟩:=D.ex;refine⟨λk=>((l.map (entM X.w)).find? λe=>xU k e.key).map (·.val),⟨_,(l.map (entM X.w)).toArray,n,I.kIn d _ e,⟨rfl,rfl,rfl⟩,rfl,λe he=>?_,λk=>?_⟩,λk=>zd11 r⟩
 ·obtain⟨q,_,rfl⟩:=vU.mp (by simpa using he:e∈l.map (entM X.w));exact⟨q.1,by simp[entM,gC,xU],rfl⟩
 ·show findBy (gC X.prog X.w).is _ k=_;unfold findBy;rw[List.find?_toArray];rfl
def rInM(w:aQ)(K:Fg):R2:=λx y H Q=>∃d kvs z,x=.str z/\y=.ref d/\KD w K d kvs/\Q (.bl (kvs.lookup z).isSome) H
def zht(w:aQ)(K:Fg):R2:=λx y H Q=>∃d kvs z,x=.str z/\y=.ref d/\KD w K d kvs/\Q (.bl (!(kvs.lookup z).isSome)) H
def rIxM(w:aQ)(K:Fg):R2:=λx y H Q=>∃d kvs z v,x=.ref d/\y=.str z/\KD w K d kvs/\kvs.lookup z=some v/\Q v H
theorem zxd{a:Option V}{b:Option aC}(r:RelO a b):b.isSome=a.isSome:=by
 cases a <;> cases b <;> first|rfl|exact False.elim r
theorem zf81(hw:X.w=w)(hK:X.K=K):OpR X (a7 .In) (rInM w K):=by
 subst hw hK;walk_at"0";obtain⟨d,kvs,z,rfl,rfl,D,q⟩:=h;obtain⟨t,rfl⟩:=rx;cases ry;obtain⟨f,m,r⟩:=D.map I;refine wpAny_in_of (k:=z) (fG X.prog X.w z t) D.ne m ?_;rw[zxd (r z)];exact⟨.bl _,H,I.tok _,rfl,q⟩
theorem zrq(hw:X.w=w)(hK:X.K=K):OpR X (a7 .NotIn) (zht w K):=by
 subst hw hK;walk_at"0";obtain⟨d,kvs,z,rfl,rfl,D,q⟩:=h;obtain⟨t,rfl⟩:=rx;cases ry;obtain⟨f,m,r⟩:=D.map I;refine iN (k:=z) (fG X.prog X.w z t) D.ne m ?_;rw[zxd (r z)];exact⟨.bl _,H,I.tok _,rfl,q⟩
theorem ix_M(hw:X.w=w)(hK:X.K=K):IxR X (rIxM w K):=by
 subst hw hK;walk_at"9";obtain⟨d,kvs,z,r0,rfl,rfl,D,e,q⟩:=h;cases rx;obtain⟨t,rfl⟩:=ry;obtain⟨f,m,r⟩:=D.map I;have rz:=r z;rw[e]at rz;obtain⟨u,eu,ru⟩:=rz.some_of;exact f6 m.typeIs ğh.lookup (gZ (k:=z) (fG X.prog X.w z t) m eu ⟨r0,H,I.tok _,ru,q⟩) hs
end
def Walks(J:It)(H:Hp)(n:Nat)(Yv:Nat->V->Hp->Prop):Prop:=∀H',Same H H'->(∀i,i < n->J.go i H')/\J.stop n H'/\∀i x H2,i < n->J.yld i H' x H2->Same H' H2/\Yv i x H2
def zmb1:R2:=λx y H Q=>zu91 x y H Q \/ zpa1 x y H Q
def rInW(w:aQ)(K:Fg):R2:=λx y H Q=>rInU K x y H Q \/ rInM w K x y H Q
def zcu(w:aQ)(K:Fg):R2:=λx y H Q=>zau K x y H Q \/ zht w K x y H Q
def rIxW(w:aQ)(K:Fg):R2:=λx y H Q=>rIx K x y H Q \/ rIxM w K x y H Q
def rSlW(K:Fg):V->Option Int->Option Int->Hp->VK->Prop:=λx lo hi H Q=>rSlU K x lo hi H Q \/ rSlS x lo hi H Q
def zi61(K:Fg)(x:V)(H:Hp)(R:It->Hp->Prop):Prop:=zfc1 K x H R \/ ∃z:Str,x=.str z/\z.cps.all (· < 128)=true/\R (Its z) H
def iW(K:Fg)(tl:TE):TI:=λY H R=>tl Y H λx H1=>zi61 K x H1 R
section
variable {X:Cx}{w:aQ}{K:Fg}{tg:aX}
theorem zl41:OpR X (bL .Mult) zmb1:=zj01.or zi01
theorem zb71(hw:X.w=w)(hK:X.K=K):OpR X (a7 .In) (rInW w K):=(ze61 hK).or (zf81 hw hK)
theorem zwq(hw:X.w=w)(hK:X.K=K):OpR X (a7 .NotIn) (zcu w K):=(zns hK).or (zrq hw hK)
theorem ix_W(hw:X.w=w)(hK:X.K=K):IxR X (rIxW w K):=(ix_U hK).or (ix_M hw hK)
theorem sl_W(hK:X.K=K):SlR X (rSlW K):=(sl_U hK).or zf11
theorem pi_W(h:X.K=K){l:aX}{tl:TE}(hl:PE X l tl):PI X tg l (iW K tl):=by
 subst h;walk_at"18";refine thn (hl pins s Y H _ I h) λv s1 hz=>?_;obtain⟨x,H1,I1,r1,q1⟩:=hz;rcases q1 with(⟨a,e,⟨xs,hq⟩,q⟩|⟨a,e,⟨xs,hq⟩,q⟩)|⟨z,rfl,ha,q⟩
 ·subst e;cases r1;obtain⟨its,rv,p,hz⟩:=I1.list hq;refine dJ p.isList ?_;refine⟨s1.heap.objs.size,[s1.heap.objs.size],_,_,H1,rfl,I1.kept (t':=s1.toks) λb o e=>vT _ e,zsr a _,⟨_,wF _ rfl,rfl,rfl⟩,λb hb=>?_,q⟩;have e:b=s1.heap.objs.size:=by simpa using hb
  subst e;exact I1.fpOk (u7 _) (I1.hok.fresh (u7 _))
 ·subst e;cases r1;obtain⟨its,rv,p,hz⟩:=I1.tuple hq;refine gK (show s1.heap.IsTuple a its.toArray from p) ?_;refine⟨s1.heap.objs.size,[s1.heap.objs.size],_,_,H1,rfl,I1.kept (t':=s1.toks) λb o e=>vT _ e,zsn a _,⟨_,wF _ rfl,rfl,rfl⟩,λb hb=>?_,q⟩;have e:b=s1.heap.objs.size:=by simpa using hb
  subst e;exact I1.fpOk (u7 _) (I1.hok.fresh (u7 _))
 ·obtain⟨t,rfl⟩:=r1;refine wpAny_pyIter_ascii ha ?_;refine⟨s1.heap.objs.size,[s1.heap.objs.size],_,_,H1,rfl,I1.kept (t':=s1.toks) λb o e=>vT _ e,zmu z t _,⟨_,wF _ rfl,rfl,rfl⟩,λb hb=>?_,q⟩;have e:b=s1.heap.objs.size:=by simpa using hb
  subst e;exact I1.fpOk (u7 _) (I1.hok.fresh (u7 _))
def zwa1(K:Fg):List V->Hp->VK->Prop:=λxs H Q=>∃p ys,xs=[.ref p]/\(SqL K H p ys \/ SqT K H p ys)/\∀l,H l=none->Q (.ref l) (upd H l (.lst ys))
theorem zq5(h:X.K=K):CallR X (.type "list") (zwa1 K):=h ▸ zxi
end
section
variable {K:Fg}{w:aQ}{H:Hp}{Q:VK}{a b:aE}{xs ys:List V}{i:Int}{v:V}{z:Str}{kvs:List (Str×V)}{d:aE}
theorem zrb1(h:SqT K H a xs)(e:atI xs i=some v)(q:Q v H):rIxW w K (.ref a) (.int i) H Q:=.inl (zob1 h e q)
end
theorem sIx_nat{d:Nat}(h:a<=n):HT.sIx n d (some (a:Int))=a:=by
 unfold HT.sIx;simp;rw[aA (by lia)];lia
theorem sIx_none{d:Nat}:HT.sIx n d none=d:=rfl
theorem zvi(h:a<=xs.length):cutV xs (some (a:Int)) none=xs.drop a:=by
 unfold cutV;rw[sIx_nat h,sIx_none];exact xY (by simp)
theorem zbr{b:Nat}(hb:b<=xs.length):cutV xs none (some (b:Int))=xs.take b:=by
 unfold cutV;rw[sIx_none,sIx_nat hb];simp
theorem zl8{pos:Pos}(hK:X.K=K){k:Nat}{t:TGs}(hc:X.calm=true)(h:PGs X es t)
  (hn:(cS es X.env).length=n:=by rfl) (hst:(cS es X.env).findIdx? (·.1)=none:=by rfl):PG X (.Tuple es k pos) (gTup K n t):=by
 subst hK;exact zb81 hc h hn hst
def kBM(K:Fg)(T:String)(r:V->List V->Hp->VK->Prop)(t:TA)(Y:St)(x:V)(H:Hp)(Q:VK):Prop:=tyV K T x H/\t Y H λxs H2=>r x xs H2 Q
def tBMU(K:Fg)(T:String)(r:V->List V->Hp->VK->Prop)(to:TE)(t:TA):TE:=λY H Q=>to Y H λx H1=>kBM K T r t Y x H1 Q
theorem zk8(hK:X.K=K){o e:aX}{to:TE}{t:TA}{name:Str}{apos cpos:Pos}{T id:String}{r:V->List V->Hp->VK->Prop}(pa:f9 T)(slot:Slot T name id)(hty:iY (.builtin id)=pure (.type "method_descriptor"))(hm:MtR X id r)(ho:PE X o to)(ha:PA X (e :: es) t)
  (hbase:cL o name X.env (a8 o X.env)=a8 o X.env:=by rfl)
  (hfew:((bS cpos (aS (e :: es) X.env)).all (λx=>!x.1) && (eM cpos (cZ [] X.env)).all (λx=>x.1.isSome)
   && decide ((e :: es).length+([]:List iK).length+(if([]:List iK).isEmpty then 0 else 1) < 30))=true:=by rfl)
  (hline:(apos.endLine == cpos.line)=true:=by rfl) (hs:aS (e :: es) X.env=(false,a8 e X.env) :: aS es X.env:=by rfl) (hplain:(bS cpos (aS es X.env)).any (·.1)=false:=by rfl) :
  PE X (.Call (.Attribute o name apos) (e :: es) [] cpos) (tBMU K T r to t):=by
 subst hK;exact zgc1 pa slot hty hm ho ha hbase hfew hline hs hplain
def zlz(_ j:Int):Prop:=0 < j/\j < 2 ^ 200
theorem zwl{j:Int}(h0:0 < j)(h1:j < 2 ^ 200):j.natAbs.log2 < 9000:=by
 have h:j.natAbs.log2 < 200:=(Nat.log2_lt (by lia)).mpr (by lia);lia
theorem zu1:OpR X (bL .FloorDiv) (rI zlz λi j=>.int (i / j)):=opI λi j _ _ _ _ _ hc q=>by
 have h1:(0:Int) < j:=hc.1;exact floordiv_int (by lia) (by rw[uaO i (by lia)];exact q) (.inl (PyProof.noPylong_of_log2 (zwl hc.1 hc.2)))
def zom{α:Type}(xs:List α)(lo hi st:Option Int):List α:=(e9 (bK lo hi st xs.length).1 (bK lo hi st xs.length).2.1 (bK lo hi st xs.length).2.2).filterMap (xs[·]?)
theorem zbe{xs:List V}{vs:List aC}(h:Vals xs vs):∀js:List Nat,Vals (js.filterMap (xs[·]?)) (js.filterMap (vs[·]?))
|[]=>.nil
|j :: js=>by
  have ih:=zbe h js;cases hn:xs[j]? with
 |some n =>
   obtain⟨u,hu,r⟩:=h.get hn;simp only[xB,hn,hu];exact .cons r ih
 |none =>
   have hv:=h.none_of hn;simp only[xB,hn,hv];exact ih
theorem zkr{vs:List aC}(h:Vals xs vs)(lo hi st:Option Int):Vals (zom xs lo hi st) (fN vs.toArray lo hi st).toList:=by
 have e:(fN vs.toArray lo hi st).toList=(e9 (bK lo hi st xs.length).1 (bK lo hi st xs.length).2.1 (bK lo hi st xs.length).2.2).filterMap (vs[·]?):=by
  simp[fN,h.length]
 rw[e];exact zbe h _
def rSl3(K:Fg):V->Option Int->Option Int->Option Int->Hp->VK->Prop:=λx lo hi st H Q=>∃a xs,x=.ref a/\SqL K H a xs/\st≠some 0/\∀p,H p=none->Q (.ref p) (upd H p (.lst (zom xs lo hi st)))
def tSl3(K:Fg)(te:TE)(tl th tk:TO):TE:=λY H Q=>te Y H λx H1=>tl Y H1 λl H2=>th Y H2 λu H3=>tk Y H3 λst H4=>rSl3 K x l u st H4 Q
theorem zzq(hK:X.K=K){e:aX}{te:TE}{lo hi:Option aX}{st:aX}{tl th tk:TO}{p2:Pos}(he:PE X e te)(hl:PO X lo tl)(hu:PO X hi th)(hs:PO X (some st) tk):PE X (.Subscript e (.Slice lo hi (some st) p2) pos) (tSl3 K te tl th tk):=by
 subst hK;walk_at"2";refine iB (thn (he pins s Y H _ I h) λv s1 hz=>?_);obtain⟨x,H1,I1,r1,q1⟩:=hz;refine wpAny_Slice (thn (hl pins s1 Y H1 _ I1 q1) λvl s2 ⟨l,H2,I2,pl,q2⟩=>thn (hu pins s2 Y H2 _ I2 q2) λvu s3 ⟨u,H3,I3,pu,q3⟩=>thn (hs pins s3 Y H3 _ I3 q3) λvk s4 hz=>?_);obtain⟨k,H4,I4,pk,q4⟩:=hz;obtain⟨a,xs,rfl,hx,h0,q⟩:=q4;cases r1;have I5:Inv X pins Y H4 { s4 with heap:=s4.heap.push { cls:=.type "slice",data:=.fields #[vl,vu,vk] } }:=I4.kept (t':=s4.toks) λb ob q=>vT _ q;obtain⟨its,r,ht,hz⟩:=I5.list hx;have hlen:=r.length;refine f6 (T := "list") (ops:=[.ref a,.ref s4.heap.objs.size]) ht.isList.typeIs slot_list_getitem.lookup (fH ht.isList (Heap.IsSliceOf.new ..) pl pu pk h0 ?_ (by rw[v3] <;> lia)) (by with_unfolding_all rfl);have rv:=zkr r l u k;refine⟨.ref _,_,I5.laid (t':=s4.toks) (o:=.lst (zom xs l u k)) (λb ob q=>vT _ q) (u7 _) ?_,rfl,q _ (I5.hok.fresh (u7 _))⟩;refine⟨?_,_,0,rv,?_⟩
 ·have:=slicePick_size_le its.toArray l u k;have e:=rv.length;simp only[yI,v3]at this e;lia
 ·rw[Array.toArray_toList];exact wF _ rfl
def rSum(K:Fg):List V->Hp->VK->Prop:=λvs H Q=>∃(a:aE)(ns:List Int),vs=[.ref a]/\SqL K H a (ns.map V.int)/\Q (.int ns.sum) H
theorem zh8(h:X.K=K)(hc:X.calm=true):CallR X (.builtin "sum") (rSum K):=by
 subst h;walk_at"7";obtain⟨a,ns,rfl,hx,q⟩:=h;obtain⟨u,rfl,r1⟩:=zxs r;cases r1;obtain⟨its,rv,p,hz⟩:=I.list hx;have hi:cY its ns:=zyb rv;obtain⟨ys,hy⟩:=hi.allInts.items;have hl:s.heap.IsList a (intItems ys):=hy ▸ p.isList;refine sum_intListG (I.ok.hd hc) hl λh' tk t' hk=>?_;have e1:ns=ys.toList.map (·.1):=by
  rw[<- nums_intItems,<- hy];exact(show numsOf its.toArray.toList=ns from hi.numsOf).symm
 have e2:preSum (numAt ys) ys.size=ns.sum:=by
  rw[preSum_eq,xY (by simp),e1]
 rw[e2];exact⟨.int ns.sum,H,I.kept hk,⟨_,rfl⟩,q⟩
def zkt:List V->Hp->VK->Prop:=λvs H Q=>∃i j,vs=[.int i,.int j]/\0 < j/\j < 2 ^ 200/\∀p,H p=none->Q (.ref p) (upd H p (.tup [.int (i / j),.int (i % j)]))
theorem zki:CallR X (.builtin "divmod") zkt:=by
 walk_at"7";obtain⟨i,j,rfl,h0,h1,q⟩:=h;obtain⟨u,w',rfl,⟨t,rfl⟩,⟨t',rfl⟩⟩:=zk21 r;refine divmod_int (by lia) ?_ (.inl (PyProof.noPylong_of_log2 (zwl h0 h1)));rw[uaO i (by lia),uaH i (by lia)];refine⟨.ref s.heap.objs.size,_,I.laid (t':=s.toks+1+1) (o:=.tup [.int (i / j),.int (i % j)]) (λb ob q=>vT _ q) (u7 _) ?_,rfl,q _ (I.hok.fresh (u7 _))⟩;exact⟨by show 2<=sizeLine;rw[aW];decide,[.int (i / j) s.toks,.int (i % j) (s.toks+1)],.cons ⟨_,rfl⟩ (.cons ⟨_,rfl⟩ .nil),IsTup.new _ _⟩
theorem zsk:a9 "sum"=some (.builtin "sum"):=by decide +kernel
theorem zuq:a9 "divmod"=some (.builtin "divmod"):=by decide +kernel
theorem ztr:a9 "sorted"=some (.builtin "sorted"):=by decide +kernel
def Fit(n:Nat)(d:bG):Prop:=d.canLay0=true/\d.depth<=n
theorem zb9:∀{ds:List bG},(∀d∈ds,d.canLay0=true)->zN ds=true
|[],_=>rfl
|d :: ds,h=>by
  show(d.canLay0 && zN ds)=true;rw[h d (by simp),zb9 λe he=>h e (wB _ he)];rfl
theorem zha{n:Nat}:∀{ds:List bG},(∀d∈ds,d.depth<=n)->zO ds<=n
|[],_=>wX _
|d :: ds,h=>by
  show max d.depth (zO ds)<=n;have:=h d (by simp);have:=zha λe he=>h e (wB d he);lia
theorem Fit.tup{n:Nat}{ds:List bG}(h:∀d∈ds,Fit n d):Fit (n+1) (.tuple ds):=⟨by show zN ds=true;exact zb9 λd hd=>(h d hd).1,by show zO ds+1<=n+1;have:=zha λd hd=>(h d hd).2;lia⟩
theorem Fit.lst{n:Nat}{ds:List bG}(h:∀d∈ds,Fit n d):Fit (n+1) (.list ds):=⟨by show zN ds=true;exact zb9 λd hd=>(h d hd).1,by show zO ds+1<=n+1;have:=zha λd hd=>(h d hd).2;lia⟩
theorem Fit.int{n:Nat}(i:Int):Fit n (.int i):=⟨rfl,wX _⟩
theorem Fit.str{n:Nat}{x:Str}(h:x.cps.all (· < 0x110000)=true):Fit n (.str x):=⟨h,wX _⟩
theorem Fit.shaped{n:Nat}{d:bG}(h:Fit n d)(hn:n<=64):bW d=true:=by
 unfold bW;rw[h.1,bN (wZ h.2 hn)];rfl
def zy41(K:Fg):Sp:=λvs H Q _=>∃(a:aE)(ns:List Int),vs=[.ref a]/\SqL K H a (ns.map V.int)/\ns.length<=63/\∀H',Q (.bl true) H'
theorem law_walk{k:Nat}{l:fQ}{q:aN}{loose:List Str}{XP:(Str->Option aC)->aT->Prop}{YP:aQ->aT->Prop}{d:DefRec}{K:iZ->Fg}(hk:Room k eJ)(hn:l.most=some 63)(hdf:d.params.defaults=[])
  (hY:∀(w:aQ)(h:aT),YP w h->(K w.params).In h)
  (F:∀(w:aQ)(mg:Str->Option aC)(fa:aE)(h:aT),(K w.params).In h->h.Ns aP mg->mg d.name=some (.ref fa) ->
   ∃fd:cH,(∀(s:aH)(u:aC),eK s fd ⟨[u],[]⟩ [("script",u)])/\∀base:aT,(K w.params).In base->base.Ns aP mg->FnOk l.prog w (K w.params) mg base CX0 k fa fd ["script"] (zy41 (K w.params))) :
  iT q loose XP YP l.row.toRowW d [] (λf vs=>iC f vs) :=
 _2.walk_of (n:=63) (k:=k) (x := "script") (CX:=λ_=>CX0) (sp:=λw=>zy41 (K w.params)) hn (by decide) hdf hk hY F (λ_ _ a ns hl _ hS=>⟨a,ns,rfl,hS,hl,λ_=>rfl⟩) λ_ _ _ _ _ z=>z
end _3
namespace _2
open PySem PySem.Spec PyProof.Rows
variable {H':Hp}{X:Cx}{a b:aE}{h':aT}{kvs:List (List Key×V)}{o:Option V}{pos:Pos}{trs:List (TE×TE)}{u:aC}{w:aQ}{xs:List (List Key×aE×aC)}{y:V}
section
variable {κ:Type}[DecidableEq κ]
def valV(kvs:List (κ×V))(k:κ):Option V:=(kvs.find? λkv=>decide (kv.1=k)).map (·.2)
def putK(kvs:List (κ×V))(k:κ)(v:V):List (κ×V) :=
 if(kvs.any λkv=>decide (kv.1=k))=true then kvs.map (λkv=>if kv.1=k then(kv.1,v)else kv)else kvs++[(k,v)]
theorem zdj{p:κ×V}{r:List (κ×V)}{k:κ}(e:p.1=k):valV (p :: r) k=some p.2:=by simp[valV,xX,e]
theorem zui{p:κ×V}{r:List (κ×V)}{k:κ}(e:¬p.1=k):valV (p :: r) k=valV r k:=by simp[valV,xX,e]
theorem zop(k:κ):∀kvs:List (κ×V),(kvs.any λkv=>decide (kv.1=k))=(valV kvs k).isSome
|[]=>rfl
|p :: r=>by
  rw[xP];by_cases e:p.1=k
  ·simp only[zdj e,bN e,Bool.true_or,uaM]
  ·rw[zui e,aY e,Bool.false_or];exact zop k r
theorem zr3(kvs:List (κ×V))(k:κ)(v:V):(putK kvs k v).length<=kvs.length+1:=by
 unfold putK;split
 ·rw[u5];lia
 ·rw[vR,xL,List.length_nil];lia
theorem RelO.isSome_eq{u:Option aC}(r:RelO o u):o.isSome=u.isSome:=by
 cases o with
|none=>cases u with
 |none=>rfl
 |some _=>exact(show False from r).elim
|some _=>cases u with
 |none=>exact(show False from r).elim
 |some _=>rfl
theorem KV.val{kvs:List (κ×V)}{vs:List (κ×aC)}(r:KV kvs vs)(k:κ):RelO (valV kvs k) (fC vs k):=by
 unfold KV at r
 induction r with
|nil=>exact True.intro
|@cons p q ps qs h t ih =>
  obtain⟨h1,h2⟩:=h;by_cases e:p.1=k
  ·have e':q.1=k:=h1.symm.trans e;have b:fC (q :: qs) k=some q.2:=by simp[fC,xX,e']
   rw[zdj e,b];exact h2
  ·have e':¬q.1=k:=λz=>e (h1.trans z);have b:fC (q :: qs) k=fC qs k:=by simp[fC,xX,e']
   rw[zui e,b];exact ih
theorem KV.any{kvs:List (κ×V)}{vs:List (κ×aC)}(r:KV kvs vs)(k:κ):(kvs.any λkv=>decide (kv.1=k))=vs.any λkv=>decide (kv.1=k):=by
 unfold KV at r
 induction r with
|nil=>rfl
|cons h t ih=>rw[xP,xP,ih,h.1]
theorem KV.repl{kvs:List (κ×V)}{vs:List (κ×aC)}(r:KV kvs vs)(k:κ)(ry:RelV y u) :
  KV (kvs.map λkv=>if kv.1=k then(kv.1,y)else kv) (vs.map λkv=>if kv.1=k then(kv.1,u)else kv):=by
 unfold KV at r ⊢
 induction r with
|nil=>exact .nil
|@cons p q ps qs h t ih =>
  rw[v4,v4];refine .cons ?_ ih;obtain⟨h1,h2⟩:=h;by_cases e:p.1=k
  ·rw[aF e,aF (h1.symm.trans e)];exact⟨h1,ry⟩
  ·rw[aA e,aA (λz=>e (h1.trans z))];exact⟨h1,h2⟩
theorem KV.put{kvs:List (κ×V)}{vs:List (κ×aC)}(r:KV kvs vs)(k:κ)(ry:RelV y u):KV (putK kvs k y) (stored vs k u):=by
 unfold putK stored;rw[r.any k];by_cases e:(vs.any λkv=>decide (kv.1=k))=true
 ·rw[aF e,aF e];exact r.repl k ry
 ·rw[aA e,aA e];exact i7 r ⟨rfl,ry⟩
theorem KV.length{kvs:List (κ×V)}{vs:List (κ×aC)}(r:KV kvs vs):kvs.length=vs.length:=dR r
end
theorem zvv{P:aN}{k:Key}(r:RelV (kV k) u):(zu2 P w).is k u=true:=by
 cases k with
|inl i=>obtain⟨t,e⟩:=(show ∃t,u=y6 i t from r);subst e;exact zcl P w i t
|inr x=>obtain⟨t,e⟩:=(show ∃t,u=y8 x t from r);subst e;exact zbl P w x t
theorem zkk{P:aN}{w:aQ}:∀{ks:List Key}{us:List aC},Vals (ks.map kV) us->ItemsAre (zu2 P w) ks us
|[],_,r=>by rw[yL]at r;cases r;exact .nil
|k :: ks,_,r=>by
  rw[v4]at r;cases r with
 |cons h t=>exact .cons (zvv h) (zkk t)
abbrev KT(H:Hp):List (List Key×V)->List (List Key×aE×aC)->Prop:=Paired λp q=>p.1=q.1/\H q.2.1=some (.tup (p.1.map kV))/\RelV p.2 q.2.2
theorem KT.val{H:Hp}(r:KT H kvs xs)(k:List Key):RelO (valV kvs k) ((fK xs k).map (·.2)):=by
 induction r with
|nil=>exact True.intro
|@cons p q ps qs h t ih =>
  obtain⟨h1,_,h2⟩:=h;by_cases e:p.1=k
  ·have e':q.1=k:=h1.symm.trans e;have b:fK (q :: qs) k=some q.2:=by simp[fK,xX,e']
   rw[zdj e,b];exact h2
  ·have e':¬q.1=k:=λz=>e (h1.trans z);have b:fK (q :: qs) k=fK qs k:=by simp[fK,xX,e']
   rw[zui e,b];exact ih
theorem KT.repl{H:Hp}(r:KT H kvs xs)(k:List Key)(ry:RelV y u) :
  KT H (kvs.map λkv=>if kv.1=k then(kv.1,y)else kv) (xs.map (putAt k u)):=by
 induction r with
|nil=>exact .nil
|@cons p q ps qs h t ih =>
  rw[v4,v4];refine .cons ?_ ih;obtain⟨h1,h2,h3⟩:=h;unfold putAt;by_cases e:p.1=k
  ·rw[aF e,aF (h1.symm.trans e)];exact⟨h1,h2,ry⟩
  ·rw[aA e,aA (λz=>e (h1.trans z))];exact⟨h1,h2,h3⟩
theorem KT.put{H:Hp}(r:KT H kvs xs)(k:List Key)(hb:H b=some (.tup (k.map kV)))(ry:RelV y u) :
  KT H (putK kvs k y) (storedH xs k b u):=by
 have e:(kvs.any λkv=>decide (kv.1=k))=(fK xs k).isSome:=by
  rw[zop,(r.val k).isSome_eq,zE]
 unfold putK storedH;rw[e];by_cases q:(fK xs k).isSome=true
 ·rw[aF q,aF q];exact r.repl k ry
 ·rw[aA q,aA q];exact i7 r ⟨rfl,hb,ry⟩
theorem KT.keeps{H:Hp}(r:KT H kvs xs)(ht:∀b ys,H b=some (.tup ys)->H' b=some (.tup ys)):KT H' kvs xs :=
 Paired.mapP r λ_ _ z=>⟨z.1,ht _ _ z.2.1,z.2.2⟩
section
variable {P:aN}{w:aQ}{H:Hp}{h:aT}{a:aE}
theorem zqa1{u:HO}(ok:HOk P w H h)(e:Rd H a u):ObjOk P w H h a u:=e.ok ok
theorem zu31{kvs:List (Key×V)}(ok:HOk P w H h)(e:Rd H a (.dK kvs)):kvs.length<=sizeLine/\(a == bV)=false/\∃vs,KV kvs vs/\h.DictOf (zu2 P w) a vs :=
 show ObjOk P w H h a (.dK kvs)from zqa1 ok e
theorem zn51{kvs:List (Key×V)}(ok:HOk P w H h)(e:H a=some (.dK kvs)):kvs.length<=sizeLine/\(a == bV)=false/\∃vs,KV kvs vs/\h.DictOf (zu2 P w) a vs:=zu31 ok (.inl e)
theorem ztk{ks:List Key}(ok:HOk P w H h)(e:H a=some (.tup (ks.map kV))):(fL (zu2 P w)).is h ks a:=by
 obtain⟨_,its,r,o,h1,h2,n,h3⟩:=(show ObjOk P w H h a (.tup (ks.map kV))from ok a _ e)
 exact⟨o,its.toArray,n,h1,h2,h3,by simpa using zkk r⟩
theorem zu41(ok:HOk P w H h)(e:Rd H a (.dT kvs)):kvs.length<=sizeLine/\(a == bV)=false /\
  ∃xs,KT H kvs xs/\h.DictOfH (fL (zu2 P w)) a xs:=by
 obtain⟨z,y,xs,r,o,es,ep,h1,h2,h3,h4,h5⟩:=(show ObjOk P w H h a (.dT kvs)from zqa1 ok e)
 refine⟨z,y,xs,r,o,es,ep,h1,h2,h3,h4,λx hx=>?_,h5⟩;have all:∀{l:List (List Key×V)}{m:List (List Key×aE×aC)},KT H l m->∀x∈m,(fL (zu2 P w)).is h x.1 x.2.1:=by
  intro l m q
  induction q with
 |nil=>intro x hx;exact nomatch hx
 |@cons p q ps qs hq t ih =>
   intro x hx;rcases vW.mp hx with e|hx
   ·subst e;exact ztk ok (by rw[<- hq.1];exact hq.2.1)
   ·exact ih x hx
 exact all r x hx
theorem zha1(ok:HOk P w H h)(e:H a=some (.dT kvs)):kvs.length<=sizeLine/\(a == bV)=false /\
  ∃xs,KT H kvs xs/\h.DictOfH (fL (zu2 P w)) a xs:=zu41 ok (.inl e)
end
def DGet(H:Hp)(a:aE)(y:V)(r:Option V):Prop :=
 (∃kvs k,Rd H a (.dK kvs)/\y=kV k/\r=valV kvs k) \/ ∃kvs k b,Rd H a (.dT kvs)/\y=.ref b/\H b=some (.tup (k.map kV))/\r=valV kvs k
def DPut(H:Hp)(a:aE)(y v:V)(H':Hp):Prop :=
 (∃kvs k,H a=some (.dK kvs)/\y=kV k/\kvs.length < sizeLine/\H'=upd H a (.dK (putK kvs k v))) \/
 ∃kvs k b,H a=some (.dT kvs)/\y=.ref b/\H b=some (.tup (k.map kV))/\kvs.length < sizeLine/\H'=upd H a (.dT (putK kvs k v))
theorem DGet.k{H:Hp}{a:aE}{kvs:List (Key×V)}{k:Key}(e:H a=some (.dK kvs)):DGet H a (kV k) (valV kvs k):=.inl ⟨kvs,k,.inl e,rfl,rfl⟩
theorem DGet.t{H:Hp}{k:List Key}(e:H a=some (.dT kvs))(eb:H b=some (.tup (k.map kV))):DGet H a (.ref b) (valV kvs k):=.inr ⟨kvs,k,b,.inl e,rfl,eb,rfl⟩
theorem DPut.k{H:Hp}{a:aE}{kvs:List (Key×V)}{k:Key}{v:V}(e:H a=some (.dK kvs))(hl:kvs.length < sizeLine):DPut H a (kV k) v (upd H a (.dK (putK kvs k v))):=.inl ⟨kvs,k,e,rfl,hl,rfl⟩
theorem DPut.t{H:Hp}{k:List Key}{v:V}(e:H a=some (.dT kvs))(eb:H b=some (.tup (k.map kV)))(hl:kvs.length < sizeLine) :
  DPut H a (.ref b) v (upd H a (.dT (putK kvs k v))):=.inr ⟨kvs,k,b,e,rfl,eb,hl,rfl⟩
section
variable {X:Cx}{pins:List (aE×Obj)}{Y:St}{H:Hp}{s:aH}{a:aE}{y v:V}{u r:aC}{o:Option V}{A:bB}{E:aC->aH->Prop}
theorem Inv.big(I:Inv X pins Y H s):bV < s.heap.objs.size:=by
 have h:aP < s.heap.objs.size:=(I.mod.glob.keeps I.bk).lt;exact Nat.lt_trans (by decide) h
theorem zjk{Q:aC->aH->Prop}(hu:A.units+1 < b7)(I:Inv X pins Y H s)(g:DGet H a y (some v))(ry:RelV y u)(h:∀w' s',Inv X pins Y H s'->RelV v w'->Q w' s') :
  aI (aM X.prog X.w) A (eI (.ref a) u) Q E s:=by
 rcases g with⟨kvs,k,e,ey,l⟩|⟨kvs,k,b,e,ey,eb,l⟩
 ·subst ey;obtain⟨z,hd,vs,rel,dd⟩:=zu31 I.hok e;obtain⟨w',hw,rw'⟩:=RelO.some_of (v:=v) (o:=fC vs k) (by rw[l];exact rel.val k);exact gZ (zvv ry) dd.mapOf hw (h w' _ (I.tok _) rw')
 ·subst ey;cases (show u=vX b from ry);obtain⟨z,hd,xs,rel,dd⟩:=zu41 I.hok e;obtain⟨w',hw,rw'⟩:=RelO.some_of (v:=v) (o:=(fK xs k).map (·.2)) (by rw[l];exact rel.val k);obtain⟨p,hp,hp2⟩:=wQ.mp hw;refine wpAny_getItem_heap (cM hu) (ztk I.hok eb) dd hp ?_;rw[hp2];exact h w' _ (I.tok _) rw'
theorem d_in{Q:aC->aH->Prop}(hu:A.units+1 < b7)(I:Inv X pins Y H s)(g:DGet H a y o)(ry:RelV y u)(h:∀s',Inv X pins Y H s'->Q (.bool o.isSome) s') :
  aI (aM X.prog X.w) A (a7 .In u (.ref a)) Q E s:=by
 rcases g with⟨kvs,k,e,ey,l⟩|⟨kvs,k,b,e,ey,eb,l⟩
 ·subst ey;obtain⟨z,hd,vs,rel,dd⟩:=zu31 I.hok e;refine wpAny_in_of (zvv ry) hd dd.mapOf ?_;rw[<- (rel.val k).isSome_eq,<- l];exact h _ (I.tok _)
 ·subst ey;cases (show u=vX b from ry);obtain⟨z,hd,xs,rel,dd⟩:=zu41 I.hok e;refine wpAny_in_heap (cM hu) (ztk I.hok eb) hd dd ?_;have q:=(rel.val k).isSome_eq;rw[zE]at q;rw[<- q,<- l];exact h _ (I.tok _)
theorem zf01{Q:aC->aH->Prop}(hu:A.units+1 < b7)(I:Inv X pins Y H s)(g:DGet H a y o)(ry:RelV y u)(h:∀s',Inv X pins Y H s'->Q (.bool (!o.isSome)) s') :
  aI (aM X.prog X.w) A (a7 .NotIn u (.ref a)) Q E s:=by
 rcases g with⟨kvs,k,e,ey,l⟩|⟨kvs,k,b,e,ey,eb,l⟩
 ·subst ey;obtain⟨z,hd,vs,rel,dd⟩:=zu31 I.hok e;refine iN (zvv ry) hd dd.mapOf ?_;rw[<- (rel.val k).isSome_eq,<- l];exact h _ (I.tok _)
 ·subst ey;cases (show u=vX b from ry);obtain⟨z,hd,xs,rel,dd⟩:=zu41 I.hok e;refine wpAny_notIn_heap (cM hu) (ztk I.hok eb) hd dd ?_;have q:=(rel.val k).isSome_eq;rw[zE]at q;rw[<- q,<- l];exact h _ (I.tok _)
theorem zug{t':Nat}{ob:HO}(I:Inv X pins Y H s)(mu:Mut (H a))(hs:bD a s.heap h')(he:∃q,h'.get? a=some q)(new:ObjOk X.prog X.w (upd H a ob) h' a ob) :
  Inv X pins Y (upd H a ob) { s with heap:=h',toks:=t' } :=
 I.write (x:=a) (e:=a) mu (.inl rfl) (λb q hb z=>(hs.2 b hb).trans z) he new
theorem zcw{P:aN}{kvs:List (Key×V)}{vs:List (Key×aC)}(z:kvs.length<=sizeLine)(hd:(a == bV)=false)(rel:KV kvs vs)(dd:h'.DictOf (zu2 P w) a vs) :
  ObjOk P w H' h' a (.dK kvs):=⟨z,hd,vs,rel,dd⟩
theorem zur{Q:Unit->aH->Prop}(hu:A.units+1 < b7)(I:Inv X pins Y H s)(g:DPut H a y v H')(ry:RelV y u)(rv:RelV v r)(h:∀s',Inv X pins Y H' s'->Q () s') :
  aI (aM X.prog X.w) A (iJ (.ref a) u r) Q E s:=by
 rcases g with⟨kvs,k,e,ey,l,eH⟩|⟨kvs,k,b,e,ey,eb,l,eH⟩
 ·subst ey eH;obtain⟨z,hd,vs,rel,dd⟩:=zn51 I.hok e;have hz:vs.length<=sizeLine:=by rw[<- rel.length];exact z
  have hl:(putK kvs k v).length<=sizeLine:=by have:=zr3 kvs k v;lia
  refine wpAny_setItem_pairs (hsz:=hz) (zvv ry) dd λh' dd' hs=>h _ ?_;have he:∃q,h'.get? a=some q:=let ⟨q,_,_,hq,_⟩:=dd';⟨q,hq⟩;exact zug I (by rw[e];exact True.intro) hs he (zcw hl hd (rel.put k rv) dd')
 ·subst ey eH;cases (show u=vX b from ry);obtain⟨z,hd,xs,rel,dd⟩:=zha1 I.hok e;have hz:xs.length<=sizeLine:=by rw[<- dR rel];exact z
  have hl:(putK kvs k v).length<=sizeLine:=by have:=zr3 kvs k v;lia
  refine wpAny_setItem_heap (hsz:=hz) (cM hu) (ztk I.hok eb) dd λh' dd' hs=>h _ ?_;obtain⟨q,es,ep,hq,h2,h3,h4,_,h5⟩:=dd';refine zug I (by rw[e];exact True.intro) hs ⟨q,hq⟩ ⟨hl,hd,_,(rel.put k eb rv).keeps λc ys ec=>?_,q,es,ep,hq,h2,h3,h4,h5⟩;rw[ze1 (zz91 ec e (λz=>nomatch z))];exact ec
end
theorem zqk{pins:List (aE×Obj)}{Y:St}{H:Hp}{s:aH}(I:Inv X pins Y H s)(g:DGet H a y o):s.TypeIs (.ref a) "dict":=by
 rcases g with⟨kvs,k,e,_,_⟩|⟨kvs,k,b,e,_,_,_⟩
 ·obtain⟨_,_,vs,_,dd⟩:=zu31 I.hok e;exact dd.typeIs
 ·obtain⟨_,_,xs,_,dd⟩:=zu41 I.hok e;exact dd.typeIs
theorem zvn{P:aN}{H:Hp}(h:aT)(hb:bV < h.objs.size):ObjOk P w H (h.push { cls:=.type "dict",data:=.dict #[] }) h.objs.size (.dK []) :=
 ⟨wX _,beq_eq_false_iff_ne.mpr (Ne.symm (wJ hb)),[],.nil,Heap.DictOf.new h⟩
theorem zmy{P:aN}{H:Hp}(h:aT)(hb:bV < h.objs.size):ObjOk P w H (h.push { cls:=.type "dict",data:=.dict #[] }) h.objs.size (.dT []) :=
 ⟨wX _,beq_eq_false_iff_ne.mpr (Ne.symm (wJ hb)),[],.nil,_,#[],0,wF _ rfl,⟨rfl,rfl,rfl⟩,rfl,rfl,List.nodup_nil⟩
def zjy:List (TE×TE)->St->Hp->(List (V×V)->Hp->Prop)->Prop
|[],_,H,Q=>Q [] H
|(tk,tv) :: r,Y,H,Q=>tk Y H λx H1=>tv Y H1 λy H2=>zjy r Y H2 λps H3=>Q ((x,y) :: ps) H3
abbrev VV:List (V×V)->List (aC×aC)->Prop:=Paired λp q=>RelV p.1 q.1/\RelV p.2 q.2
def PPs(X:Cx)(pos:Pos)(keys:List (Option aX))(values:List aX)(trs:List (TE×TE)):Prop :=
 ∀(pins:List (aE×Obj))(s:aH)(Y:St)(H:Hp)(Q:List (V×V)->Hp->Prop),Inv X pins Y H s->zjy trs Y H Q ->
  aI (aM X.prog X.w) X.A (evalPairs (pairTrees keys values X.env pos)) (λvs s'=>∃ps H',Inv X pins Y H' s'/\VV ps vs/\Q ps H') X.xe s
theorem zq01:PPs X pos [] [] []:=λpins s Y H Q I h=>pairTrees_nil_walk ⟨[],H,I,.nil,h⟩
theorem zpw{k v:aX}{ks:List (Option aX)}{vs:List aX}{tk tv:TE}(hk:PE X k tk)(hv:PE X v tv)(hr:PPs X pos ks vs trs) :
  PPs X pos (some k :: ks) (v :: vs) ((tk,tv) :: trs):=λpins s Y H Q I h =>
 pairTrees_cons_walk (thn (hk pins s Y H _ I h) λu s1 ⟨x,H1,I1,rx,q1⟩=>thn (hv pins s1 Y H1 _ I1 q1) λw2 s2 ⟨y,H2,I2,ry,q2⟩ =>
  thn (hr pins s2 Y H2 _ I2 q2) λws s3 ⟨ps,H3,I3,rel,q3⟩=>⟨(x,y) :: ps,H3,I3,.cons ⟨rx,ry⟩ rel,q3⟩)
def zuh(kvs more:List (Key×V)):List (Key×V):=more.foldl (λacc kv=>putK acc kv.1 kv.2) kvs
theorem KV.merge:∀{more:List (Key×V)}{rs:List (Key×aC)}{kvs:List (Key×V)}{vs:List (Key×aC)},KV more rs->KV kvs vs->KV (zuh kvs more) (merged vs rs):=by
 intro more rs kvs vs r;unfold KV at r
 induction r generalizing kvs vs with
|nil=>intro q;exact q
|@cons p q ps qs h t ih =>
  intro r0;have e:KV (putK kvs p.1 p.2) (stored vs q.1 q.2):=by
   have:=r0.put p.1 h.2;rw[<- h.1];exact this
  exact ih e
theorem zxa:∀(more kvs:List (Key×V)),(zuh kvs more).length<=kvs.length+more.length
|[],kvs=>by show kvs.length<=kvs.length+0;lia
|p :: r,kvs=>by
  have h1:=zxa r (putK kvs p.1 p.2);have h2:=zr3 kvs p.1 p.2;show(zuh (putK kvs p.1 p.2) r).length<=_;rw[xL];lia
theorem zpg{P:aN}{w:aQ}:∀{kvs:List (Key×V)}{ws:List (aC×aC)},VV (kvs.map λkv=>(kV kv.1,kv.2)) ws->∃rs,Carries (zu2 P w) ws rs/\KV kvs rs
|[],_,r=>by rw[yL]at r;cases r;exact⟨[],True.intro,.nil⟩
|p :: kvs,_,r=>by
  rw[v4]at r;cases r with
 |@cons a b as bs h t =>
   obtain⟨rs,c,q⟩:=zpg (P:=P) (w:=w) t;obtain⟨b1,b2⟩:=b;exact⟨(p.1,b2) :: rs,⟨zvv h.1,rfl,c⟩,.cons ⟨rfl,h.2⟩ q⟩
def zua1(trs:List (TE×TE)):TE:=λY H Q=>∀p,H p=none->zjy trs Y (upd H p (.dK [])) λps H2=>H2 p=some (.dK [])/\∃kvs:List (Key×V),ps=kvs.map (λkv=>(kV kv.1,kv.2))/\kvs.length<=15/\Q (.ref p) (upd H2 p (.dK (zuh [] kvs)))
theorem zc01{keys:List (Option aX)}{values:List aX}(h:PPs X pos keys values trs)(hall:keys.all (·.isSome)=true)(hl:keys.length=values.length)(h0:keys≠[])
  (h15:keys.length<=15):PE X (.Dict keys values pos) (zua1 trs):=by
 intro pins s Y H Q I q;have hn:=I.hok.fresh (u7 s.heap.objs.size);have I1:=I.laid (a:=s.heap.objs.size) (o:=.dK []) (h':=s.heap.push { cls:=.type "dict",data:=.dict #[] }) (t':=s.toks) (λ_ _ q=>vT _ q) (u7 _) (zvn s.heap I.big);refine wpAny_Dict_walk (knd:=zu2 X.prog X.w) hall hl h0 h15 (thn (h pins _ Y _ _ I1 (q _ hn)) λws s2 hz=>?_);obtain⟨ps,H2,I2,rel,e,kvs,ep,lk,q2⟩:=hz;subst ep;obtain⟨rs,c,rk⟩:=zpg (P:=X.prog) (w:=X.w) rel;obtain⟨z,hd,vs0,r0,dd⟩:=zn51 I2.hok e;cases r0;refine⟨rs,c,dd,λh' dd' hs=>⟨.ref s.heap.objs.size,_,?_,rfl,q2⟩⟩;have hz:(zuh [] kvs).length<=sizeLine:=by
  have h1:=zxa kvs [];rw[List.length_nil]at h1;rw[aW];lia
 have he:∃q,h'.get? s.heap.objs.size=some q:=let ⟨q,_,_,hq,_⟩:=dd';⟨q,hq⟩;exact zug I2 (by rw[e];exact True.intro) hs he (zcw hz hd (rk.merge .nil) dd')
end _2
namespace _3
open PySem PySem.Spec PyProof.Rows _2
variable {K:Fg}{X:Cx}{a:aE}{ds:List bG}{pos:Pos}
def rInD:R2:=λx y H Q=>∃a o,y=.ref a/\DGet H a x o/\Q (.bl o.isSome) H
def zlt:R2:=λx y H Q=>∃a o,y=.ref a/\DGet H a x o/\Q (.bl (!o.isSome)) H
def rIxD:R2:=λx y H Q=>∃a v,x=.ref a/\DGet H a y (some v)/\Q v H
def zea1:V->V->V->Hp->(Hp->Prop)->Prop:=λo i v H Q=>∃a H',o=.ref a/\DPut H a i v H'/\Q H'
section
variable {X:Cx}
theorem zz71(hu:X.A.units+64 < b7):OpR X (a7 .In) rInD:=by
 walk_at"0";obtain⟨a,o,rfl,g,q⟩:=h;obtain rfl:u=vX a:=ry;exact d_in (by lia) I g rx λs3 I3=>⟨.bl o.isSome,H,I3,rfl,q⟩
theorem zwr(hu:X.A.units+64 < b7):OpR X (a7 .NotIn) zlt:=by
 walk_at"0";obtain⟨a,o,rfl,g,q⟩:=h;obtain rfl:u=vX a:=ry;exact zf01 (by lia) I g rx λs3 I3=>⟨.bl (!o.isSome),H,I3,rfl,q⟩
theorem ix_D(hu:X.A.units+64 < b7):IxR X rIxD:=by
 walk_at"9";obtain⟨a,v',rfl,g,q⟩:=h;obtain rfl:v=vX a:=rx;exact f6 (zqk I g) ğh.lookup (zjk (by lia) I g ry λw' s3 I3 rw'=>⟨v',H,I3,rw',q⟩) hs
theorem zhc1(hu:X.A.units+64 < b7):PSet X zea1:=by
 walk_at"24";obtain⟨a,H',rfl,g,q⟩:=h;obtain rfl:ov=vX a:=ro;exact zur (by lia) I g ri rv λs4 I4=>⟨H',I4,q⟩
theorem zub1(hu:X.A.units+64 < b7):PGet X rIxD:=by
 walk_at"26";obtain⟨a,v',rfl,g,q⟩:=h;obtain rfl:ov=vX a:=ro;exact zjk (by lia) I g ri λw' s3 I3 rw'=>⟨v',H,I3,rw',q⟩
def zkb1(K:Fg):R2:=λx y H Q=>∃a xs j v,x=.ref a/\y=.int j/\0<=j/\SqL K H a xs/\xs[j.toNat]?=some v/\Q v H
theorem znb1(hK:X.K=K):PGet X (zkb1 K):=by
 subst hK;walk_at"26";obtain⟨a,xs,j,v,rfl,rfl,h0,hq,he,q⟩:=h;obtain rfl:ov=vX a:=ro;obtain⟨t,rfl⟩:=ri;obtain⟨its,r,pl,hz⟩:=I.list hq;obtain⟨u,eu,ru⟩:=r.get he;have hl:=r.length;have hn:=zzi;have hj:=(v8.mp he).1;refine wpAny_getItem_list pl.isList h0 (by lia) (by simpa using eu) ⟨v,H,I,ru,q⟩
theorem PGet.or{r r':R2}(h:PGet X r)(h':PGet X r'):PGet X (λx y H Q=>r x y H Q \/ r' x y H Q):=by
 intro pins s Y H o i ov iv Q I ro ri q;rcases q with q|q
 ·exact h pins s Y H o i ov iv Q I ro ri q
 ·exact h' pins s Y H o i ov iv Q I ro ri q
theorem PSet.or{r r':TSet}(h:PSet X r)(h':PSet X r'):PSet X (λo i v H Q=>r o i v H Q \/ r' o i v H Q):=by
 intro pins s Y H o i v ov iv u Q I ro ri rv q;rcases q with q|q
 ·exact h pins s Y H o i v ov iv u Q I ro ri rv q
 ·exact h' pins s Y H o i v ov iv u Q I ro ri rv q
end
def rInV(w:aQ)(K:Fg):R2:=λx y H Q=>rInW w K x y H Q \/ rInD x y H Q
def zro(w:aQ)(K:Fg):R2:=λx y H Q=>zcu w K x y H Q \/ zlt x y H Q
def rIxV(w:aQ)(K:Fg):R2:=λx y H Q=>rIxW w K x y H Q \/ rIxD x y H Q
def zx61(K:Fg):R2:=λx y H Q=>zkb1 K x y H Q \/ rIxD x y H Q
def zg51:V->V->V->Hp->(Hp->Prop)->Prop:=λo i v H Q=>zka1 o i v H Q \/ zea1 o i v H Q
section
variable {X:Cx}{w:aQ}{K:Fg}
theorem zs81(hu:X.A.units+64 < b7)(hw:X.w=w)(hK:X.K=K):OpR X (a7 .In) (rInV w K):=(zb71 hw hK).or (zz71 hu)
theorem zif(hu:X.A.units+64 < b7)(hw:X.w=w)(hK:X.K=K):OpR X (a7 .NotIn) (zro w K):=(zwq hw hK).or (zwr hu)
theorem ix_V(hu:X.A.units+64 < b7)(hw:X.w=w)(hK:X.K=K):IxR X (rIxV w K):=(ix_W hw hK).or (ix_D hu)
theorem zjt(hu:X.A.units+64 < b7)(hK:X.K=K):PGet X (zx61 K):=PGet.or (znb1 hK) (zub1 hu)
theorem zpp(hu:X.A.units+64 < b7):PSet X zg51:=PSet.or zpv (zhc1 hu)
end
def kBM0(K:Fg)(T:String)(r:V->List V->Hp->VK->Prop)(x:V)(H:Hp)(Q:VK):Prop:=tyV K T x H/\r x [] H Q
def zfa1(K:Fg)(T:String)(r:V->List V->Hp->VK->Prop)(to:TE):TE:=λY H Q=>to Y H λx H1=>kBM0 K T r x H1 Q
theorem ztl(hK:X.K=K){o:aX}{to:TE}{name:Str}{apos cpos:Pos}{T id:String}{r:V->List V->Hp->VK->Prop}(pa:f9 T)(slot:Slot T name id)(hty:iY (.builtin id)=pure (.type "method_descriptor"))(hm:MtR X id r)(ho:PE X o to)
  (hbase:cL o name X.env (a8 o X.env)=a8 o X.env:=by rfl) (hline:(apos.endLine == cpos.line)=true:=by rfl):PE X (.Call (.Attribute o name apos) [] [] cpos) (zfa1 K T r to):=by
 subst hK;exact zz51 pa slot hty hm ho hbase hline
theorem zd41{pins:List (aE×Obj)}{Y:_2.St}{H:Hp}{s:aH}{h':aT}{t':Nat}{c:aE}(I:_2.Inv X pins Y H s)(k:∀b o,b≠a->b≠c->s.heap.get? b=some o->h'.get? b=some o)
  (fa:FpOk X pins H a) (fc:FpOk X pins H c):_2.Inv X pins Y H { s with heap:=h',toks:=t' }:=by
 obtain⟨a0,a1,_,a3,a4,a5⟩:=fa;obtain⟨c0,c1,_,c3,c4,c5⟩:=fc;have na:∀b u,H b=some u->b≠a:=λb u e z=>by rw[z,a0]at e;cases e
 have nc:∀b u,H b=some u->b≠c:=λb u e z=>by rw[z,c0]at e;cases e
 refine I.step (g':=s.gens) (d':=s.drawn) (ch:=[a,c]) (λb hb=>?_) (λb o _ _ hc e _=>k b o (λz=>hc (by simp[z])) (λz=>hc (by simp[z])) e) (λb o _ _ hc e _=>⟨o.slots,k b o (λz=>hc (by simp[z])) (λz=>hc (by simp[z])) e⟩) (λ_ _ _ _ n=>n)
  (λb o hc e=>⟨o,k b o (λz=>hc (by simp[z])) (λz=>hc (by simp[z])) e⟩) (λ_ _ e=>e) (λ_ _ _ e=>e) (λb ps e=>⟨#[],by rw[e];simp⟩) (λm hm=>?_) (λb u e=>?_) I.bare
 ·simp at hb;rcases hb with e|e
  ·subst e;exact⟨a3,a1,a4,a5⟩
  ·subst e;exact⟨c3,c1,c4,c5⟩
 ·obtain⟨o,es,ep,ho,r⟩:=hm;exact⟨o,es,ep,k _ o (Ne.symm a1) (Ne.symm c1) ho,r⟩
 ·refine(I.hok b u e).stay (λd v hc q=>k d v ?_ ?_ q) (λ_ q=>q) λ_ _ q=>q
  ·rcases hc with z|z
   ·rw[z];exact na b u e
   ·exact na d _ z
  ·rcases hc with z|z
   ·rw[z];exact nc b u e
   ·exact nc d _ z
theorem zw31{h:aT}{ob o:Obj}{b:aE}(e:(h.push ob).get? b=some o)(n:b≠h.objs.size):h.get? b=some o:=by
 obtain⟨e1,e2⟩:=uaP.mp e;refine uaP.mpr ⟨?_,e2⟩;cases h
 simpa[Heap.push,Array.getElem?_push,n]using e1
def Ite(K:Fg)(a:aE):It:=⟨λi H=>∃xs x,SqL K H a xs/\xs[i]?=some x,λi H x H'=>∃y p,(∀ys,SqL K H a ys->ys[i]?=some y)/\H p=none/\x=.ref p/\H'=upd H p (.tup [.int (i:Int),y]),λi H=>∃xs,SqL K H a xs/\xs.length<=i⟩
theorem zrr{P:aN}{w:aQ}{elts:List aX}{c:_}{e it:aE}(hne:e≠it) :
  Turn P w K (.Tuple elts c pos) (Ite K a) [e,it] e (λi h=>(∃old,IsEnum h e it (i:Int) old)/\h.IsListIter it a i) where
 mem:=by simp
 obj:=λi h S b hb=>by
  obtain⟨⟨old,he⟩,hi⟩:=S;simp at hb;rcases hb with rfl|rfl
  ·exact⟨_,he,λv q=>by cases q⟩
  ·obtain⟨o,e1,c1,d1⟩:=hi;exact⟨o,e1,λv z=>by rw[d1]at z;cases z⟩
 keep:=λi h h' S k=>by
  obtain⟨⟨old,he⟩,hi⟩:=S;exact⟨⟨old,k _ (by simp) _ he⟩,hi.at λo e1=>k it (by simp) o e1⟩
 item:=by
  walk_at"12";subst hP hw hK;obtain⟨⟨old,he⟩,hi⟩:=S;obtain⟨xs,x,hq,hx⟩:=hg;obtain⟨its,rv,p,hz⟩:=I.list hq;obtain⟨u,hu,ru⟩:=rv.get hx;refine wpAny_pyNext_enum_item he hi p.isList (x:=u) (by simpa using hu) hne λh' ho hi' ht hsz hk=>?_;have eL:e < s.heap.objs.size:=vY he;have iL:it < s.heap.objs.size:=by obtain⟨o,e1,_⟩:=hi;exact vY e1
  have hfr:=I.hok.fresh (u7 s.heap.objs.size);have I1:_2.Inv X pins Y (upd H s.heap.objs.size (.tup [.int (i:Int),x])) { s with heap:=s.heap.push { cls:=.type "tuple",data:=.seq #[.int i s.toks,u] },toks:=s.toks+1 } :=
   I.laid (t':=s.toks+1) (o:=.tup [.int (i:Int),x]) (λb ob q=>vT _ q) (u7 _) ⟨by show 2<=sizeLine;rw[aW];decide,[.int i s.toks,u],.cons ⟨_,rfl⟩ (.cons ru .nil),IsTup.new _ _⟩
  have fe:=hf e (by simp);have fi:=hf it (by simp);have fe1:FpOk X pins (upd H s.heap.objs.size (.tup [.int (i:Int),x])) e:=⟨by rw[ze1 (wJ eL)];exact fe.1,fe.2⟩
  have fi1:FpOk X pins (upd H s.heap.objs.size (.tup [.int (i:Int),x])) it:=⟨by rw[ze1 (wJ iL)];exact fi.1,fi.2⟩
  have I2:_2.Inv X pins Y (upd H s.heap.objs.size (.tup [.int (i:Int),x])) { s with heap:=h',toks:=s.toks+1 } :=
   zd41 (s:={ s with heap:=s.heap.push { cls:=.type "tuple",data:=.seq #[.int i s.toks,u] },toks:=s.toks+1 }) I1 (λb o nb1 nb2 q=>by
    by_cases z:b=s.heap.objs.size
    ·subst z;have q':(s.heap.push { cls:=.type "tuple",data:=.seq #[.int i s.toks,u] }).get? s.heap.objs.size=some o:=q;rw[wF _ rfl]at q';cases q';exact ht
    ·exact hk b o nb1 nb2 (zw31 q z)) fe1 fi1
  refine⟨.ref s.heap.objs.size,rfl,wpAny_letOwnedTupleGo_enum ho λh2 he2 hs2=>?_⟩;refine⟨.ref s.heap.objs.size,_,zl4 (tk:=s.toks+1) I2 fe1 hs2,rfl,⟨x,s.heap.objs.size,λys hy=>by rw[I.list_inj hy hq];exact hx,hfr,rfl,rfl⟩,⟨⟨u,by simpa using he2⟩,hi'.at λo e1=>hs2.extBut _ _ (Ne.symm hne) e1⟩,λb hb=>?_⟩;simp at hb;rcases hb with rfl|rfl
  ·exact fe1.1
  ·exact fi1.1
 done:=by
  walk_at"12";subst hP hw hK;obtain⟨⟨old,he⟩,hi⟩:=S;obtain⟨xs,hq,hx⟩:=hg;obtain⟨its,rv,p,hz⟩:=I.list hq;have hl:=rv.length;exact wpAny_pyNext_enum_end (I.ok.hd hc) he hi p.isList (by simp;lia) λh' eb=>⟨rfl,zbx (tk:=s.toks) I (hf it (by simp)) eb⟩
 self:=λ_ _ _ _ _ S h=>gQ S.1.choose_spec h
theorem zgj:a9 "enumerate"=some (.type "enumerate"):=by decide +kernel
section
variable {X:Cx}{elts:List aX}
def zqb1(K:Fg)(vs:List V)(H:Hp)(R:It->Hp->Prop):Prop:=∃a xs,vs=[.ref a]/\SqL K H a xs/\R (Ite K a) H
def zw81(K:Fg)(ta:TA):TI:=λY H R=>ta Y H λvs H1=>zqb1 K vs H1 R
theorem zua(hK:X.K=K){c:_}{tpos:Pos}{a:aX}{ta:TA}{p pos:Pos}(hg:Gl X "enumerate")(hm:X.mg "enumerate"=none)(ha:PA X [a] ta)(hs:aS [a] X.env=[(false,a8 a X.env)]:=by rfl) :
  PI X (.Tuple elts c tpos) (.Call (.Name "enumerate" p) [a] [] pos) (zw81 K ta):=by
 subst hK;walk_at"18";refine Call_ (zhj I hg hm zgj (bR (thn (ha pos pins s Y H _ I h) λus s1 hz=>?_) (by rw[hs];rfl) (by rfl)));obtain⟨vs,H1,I1,r1,q1⟩:=hz;obtain⟨l,xs,e,hq,q⟩:=q1;subst e;obtain⟨u1,rfl,ru⟩:=zxs r1;obtain rfl:u1=vX l:=ru;obtain⟨its,rv,pl,hz⟩:=I1.list hq;refine call_enumerate_list pl.isList ?_;intro h' he hi hsz kk;refine gQ he ?_;have I2:_2.Inv X pins Y H1 { s1 with heap:=h' }:=I1.kept (t':=s1.toks) kk;refine⟨s1.heap.objs.size+1,[s1.heap.objs.size+1,s1.heap.objs.size],_,_,H1,rfl,I2,zrr (Nat.succ_ne_self _),⟨⟨.none,he⟩,hi⟩,λb hb=>?_,q⟩;have hb':s1.heap.objs.size<=b:=by
  simp at hb;rcases hb with z|z
  ·exact z ▸ zJ _
  ·exact z ▸ u7 _
 exact I1.fpOk hb' (I1.hok.fresh hb')
end
def zl61:R2:=λx y H Q=>zmb1 x y H Q \/ rRep x y H Q
theorem zcc:OpR X (bL .Mult) zl61:=zl41.or zn21
section
variable {X:Cx}
def zo91(K:Fg):R2:=λx y H Q=>∃l b xs zs,x=.ref l/\y=.ref b/\SqL K H l xs/\SqL K H b zs/\xs.length+zs.length<=sizeLine/\∀p,H p=none->Q (.ref p) (upd H p (.lst (xs++zs)))
theorem zc31(hK:X.K=K):OpR X (bL .Add) (zo91 K):=by
 subst hK;walk_at"0";obtain⟨l,b,xs,zs,rfl,rfl,hH,hB,hz,q⟩:=h;cases rx;cases ry;obtain⟨its,r,⟨⟨cls,dd,data,sl⟩,n,ho,hc,_,hd⟩,z1⟩:=I.list hH;obtain⟨its2,r2,⟨⟨cls2,dd2,data2,sl2⟩,n2,ho2,hc2,_,hd2⟩,z2⟩:=I.list hB;simp only at hc hd hc2 hd2;subst hc hd hc2 hd2;have e1:=r.length;have e2:=r2.length;refine gI ⟨_,ho,rfl⟩ ⟨_,ho2,rfl⟩ noFill_list_add seq_list_add PySem.F.slot_list_add PySem.F.entry_list_add (PySem.F.args_list_add_2 _ _) (list_addW l b its.toArray its2.toArray n n2 dd dd2 sl sl2 (by simp;lia)) ⟨ho,ho2,?_⟩;have ea:its.toArray++its2.toArray=(its++its2).toArray:=by simp
 rw[ea];exact⟨.ref _,_,I.lnew (t':=s.toks) (r.append r2) (by rw[vR];lia),rfl,q _ I.fresh⟩
def zv71(K:Fg):R2:=λx y H Q=>zca1 K x y H Q \/ zo91 K x y H Q
theorem zl1(hK:X.K=K):OpR X (bL .Add) (zv71 K):=(zy01 hK).or (zc31 hK)
def rIsS(K:Fg):List V->Hp->VK->Prop:=λvs H Q=>∃a cV c b,vs=[.ref a,cV]/\clsV cV=some c/\(((∃xs,SqL K H a xs)/\dI K (.type "list") c=some b) \/ ((∃xs,SqT K H a xs)/\dI K (.type "tuple") c=some b))/\Q (.bl b) H
theorem zfy(h:X.K=K):CallR X (.builtin "isinstance") (rIsS K):=by
 subst h;walk_at"7";obtain⟨a,cV,c,b,rfl,rc,hh,q⟩:=h;obtain⟨u,v,rfl,ru,rv⟩:=r.two;obtain rfl:=zbp rc rv;cases (show u=vX a from ru);rcases hh with⟨⟨xs,hx⟩,e⟩|⟨⟨xs,hx⟩,e⟩
 ·obtain⟨its,_,⟨o,n,ho,hc,_,hd⟩,_⟩:=I.list hx;exact bC e7 I.kIn ⟨o,ho,hc⟩ e (λz=>nomatch z) λtk=>⟨.bl b,H,I.tok tk,rfl,q⟩
 ·obtain⟨its,_,⟨o,h1,h2,_⟩,_⟩:=I.tuple hx;exact bC gO I.kIn ⟨o,h1,h2⟩ e (λz=>nomatch z) λtk=>⟨.bl b,H,I.tok tk,rfl,q⟩
theorem CallR.or{f:aC}{r1 r2:List V->Hp->VK->Prop}(h1:CallR X f r1)(h2:CallR X f r2):CallR X f (λvs H Q=>r1 vs H Q \/ r2 vs H Q):=by
 walk_at"7";rcases h with h|h
 ·exact h1 pins s Y H xs us Q I r h
 ·exact h2 pins s Y H xs us Q I r h
def rIsW(K:Fg):List V->Hp->VK->Prop:=λvs H Q=>rIsI K vs H Q \/ rIsS K vs H Q
theorem zz9(h:X.K=K):CallR X (.builtin "isinstance") (rIsW K):=(zkl h).or (zfy h)
theorem zbj(l:aE)(items:Array aC)(n:Nat)(b:aE)(items2:Array aC)(n2:Nat)(dd2:Option aE)(sl2:Array (Option aC))(hc0:¬(!items.isEmpty && bY (items.size+items2.size))=true)(hc1:items.size<=sizeLine)(hs2:items.size+items2.size<=sizeLine+1) :
  Meets (Builtin.«list.extend» ⟨[.ref l,.ref b],[]⟩) (λ_ R s=>s.heap.get? l=some { cls:=.type "list",dict:=none,data:=.seq items n,slots:=#[] }/\s.heap.get? b=some { cls:=.type "list",dict:=dd2,data:=.seq items2 n2,slots:=sl2 }/\R (.ok (.ret xI)) { s with heap:=s.heap.update l (d5 λx=>x++items2),toks:=s.toks }) :=
 .of_wp λprog w A R s h=>by
  obtain⟨hp,g,d,tk,os⟩:=s;obtain⟨hl,hb,h⟩:=h;have f1:=AutoSeq1.idx_int;have f2:=AutoSeq1.sub_tuple_tuple;have f3:=AutoSeq1.sub_list_list;have f4:=AutoSeq1.sub_tuple_list;have f5:=AutoSeq1.sub_list_tuple;have hz':(items++items2).size<=sizeLine+1:=by rw[Array.size_append];exact hs2
  wp_walk using(wpAny_updateSeq hl rfl (hz:=hc1) (_hz':=hz')),iD hl,iD hb;exact⟨_,rfl,h⟩
def zvm(K:Fg):V->List V->Hp->VK->Prop:=λx vs H Q=>∃l b xs zs,x=.ref l/\vs=[.ref b]/\H l=some (.lst xs)/\SqL K H b zs/\xs.length+zs.length<=sizeLine/\Q .non (upd H l (.lst (xs++zs)))
theorem zw5(hK:X.K=K):MtM X "list.extend" (zvm K):=by
 subst hK;walk_at"16";obtain⟨l,b,xs,zs,rfl,rfl,hH,hB,hz,q⟩:=h;cases rx;obtain⟨u,rfl,ru⟩:=rv.one;cases ru;obtain⟨z,its,n,r,hl,e⟩:=I.lstM hH;obtain⟨its2,r2,⟨⟨cls2,dd2,data2,sl2⟩,n2,ho2,hc2,_,hd2⟩,z2⟩:=I.list hB;simp only at hc2 hd2;subst hc2 hd2;have hl2:=r2.length;have hsz:its.toArray.size+its2.toArray.size<=sizeLine:=by rw[v3,v3];lia
 have hlong:¬(!its.toArray.isEmpty && bY (its.toArray.size+its2.toArray.size))=true:=by
  rw[zai hsz,Bool.and_false];exact v5
 refine d4 F.slot_list_extend ⟨_,e,rfl⟩ F.entry_list_extend (F.args_list_extend_2 _ _)
  (zbj l its.toArray n b its2.toArray n2 dd2 sl2 hlong (by rw[v3];lia) (by lia)) ⟨e,ho2,?_⟩
 refine⟨.non,_,I.lset (its':=its++its2) hH e (by simp) (r.append r2) ?_,rfl,q⟩;rw[vR];lia
end
theorem IsAll.dlen{K:Fg}{F:Hp}:∀{xs:List V}{ds:List bG},IsAll K F xs ds->xs.length=ds.length
|_,_,.nil=>rfl
|_,_,.cons _ r=>congrArg (·+1) (IsAll.dlen r)
theorem IsAll.dget{K:Fg}{F:Hp}:∀{xs:List V}{ds:List bG}{i:Nat}{d:bG},IsAll K F xs ds->ds[i]?=some d->∃x,xs[i]?=some x/\Is K F x d
|_,_,_,_,.nil,e=>by simp at e
|_,_,0,_,.cons h _,e=>by simp at e;subst e;exact⟨_,rfl,h⟩
|_,_,i+1,d,.cons _ r,e=>by
  obtain⟨x,h1,h2⟩:=IsAll.dget (i:=i) (d:=d) r (by simpa using e);exact⟨x,by simpa using h1,h2⟩
theorem IsAll.dapp{K:Fg}{F:Hp}:∀{xs ys:List V}{ds es:List bG},IsAll K F xs ds->IsAll K F ys es->IsAll K F (xs++ys) (ds++es)
|_,_,_,_,.nil,s=>s
|_,_,_,_,.cons h r,s=>.cons h (IsAll.dapp r s)
theorem IsAll.dtake{K:Fg}{F:Hp}:∀(n:Nat){xs:List V}{ds:List bG},IsAll K F xs ds->IsAll K F (xs.take n) (ds.take n)
|0,_,_,_=>.nil
|_+1,_,_,.nil=>.nil
|n+1,_,_,.cons h r=>.cons h (IsAll.dtake n r)
theorem IsAll.ddrop{K:Fg}{F:Hp}:∀(n:Nat){xs:List V}{ds:List bG},IsAll K F xs ds->IsAll K F (xs.drop n) (ds.drop n)
|0,_,_,h=>h
|_+1,_,_,.nil=>.nil
|n+1,_,_,.cons _ r=>IsAll.ddrop n r
theorem IsAll.dset{K:Fg}{F:Hp}{x:V}{d:bG}(hx:Is K F x d):∀(n:Nat){xs:List V}{ds:List bG},IsAll K F xs ds->IsAll K F (xs.set n x) (ds.set n d)
|_,_,_,.nil=>.nil
|0,_,_,.cons _ r=>.cons hx r
|n+1,_,_,.cons h r=>.cons h (IsAll.dset hx n r)
theorem Is.list_inv{F:Hp}{v:V}(h:Is K F v (.list ds)):∃a xs,v=.ref a/\SqL K F a xs/\IsAll K F xs ds:=by
 cases h with
|lst h1 h2=>exact⟨_,_,rfl,h1,h2⟩
theorem Is.tuple_inv{F:Hp}{v:V}(h:Is K F v (.tuple ds)):∃a xs,v=.ref a/\SqT K F a xs/\IsAll K F xs ds:=by
 cases h with
|tup h1 h2=>exact⟨_,_,rfl,SqT.of h1,h2⟩
|tuc h1 h2 _=>exact⟨_,_,rfl,h1,h2⟩
theorem Is.int_inv{F:Hp}{v:V}{i:Int}(h:Is K F v (.int i)):v=.int i:=by cases h;rfl
theorem Is.bl_inv{F:Hp}{v:V}{b:Bool}(h:Is K F v (.bool b)):v=.bl b:=by cases h;rfl
theorem Is.str_inv{F:Hp}{v:V}{b:Str}(h:Is K F v (.str b)):v=.str b:=by cases h;rfl
theorem Is.non_inv{F:Hp}{v:V}(h:Is K F v .none):v=.non:=by cases h;rfl
end _3
namespace _4
open PySem PySem.Spec PyProof.Rows _2 _3
variable {F' H':Hp}{K:Fg}{a p:aE}{fp fq:List aE}{x:V}{xs:List V}
abbrev D:=bG
structure Ext(F H F' H':Hp):Prop where
 h:Same H H'
 f:Same F F'
 fh:Same F' H'
 nw:∀a,H a≠none->F a=none->F' a=none
theorem Ext.refl{F H:Hp}(s:Same F H):Ext F H F H:=⟨λ_ _ z=>z,λ_ _ z=>z,s,λ_ _ z=>z⟩
theorem Ext.trans{F H F1 H1 F2 H2:Hp}(a:Ext F H F1 H1)(b:Ext F1 H1 F2 H2):Ext F H F2 H2 :=
 ⟨a.h.trans b.h,a.f.trans b.f,b.fh,λc hc fc=>b.nw c (λz=>by
  cases e:H c with
 |none=>exact hc e
 |some o=>rw[a.h c o e]at z;cases z) (a.nw c hc fc)⟩
inductive T where
|fz (d:D)|li (ds:List D)|ls (ts:List T)|ob (C:aE) (fs:List (Str×T))|dk (kvs:List (Key×D))|dt (kvs:List (List Key×D))|tp (ts:List T)
inductive KvIs(K:Fg)(F:Hp){κ:Type}:List (κ×V)->List (κ×D)->Prop
|nil:KvIs K F [] []
|cons {k:κ} {v:V} {d:D} {r:List (κ×V)} {s:List (κ×D)}:Is K F v d->KvIs K F r s->KvIs K F ((k,v) :: r) ((k,d) :: s)
theorem KvIs.mono{K:Fg}{F F':Hp}{κ:Type}(s:Same F F'):∀{r:List (κ×V)}{t:List (κ×D)},KvIs K F r t->KvIs K F' r t
|_,_,.nil=>.nil
|_,_,.cons h r=>.cons (h.mono s) (r.mono s)
mutual
inductive Rt(K:Fg)(F H:Hp):V->T->List aE->Prop
|fz {v:V} {d:D}:Is K F v d->Rt K F H v (.fz d) []
|li {a:aE} {xs:List V} {ds:List D}:H a=some (.lst xs)->F a=none->IsAll K F xs ds->Rt K F H (.ref a) (.li ds) [a]
|ls {a:aE} {xs:List V} {ts:List T} {fp:List aE}:H a=some (.lst xs)->F a=none->RtAll K F H xs ts fp->Rt K F H (.ref a) (.ls ts) (a :: fp)
|ob {a C dx:aE} {fs:List (Str×V)} {ts:List (Str×T)} {fp:List aE}:H a=some (.ins C dx fs)->H dx=some (.own a)->F a=none->F dx=none->RtFs K F H fs ts fp->Rt K F H (.ref a) (.ob C ts) (a :: dx :: fp)
|dk {a:aE} {kvs:List (Key×V)} {ds:List (Key×D)}:H a=some (.dK kvs)->F a=none->KvIs K F kvs ds->Rt K F H (.ref a) (.dk ds) [a]
|dt {a:aE} {kvs:List (List Key×V)} {ds:List (List Key×D)}:H a=some (.dT kvs)->F a=none->KvIs K F kvs ds->Rt K F H (.ref a) (.dt ds) [a]
|tp {a:aE} {xs:List V} {ts:List T} {fp:List aE}:H a=some (.tup xs)->F a=none->RtAll K F H xs ts fp->Rt K F H (.ref a) (.tp ts) (a :: fp)
inductive RtAll(K:Fg)(F H:Hp):List V->List T->List aE->Prop
|nil:RtAll K F H [] [] []
|cons {x:V} {t:T} {xs:List V} {ts:List T} {fp fq:List aE}:Rt K F H x t fp->RtAll K F H xs ts fq->RtAll K F H (x :: xs) (t :: ts) (fp++fq)
inductive RtFs(K:Fg)(F H:Hp):List (Str×V)->List (Str×T)->List aE->Prop
|nil:RtFs K F H [] [] []
|cons {f:Str} {x:V} {t:T} {xs:List (Str×V)} {ts:List (Str×T)} {fp fq:List aE}:Rt K F H x t fp->RtFs K F H xs ts fq->RtFs K F H ((f,x) :: xs) ((f,t) :: ts) (fp++fq)
end
section
variable {K:Fg}{F H F' H':Hp}
theorem Rt.ind{P : V → T → List aE → Prop}{Q : List V → List T → List aE → Prop}{R : List (Str × V) → List (Str × T) → List aE → Prop}
    (c1 : ∀{v : V}{d : D}, Is K F v d → P v (.fz d) [])
    (c2 : ∀{a : aE}{xs : List V}{ds : List D}, H a = some (.lst xs) → F a = none → IsAll K F xs ds → P (.ref a) (.li ds) [a])
    (c3 : ∀{a : aE}{xs : List V}{ts : List T}{fp : List aE}, H a = some (.lst xs) → F a = none → Q xs ts fp → P (.ref a) (.ls ts) (a :: fp))
    (c4 : ∀{a C dx : aE}{fs : List (Str × V)}{ts : List (Str × T)}{fp : List aE}, H a = some (.ins C dx fs) → H dx = some (.own a) → F a = none → F dx = none → R fs ts fp → P (.ref a) (.ob C ts) (a :: dx :: fp))
    (c5 : ∀{a : aE}{kvs : List (Key × V)}{ds : List (Key × D)}, H a = some (.dK kvs) → F a = none → KvIs K F kvs ds → P (.ref a) (.dk ds) [a])
    (c6 : ∀{a : aE}{kvs : List (List Key × V)}{ds : List (List Key × D)}, H a = some (.dT kvs) → F a = none → KvIs K F kvs ds → P (.ref a) (.dt ds) [a])
    (ct : ∀{a : aE}{xs : List V}{ts : List T}{fp : List aE}, H a = some (.tup xs) → F a = none → Q xs ts fp → P (.ref a) (.tp ts) (a :: fp))
    (c7 : Q [] [] []) (c8 : ∀{x : V}{t : T}{xs : List V}{ts : List T}{fp fq : List aE}, P x t fp → Q xs ts fq → Q (x :: xs) (t :: ts) (fp ++ fq))
    (c9 : R [] [] []) (c0 : ∀{f : Str}{x : V}{t : T}{xs : List (Str × V)}{ts : List (Str × T)}{fp fq : List aE}, P x t fp → R xs ts fq → R ((f, x) :: xs) ((f, t) :: ts) (fp ++ fq)) :
    (∀{v : V}{t : T}{fp : List aE}, Rt K F H v t fp → P v t fp) ∧ (∀{v : List V}{t : List T}{fp : List aE}, RtAll K F H v t fp → Q v t fp) ∧ (∀{v : List (Str × V)}{t : List (Str × T)}{fp : List aE}, RtFs K F H v t fp → R v t fp) :=
  ⟨fun h => Rt.rec (motive_1 := fun v t fp _ => P v t fp) (motive_2 := fun v t fp _ => Q v t fp) (motive_3 := fun v t fp _ => R v t fp) c1 c2 (fun a b _ => c3 a b) (fun a b c d _ => c4 a b c d) c5 c6 (fun a b _ => ct a b) c7 (fun _ _ => c8) c9 (fun _ _ => c0) h,
   fun h => RtAll.rec (motive_1 := fun v t fp _ => P v t fp) (motive_2 := fun v t fp _ => Q v t fp) (motive_3 := fun v t fp _ => R v t fp) c1 c2 (fun a b _ => c3 a b) (fun a b c d _ => c4 a b c d) c5 c6 (fun a b _ => ct a b) c7 (fun _ _ => c8) c9 (fun _ _ => c0) h,
   fun h => RtFs.rec (motive_1 := fun v t fp _ => P v t fp) (motive_2 := fun v t fp _ => Q v t fp) (motive_3 := fun v t fp _ => R v t fp) c1 c2 (fun a b _ => c3 a b) (fun a b c d _ => c4 a b c d) c5 c6 (fun a b _ => ct a b) c7 (fun _ _ => c8) c9 (fun _ _ => c0) h⟩
def Keep(F' H H':Hp)(fp:List aE):Prop:=∀a∈fp,H' a=H a/\F' a=none
theorem Keep.hd{o:HO}(k:Keep F' H H' (a :: fp))(h:H a=some o):H' a=some o:=(k a wP).1.trans h
theorem Keep.no(k:Keep F' H H' (a :: fp)):F' a=none:=(k a wP).2
theorem Keep.tl(k:Keep F' H H' (a :: fp)):Keep F' H H' fp:=λb hb=>k b (wB _ hb)
theorem Keep.l(k:Keep F' H H' (fp++fq)):Keep F' H H' fp:=λb hb=>k b (xJ _ hb)
theorem Keep.r(k:Keep F' H H' (fp++fq)):Keep F' H H' fq:=λb hb=>k b (w8 _ hb)
theorem zwi(s:Same F F'):(∀{v:V}{t:T}{fp:List aE},Rt K F H v t fp->Keep F' H H' fp->Rt K F' H' v t fp)/\(∀{v:List V}{t:List T}{fp:List aE},RtAll K F H v t fp->Keep F' H H' fp->RtAll K F' H' v t fp)/\(∀{v:List (Str×V)}{t:List (Str×T)}{fp:List aE},RtFs K F H v t fp->Keep F' H H' fp->RtFs K F' H' v t fp) :=
 Rt.ind (P:=λv t fp=>Keep F' H H' fp->Rt K F' H' v t fp) (Q:=λv t fp=>Keep F' H H' fp->RtAll K F' H' v t fp) (R:=λv t fp=>Keep F' H H' fp->RtFs K F' H' v t fp)
  (λh _=>.fz (h.mono s)) (λh _ i k=>.li (k.hd h) k.no (i.mono s)) (λh _ i k=>.ls (k.hd h) k.no (i k.tl)) (λh h2 _ _ i k=>.ob (k.hd h) (k.tl.hd h2) k.no k.tl.no (i k.tl.tl))
  (λh _ i k=>.dk (k.hd h) k.no (i.mono s)) (λh _ i k=>.dt (k.hd h) k.no (i.mono s)) (λh _ i k=>.tp (k.hd h) k.no (i k.tl)) (λ_=>.nil) (λa b k=>.cons (a k.l) (b k.r)) (λ_=>.nil) (λa b k=>.cons (a k.l) (b k.r))
theorem Rt.frame(s:Same F F'){v:V}{t:T}(h:Rt K F H v t fp)(k:∀a∈fp,H' a=H a/\F' a=none):Rt K F' H' v t fp:=(zwi s).1 h k
theorem RtAll.frame(s:Same F F'){v:List V}{t:List T}(h:RtAll K F H v t fp)(k:∀a∈fp,H' a=H a/\F' a=none):RtAll K F' H' v t fp:=(zwi s).2.1 h k
theorem RtFs.frame(s:Same F F'){v:List (Str×V)}{t:List (Str×T)}(h:RtFs K F H v t fp)(k:∀a∈fp,H' a=H a/\F' a=none):RtFs K F' H' v t fp:=(zwi s).2.2 h k
def Dom(F H:Hp)(fp:List aE):Prop:=∀a∈fp,H a≠none/\F a=none
theorem Dom.nil:Dom F H []:=λ_ h=>nomatch h
theorem Dom.cons{a:aE}{o:HO}{fp:List aE}(h:H a=some o)(f:F a=none)(r:Dom F H fp):Dom F H (a :: fp):=λb hb=>by
 rcases vW.mp hb with e|e
 ·rw[e];exact⟨λz=>(by rw[h]at z;cases z),f⟩
 ·exact r b e
theorem Dom.app(a:Dom F H fp)(b:Dom F H fq):Dom F H (fp++fq):=λc hc=>(vS.mp hc).elim (a c) (b c)
theorem zcy:(∀{v:V}{t:T}{fp:List aE},Rt K F H v t fp->Dom F H fp)/\(∀{v:List V}{t:List T}{fp:List aE},RtAll K F H v t fp->Dom F H fp)/\(∀{v:List (Str×V)}{t:List (Str×T)}{fp:List aE},RtFs K F H v t fp->Dom F H fp) :=
 Rt.ind (P:=λ_ _ fp=>Dom F H fp) (Q:=λ_ _ fp=>Dom F H fp) (R:=λ_ _ fp=>Dom F H fp) (λ_=>.nil) (λh f _=>.cons h f .nil) (λh f r=>.cons h f r) (λh h2 f f2 r=>.cons h f (.cons h2 f2 r))
  (λh f _=>.cons h f .nil) (λh f _=>.cons h f .nil) (λh f r=>.cons h f r) .nil .app .nil .app
theorem Rt.dom{v:V}{t:T}(h:Rt K F H v t fp):∀a∈fp,H a≠none/\F a=none:=zcy.1 h
theorem RtAll.dom{v:List V}{t:List T}(h:RtAll K F H v t fp):∀a∈fp,H a≠none/\F a=none:=zcy.2.1 h
theorem RtFs.dom{v:List (Str×V)}{t:List (Str×T)}(h:RtFs K F H v t fp):∀a∈fp,H a≠none/\F a=none:=zcy.2.2 h
end
theorem Rt.ext{F H:Hp}{v:V}{t:T}(e:Ext F H F' H')(h:Rt K F H v t fp):Rt K F' H' v t fp :=
 h.frame e.f λa ha=>by
  obtain⟨h1,h2⟩:=h.dom a ha;cases q:H a with
 |none=>exact aJ q h1
 |some o=>exact⟨e.h a o q,e.nw a h1 h2⟩
inductive Sl where
|un|sh (d:D)|ow (t:T)|bo (t:T)|io (a:aE) (t:T)
abbrev DSt:=List Sl
abbrev DE:=DSt->(D->Prop)->Prop
abbrev DF:=DSt->(List D->Prop)->Prop
abbrev DT:=DSt->(Bool->Prop)->Prop
def RSl(K:Fg)(F H:Hp)(v:Option V):Sl->Prop
|.un=>True
|.sh d=>∃x,v=some x/\Is K F x d
|.ow t=>∃x fp,v=some x/\Rt K F H x t fp/\fp.Nodup
|.bo t=>∃x fp,v=some x/\Rt K F H x t fp/\fp.Nodup
|.io a t=>∃fp,v=some (.ref a)/\Rt K F H (.ref a) t fp/\fp.Nodup
theorem RSl.ext{K:Fg}{F H F' H':Hp}{v:Option V}(e:Ext F H F' H'):∀{s:Sl},RSl K F H v s->RSl K F' H' v s
|.un,_=>trivial
|.sh _,⟨x,a,b⟩=>⟨x,a,b.mono e.f⟩
|.ow _,⟨a,xs,h1,h2,h3⟩=>⟨a,xs,h1,h2.ext e,h3⟩
|.bo _,⟨a,xs,h1,h2,h3⟩=>⟨a,xs,h1,h2.ext e,h3⟩
|.io _ _,⟨xs,h1,h2,h3⟩=>⟨xs,h1,h2.ext e,h3⟩
structure RV(K:Fg)(F H:Hp)(Y:_2.St)(U:DSt):Prop where
 len:Y.length=U.length
 sl:∀i s,U[i]?=some s->RSl K F H (Y.getD i none) s
theorem RV.ext{K:Fg}{F H F' H':Hp}{Y:_2.St}{U:DSt}(e:Ext F H F' H')(r:RV K F H Y U):RV K F' H' Y U:=⟨r.len,λi s h=>(r.sl i s h).ext e⟩
def Vw(K:Fg)(F H:Hp)(v:V)(d:D):Prop:=Is K F v d \/ ∃a xs ds,v=.ref a/\d=.list ds/\H a=some (.lst xs)/\IsAll K F xs ds
theorem Vw.ext{F H:Hp}{v:V}{d:D}(e:Ext F H F' H')(h:Vw K F H v d):Vw K F' H' v d:=by
 rcases h with h|⟨a,xs,ds,h1,h2,h3,h4⟩
 ·exact .inl (h.mono e.f)
 ·exact .inr ⟨a,xs,ds,h1,h2,e.h _ _ h3,h4.mono e.f⟩
theorem Vw.is{F H:Hp}{v:V}{d:D}(s:Same F H)(h:Vw K F H v d):Is K H v d:=by
 rcases h with h|⟨a,xs,ds,rfl,rfl,h3,h4⟩
 ·exact h.mono s
 ·exact .lst (SqL.of h3) (h4.mono s)
theorem Vw.list{K:Fg}{F H:Hp}{v:V}{ds:List D}(s:Same F H)(h:Vw K F H v (.list ds)):∃a xs,v=.ref a/\SqL K H a xs/\IsAll K F xs ds:=by
 rcases h with h|⟨a,xs,ds',rfl,e,h3,h4⟩
 ·cases h with
 |lst h1 h2=>exact⟨_,_,rfl,s.seq h1,h2⟩
 ·cases e;exact⟨a,xs,rfl,SqL.of h3,h4⟩
theorem Vw.tuple{K:Fg}{F H:Hp}{v:V}{ds:List D}(s:Same F H)(h:Vw K F H v (.tuple ds)):∃a xs,v=.ref a/\SqT K H a xs/\SqT K F a xs/\IsAll K F xs ds:=by
 rcases h with h|⟨a,xs,ds',rfl,e,h3,h4⟩
 ·cases h with
 |tup h1 h2=>exact⟨_,_,rfl,zml s (SqT.of h1),SqT.of h1,h2⟩
 |tuc h1 h2 _=>exact⟨_,_,rfl,zml s h1,h1,h2⟩
 ·cases e
theorem Vw.int{K:Fg}{F H:Hp}{v:V}{i:Int}(h:Vw K F H v (.int i)):v=.int i:=by
 rcases h with h|⟨a,xs,ds',rfl,e,h3,h4⟩
 ·exact h.int_inv
 ·cases e
theorem Vw.str{K:Fg}{F H:Hp}{v:V}{i:Str}(h:Vw K F H v (.str i)):v=.str i:=by
 rcases h with h|⟨a,xs,ds',rfl,e,h3,h4⟩
 ·exact h.str_inv
 ·cases e
theorem Vw.bl{K:Fg}{F H:Hp}{v:V}{i:Bool}(h:Vw K F H v (.bool i)):v=.bl i:=by
 rcases h with h|⟨a,xs,ds',rfl,e,h3,h4⟩
 ·exact h.bl_inv
 ·cases e
section
variable (K:Fg)
def RfE(te:TE)(de:DE):Prop:=∀{F H:Hp}{Y:_2.St}{U:DSt}{Qd:D->Prop}{Q:VK},Same F H->RV K F H Y U->de U Qd->(∀d,Qd d->∀v F' H',Ext F H F' H'->Is K F' v d->Q v H')->te Y H Q
def RfV(te:TE)(de:DE):Prop:=∀{F H:Hp}{Y:_2.St}{U:DSt}{Qd:D->Prop}{Q:VK},Same F H->RV K F H Y U->de U Qd->(∀d,Qd d->∀v F' H',Ext F H F' H'->Vw K F' H' v d->Q v H')->te Y H Q
def RfF(te:TE)(df:DF):Prop:=∀{F H:Hp}{Y:_2.St}{U:DSt}{Qd:List D->Prop}{Q:VK},Same F H->RV K F H Y U->df U Qd->(∀ds,Qd ds->∀a xs F' H',Ext F H F' H'->H a=none->H' a=some (.lst xs)->F' a=none->IsAll K F' xs ds->Q (.ref a) H')->te Y H Q
def RfT(tt:TT)(dt:DT):Prop:=∀{F H:Hp}{Y:_2.St}{U:DSt}{Qd:Bool->Prop}{Q:Bool->Hp->Prop},Same F H->RV K F H Y U->dt U Qd->(∀b,Qd b->∀F' H',Ext F H F' H'->Q b H')->tt Y H Q
def RfA(ta:TA)(da:DF):Prop:=∀{F H:Hp}{Y:_2.St}{U:DSt}{Qd:List D->Prop}{Q:List V->Hp->Prop},Same F H->RV K F H Y U->da U Qd->(∀ds,Qd ds->∀vs F' H',Ext F H F' H'->IsAll K F' vs ds->Q vs H')->ta Y H Q
inductive VwAll(F H:Hp):List V->List D->Prop
|nil:VwAll F H [] []
|cons {v:V} {d:D} {vs:List V} {ds:List D}:Vw K F H v d->VwAll F H vs ds->VwAll F H (v :: vs) (d :: ds)
def RfAV(ta:TA)(da:DF):Prop:=∀{F H:Hp}{Y:_2.St}{U:DSt}{Qd:List D->Prop}{Q:List V->Hp->Prop},Same F H->RV K F H Y U->da U Qd->(∀ds,Qd ds->∀vs F' H',Ext F H F' H'->VwAll K F' H' vs ds->Q vs H')->ta Y H Q
def RfO(to:TO)(dO:DSt->(Option Int->Prop)->Prop):Prop:=∀{F H:Hp}{Y:_2.St}{U:DSt}{Qd:Option Int->Prop}{Q:Option Int->Hp->Prop},Same F H->RV K F H Y U->dO U Qd->(∀o,Qd o->∀F' H',Ext F H F' H'->Q o H')->to Y H Q
end
section
variable {K:Fg}{te ta tb tc:TE}{de da db dc:DE}{tt tu:TT}{dt du:DT}{tA:TA}{dA:DF}
theorem zoo{F H:Hp}{ds:List D}(e:Ext F H F' H')(hn:H a=none)(h1:H' a=some (.lst xs))(h2:F' a=none)(h3:IsAll K F' xs ds) :
  Ext F H (upd F' a (.lst xs)) H'/\Is K (upd F' a (.lst xs)) (.ref a) (.list ds):=by
 have s:Same F' (upd F' a (.lst xs)):=λb o z=>by
  by_cases hb:b=a
  ·subst hb;rw[h2]at z;cases z
  ·rw[ze1 hb];exact z
 refine⟨⟨e.h,e.f.trans s,λb o z=>?_,λb hb fb=>?_⟩,.lst (SqL.of zt0) (h3.mono s)⟩
 ·by_cases hb:b=a
  ·subst hb;rw[zt0]at z;cases z;exact h1
  ·rw[ze1 hb]at z;exact e.fh b o z
 ·have:b≠a:=λz=>hb (by rw[z];exact hn);rw[ze1 this];exact e.nw b hb fb
theorem zzd{F H:Hp}{ds:List D}(s:Same F H)(hn:H p=none)(h3:IsAll K F xs ds) :
  Ext F H (upd F p (.tup xs)) (upd H p (.tup xs))/\Is K (upd F p (.tup xs)) (.ref p) (.tuple ds):=by
 have fn:F p=none:=by
  cases e:F p with
 |none=>rfl
 |some o=>rw[s p o e]at hn;cases hn
 have sF:Same F (upd F p (.tup xs)):=zw1 fn _;refine⟨⟨zw1 hn _,sF,λb o z=>?_,λb hb fb=>?_⟩,.tup zt0 (h3.mono sF)⟩
 ·by_cases hb:b=p
  ·subst hb;rw[zt0]at z ⊢;exact z
  ·rw[ze1 hb]at z ⊢;exact s b o z
 ·have:b≠p:=λz=>hb (by rw[z];exact hn);rw[ze1 this];exact fb
theorem zo8{F H:Hp}(s:Same F H)(hn:H p=none):Ext F H F (upd H p (.lst xs))/\F p=none:=by
 have fn:F p=none:=by
  cases e:F p with
 |none=>rfl
 |some o=>rw[s p o e]at hn;cases hn
 refine⟨⟨zw1 hn _,λ_ _ z=>z,λb o z=>?_,λ_ _ z=>z⟩,fn⟩;exact zw1 hn _ b o (s b o z)
theorem RfE.v(h:RfE K te de):RfV K te de:=λs r d k=>h s r d λx q v F' H' e i=>k x q v F' H' e (.inl i)
def dF(df:DF):DE:=λU Q=>df U λds=>Q (.list ds)
theorem RfF.e{df:DF}(h:RfF K te df):RfE K te (dF df):=λs r d k=>h s r d λds q a xs F' H' e hn h1 h2 h3=>by
 obtain⟨e2,i2⟩:=zoo e hn h1 h2 h3;exact k _ q _ _ _ e2 i2
def Sl.tree:Sl->Option T
|.ow t=>some t
|.bo t=>some t
|.io _ t=>some t
|.sh d=>some (.fz d)
|.un=>none
def fzT:T->(D->Prop)->Prop
|.fz d,Q=>Q d
|_,_=>False
def vwT:T->(D->Prop)->Prop
|.fz d,Q=>Q d
|.li ds,Q=>Q (.list ds)
|_,_=>False
def slT:Sl->(T->Prop)->Prop
|.sh d,N=>N (.fz d)
|.ow t,N=>N t
|.bo t,N=>N t
|.io _ t,N=>N t
|.un,_=>False
def pAt:DSt->Nat->(T->Prop)->Prop
|[],_,_=>False
|s :: _,0,N=>slT s N
|_ :: U,i+1,N=>pAt U i N
theorem zp51{s:Sl}{N:T->Prop}(h:slT s N):∃t,s.tree=some t/\N t:=by
 cases s with
|un=>exact h.elim
|sh d=>exact⟨_,rfl,h⟩
|ow t=>exact⟨_,rfl,h⟩
|bo t=>exact⟨_,rfl,h⟩
|io a t=>exact⟨_,rfl,h⟩
theorem zfr{N:T->Prop}:∀{U:DSt}{i:Nat},pAt U i N->∃s t,U[i]?=some s/\s.tree=some t/\N t
|s :: _,0,h=>by
  obtain⟨t,h1,h2⟩:=zp51 h;exact⟨s,t,rfl,h1,h2⟩
|_ :: U,i+1,h=>zfr (U:=U) (i:=i) h
def dVar(i:Nat):DE:=λU Q=>pAt U i λt=>fzT t Q
def zm0(i:Nat):DE:=λU Q=>pAt U i λt=>vwT t Q
theorem zya{F H:Hp}{Y:_2.St}{U:DSt}{i:Nat}(e:Y.getD i none=some x):Y[i]?=some (some x):=by
 rw[v6]at e;cases q:Y[i]? with
|none=>rw[q]at e;cases e
|some v=>rw[q]at e;exact congrArg some e
theorem RSl.rt{F H:Hp}{v:Option V}:∀{s:Sl}{t:T},RSl K F H v s->s.tree=some t->∃x fp,v=some x/\Rt K F H x t fp/\fp.Nodup
|.un,_,_,e=>by cases e
|.sh d,_,⟨x,h1,h2⟩,e=>by cases e;exact⟨x,[],h1,.fz h2,.nil⟩
|.ow _,_,⟨x,fp,h1,h2⟩,e=>by cases e;exact⟨x,fp,h1,h2⟩
|.bo _,_,⟨x,fp,h1,h2⟩,e=>by cases e;exact⟨x,fp,h1,h2⟩
|.io a _,_,⟨fp,h1,h2⟩,e=>by cases e;exact⟨_,fp,h1,h2⟩
theorem zx91{F H:Hp}{t:T}{Q:D->Prop}(h:Rt K F H x t fp)(q:vwT t Q):∃d,Q d/\Vw K F H x d:=by
 cases h with
|fz i=>exact⟨_,q,.inl i⟩
|li h1 h2 h3=>exact⟨_,q,.inr ⟨_,_,_,rfl,rfl,h1,h3⟩⟩
|ls _ _ _=>exact q.elim
|ob _ _ _ _ _=>exact q.elim
|dk _ _ _=>exact q.elim
|dt _ _ _=>exact q.elim
|tp _ _ _=>exact q.elim
theorem za01{F H:Hp}{t:T}{Q:D->Prop}(h:Rt K F H x t fp)(q:fzT t Q):∃d,Q d/\Is K F x d:=by
 cases h with
|fz i=>exact⟨_,q,i⟩
|li _ _ _=>exact q.elim
|ls _ _ _=>exact q.elim
|ob _ _ _ _ _=>exact q.elim
|dk _ _ _=>exact q.elim
|dt _ _ _=>exact q.elim
|tp _ _ _=>exact q.elim
theorem zi0(i:Nat):RfE K (tVar i) (dVar i):=by
 walk_at"25";obtain⟨sl,t,q,et,f⟩:=zfr h;obtain⟨x,fp,e,hr,_⟩:=(r.sl i _ q).rt et;obtain⟨d,qd,hi⟩:=za01 hr f;exact⟨x,zya (F:=F) (H:=H) (U:=U) e,k d qd x F H (Ext.refl s) hi⟩
theorem zb0(i:Nat):RfV K (tVar i) (zm0 i):=by
 walk_at"25";obtain⟨sl,t,q,et,f⟩:=zfr h;obtain⟨x,fp,e,hr,_⟩:=(r.sl i _ q).rt et;obtain⟨d,qd,hi⟩:=zx91 hr f;exact⟨x,zya (F:=F) (H:=H) (U:=U) e,k d qd x F H (Ext.refl s) hi⟩
def dC(d:D):DE:=λ_ Q=>Q d
theorem zd1{i:Int}:RfE K (tC (.int i)) (dC (.int i)):=λs r h k=>k _ h _ _ _ (Ext.refl s) (.int i)
theorem zmq{b:Bool}:RfE K (tC (.bl b)) (dC (.bool b)):=λs r h k=>k _ h _ _ _ (Ext.refl s) (.bl b)
theorem za7{x:Str}:RfE K (tC (.str x)) (dC (.str x)):=λs r h k=>k _ h _ _ _ (Ext.refl s) (.str x)
theorem zog:RfE K (tC .non) (dC .none):=λs r h k=>k _ h _ _ _ (Ext.refl s) .non
def dOp(f:D->D->(D->Prop)->Prop)(da db:DE):DE:=λU Q=>da U λx=>db U λy=>f x y Q
def R2E(K:Fg)(r:R2)(f:D->D->(D->Prop)->Prop):Prop:=∀{F H:Hp}{x y:V}{d e:D}{Qd:D->Prop}{Q:VK},Same F H->Vw K F H x d->Vw K F H y e->f d e Qd->(∀z,Qd z->∀v F' H',Ext F H F' H'->Is K F' v z->Q v H')->r x y H Q
def R2F(K:Fg)(r:R2)(f:D->D->(List D->Prop)->Prop):Prop:=∀{F H:Hp}{x y:V}{d e:D}{Qd:List D->Prop}{Q:VK},Same F H->Vw K F H x d->Vw K F H y e->f d e Qd->(∀ds,Qd ds->∀a xs F' H',Ext F H F' H'->H a=none->H' a=some (.lst xs)->F' a=none->IsAll K F' xs ds->Q (.ref a) H')->r x y H Q
theorem zl0{r:R2}{f:D->D->(D->Prop)->Prop}(hr:R2E K r f)(ha:RfV K ta da)(hb:RfV K tb db):RfE K (tOp r ta tb) (dOp f da db):=by
 walk_at"1";refine ha s rv h λx hx v F1 H1 e1 i1=>hb e1.fh (rv.ext e1) hx λy hy u F2 H2 e2 i2=>?_;exact hr e2.fh (i1.ext e2) i2 hy λz hz w F3 H3 e3 i3=>k z hz w F3 H3 ((e1.trans e2).trans e3) i3
end
variable {C a dx:aE}{E:XK}{H':Hp}{K:Fg}{N:DSt->Prop}{U U':DSt}{Y Y':_2.St}{df di:DF}{f m qual:Str}{fn fp fpr:List aE}{fps:Nat->List aE}{g:Int->Int->V}{gs:TGs}{i n:Nat}{ix:List Nat}{kv x y:V}{neg:Bool}{o:HO}{ps:List Str}{st:cO}{vs xs:List V}
section
variable {K:Fg}{te ta tb tc:TE}{de da db dc:DE}{tt tu:TT}{dt du:DT}{tA:TA}{dA:DF}{w:aQ}
def fAdd:D->D->(D->Prop)->Prop
|.int i,.int j,Q=>Q (.int (i+j))
|.str a,.str b,Q=>a.length+b.length<=sizeLine/\Q (.str (a++b))
|.list a,.list b,Q=>a.length+b.length<=sizeLine/\Q (.list (a++b))
|.tuple a,.tuple b,Q=>a≠[]/\b≠[]/\a.length+b.length<=sizeLine/\Q (.tuple (a++b))
|_,_,_=>False
def fCat:D->D->(List D->Prop)->Prop
|.list a,.list b,Q=>a.length+b.length<=sizeLine/\Q (a++b)
|_,_,_=>False
theorem zlc1:R2F K (zv71 K) fCat:=by
 walk_at"4";unfold fCat at h;cases d <;> first|exact h.elim|skip
 all_goals cases e <;> first|exact h.elim|skip
 ·rename_i a b
  obtain⟨p,xs,rfl,h1,i1⟩:=hx.list s;obtain⟨q,ys,rfl,h2,i2⟩:=hy.list s;have e1:=i1.dlen;have e2:=i2.dlen;refine .inr ⟨p,q,xs,ys,rfl,rfl,h1,h2,by lia,λl hl=>?_⟩;obtain⟨ex,fn⟩:=zo8 (xs:=xs++ys) s hl;exact k _ h.2 l _ F _ ex hl zt0 fn (i1.dapp i2)
theorem zf8:R2E K (zv71 K) fAdd:=by
 walk_at"4";unfold fAdd at h;cases d <;> first|exact h.elim|skip
 all_goals cases e <;> first|exact h.elim|skip
 ·cases hx.int;cases hy.int;exact .inl (.inl ⟨_,_,rfl,rfl,k _ h _ F H (Ext.refl s) (.int _)⟩)
 ·cases hx.str;cases hy.str;exact .inl (.inr (.inl ⟨_,_,rfl,rfl,h.1,k _ h.2 _ F H (Ext.refl s) (.str _)⟩))
 ·rename_i a b
  refine zlc1 (Qd:=λds=>Qd (.list ds)) s hx hy h λds q l xs F' H' ex hn h1 h2 h3=>?_;obtain⟨e2,i2⟩:=zoo ex hn h1 h2 h3;exact k _ q _ _ _ e2 i2
 ·rename_i a b
  obtain⟨p,xs,rfl,h1,_,i1⟩:=hx.tuple s;obtain⟨q,ys,rfl,h2,_,i2⟩:=hy.tuple s;have e1:=i1.dlen;have e2:=i2.dlen;have n1:xs≠[]:=λz=>h.1 (uaQ.mp (by rw[<- e1,z];rfl));have n2:ys≠[]:=λz=>h.2.1 (uaQ.mp (by rw[<- e2,z];rfl));refine .inl (.inr (.inr (.inr ⟨p,q,xs,ys,rfl,rfl,h1,h2,n1,by lia,λz=>aJ z n2,λ_ l hl=>?_⟩)));obtain⟨ex,ii⟩:=zzd (K:=K) (ds:=a++b) s hl (i1.dapp i2);exact k _ h.2.2.2 _ _ _ ex ii
def fI(C:Int->Int->Prop)(g:Int->Int->D):D->D->(D->Prop)->Prop
|.int i,.int j,Q=>C i j/\Q (g i j)
|_,_,_=>False
def fI0(g:Int->Int->D):D->D->(D->Prop)->Prop
|.int i,.int j,Q=>Q (g i j)
|_,_,_=>False
theorem r_I{C:Int->Int->Prop}{g':Int->Int->D}(hg:∀i j (F:Hp),Is K F (g i j) (g' i j)):R2E K (rI C g) (fI C g'):=by
 walk_at"4";unfold fI at h;cases d <;> first|exact h.elim|skip
 all_goals cases e <;> first|exact h.elim|skip
 ·cases hx.int;cases hy.int;exact⟨_,_,rfl,rfl,h.1,k _ h.2 _ F H (Ext.refl s) (hg _ _ _)⟩
theorem r_I0{g':Int->Int->D}(hg:∀i j (F:Hp),Is K F (g i j) (g' i j)):R2E K (rI0 g) (fI0 g'):=by
 walk_at"4";unfold fI0 at h;cases d <;> first|exact h.elim|skip
 all_goals cases e <;> first|exact h.elim|skip
 ·cases hx.int;cases hy.int;exact⟨_,_,rfl,rfl,k _ h _ F H (Ext.refl s) (hg _ _ _)⟩
abbrev fSub:=fI0 λi j=>.int (i - j)
abbrev fDiv:=fI zlz λi j=>.int (i / j)
abbrev fMod:=fI (λ_ j=>0 < j) λi j=>.int (i % j)
abbrev fPow:=fI CPow λi j=>.int (i ^ j.toNat)
abbrev fLt:=fI0 λi j=>.bool (decide (i < j))
abbrev fLe:=fI0 λi j=>.bool (decide (i<=j))
abbrev fGt:=fI0 λi j=>.bool (decide (j < i))
abbrev fGe:=fI0 λi j=>.bool (decide (j<=i))
theorem zij:R2E K (rI0 λi j=>V.int (i - j)) fSub:=r_I0 λ_ _ _=>.int _
theorem zsf:R2E K (rI zlz λi j=>V.int (i / j)) fDiv:=r_I λ_ _ _=>.int _
theorem zy9:R2E K (rI (λ_ j=>0 < j) λi j=>V.int (i % j)) fMod:=r_I λ_ _ _=>.int _
theorem zg91:R2E K (rI CPow λi j=>V.int (i ^ j.toNat)) fPow:=r_I λ_ _ _=>.int _
theorem r_lt:R2E K (rI0 λi j=>V.bl (decide (i < j))) fLt:=r_I0 λ_ _ _=>.bl _
theorem r_le:R2E K (rI0 λi j=>V.bl (decide (i<=j))) fLe:=r_I0 λ_ _ _=>.bl _
theorem r_gt:R2E K (rI0 λi j=>V.bl (decide (j < i))) fGt:=r_I0 λ_ _ _=>.bl _
theorem r_ge:R2E K (rI0 λi j=>V.bl (decide (j<=i))) fGe:=r_I0 λ_ _ _=>.bl _
def fMul:D->D->(D->Prop)->Prop
|.int i,.int j,Q=>CMul i j/\Q (.int (i * j))
|.str z,.int n,Q=>0<=n/\z.length * n.toNat<=sizeLine/\n<=sizeLine/\Q (.str (repS z n.toNat))
|_,_,_=>False
theorem zl11:R2E K zl61 fMul:=by
 walk_at"4";unfold fMul at h;cases d <;> first|exact h.elim|skip
 all_goals cases e <;> first|exact h.elim|skip
 ·cases hx.int;cases hy.int;exact .inl (.inl (.inl ⟨_,_,rfl,rfl,h.1,k _ h.2 _ F H (Ext.refl s) (.int _)⟩))
 ·cases hx.str;cases hy.int;exact .inl (.inr ⟨_,_,rfl,rfl,h.1,h.2.1,h.2.2.1,k _ h.2.2.2 _ F H (Ext.refl s) (.str _)⟩)
def fRep:List D->D->(List D->Prop)->Prop
|ds,.int n,Q=>n < 2 ^ 62/\-(2 ^ 62)<=n/\ds.length * n.toNat<=sizeLine/\Q (vV n.toNat ds).flatten
|_,_,_=>False
def dRep(df:DF)(db:DE):DF:=λU Q=>df U λds=>db U λy=>fRep ds y Q
theorem zts{F:Hp}{xs:List V}{ds:List D}(h:IsAll K F xs ds):∀n:Nat,IsAll K F (vV n xs).flatten (vV n ds).flatten
|0=>.nil
|n+1=>by rw[yM,yM,yW,yW];exact h.dapp (zts h n)
theorem zi41(ha:RfF K ta df)(hb:RfE K tb db):RfF K (tOp zl61 ta tb) (dRep df db):=by
 walk_at"1";refine ha s rv h λds hx a xs F1 H1 e1 hn h1 h2 h3=>hb e1.fh (rv.ext e1) hx λy hy u F2 H2 e2 i2=>?_;unfold fRep at hy;split at hy
 ·rename_i n
  cases i2.int_inv;have el:=h3.dlen;refine .inr ⟨a,n,xs,rfl,rfl,e2.h _ _ h1,by lia,by lia,by rw[el];exact hy.2.2.1,λp hp=>?_⟩;obtain⟨ex,fn⟩:=zo8 (xs:=(vV n.toNat xs).flatten) e2.fh hp;refine k _ hy.2.2.2 p _ F2 _ ((e1.trans e2).trans ex) ?_ zt0 fn (zts (h3.mono e2.f) _);cases q:H p with
 |none=>rfl
 |some o=>rw[(e1.trans e2).h p o q]at hp;cases hp
 ·exact hy.elim
def fEq:D->D->(D->Prop)->Prop
|.int i,.int j,Q=>Q (.bool (decide (i=j)))
|.str i,.str j,Q=>Q (.bool (decide (i=j)))
|.bool i,.bool j,Q=>Q (.bool (decide (i=j)))
|d,e,Q=>bW d=true/\bW e=true/\Q (.bool (xD d e))
def fNe:D->D->(D->Prop)->Prop
|.int i,.int j,Q=>Q (.bool (!decide (i=j)))
|.str i,.str j,Q=>Q (.bool (!decide (i=j)))
|.bool i,.bool j,Q=>Q (.bool (!decide (i=j)))
|d,e,Q=>bW d=true/\bW e=true/\Q (.bool (!PyData.eqv d e))
theorem zuf(i j:Int):decide (V.int i=V.int j)=decide (i=j):=by simp
theorem zeg(i j:Str):decide (V.str i=V.str j)=decide (i=j):=by simp
theorem zln(i j:Bool):decide (V.bl i=V.bl j)=decide (i=j):=by simp
def zou:D->Bool
|.none=>true
|_=>false
def fIsN:D->D->(D->Prop)->Prop
|d,.none,Q=>Q (.bool (zou d))
|_,_,_=>False
def zov:D->D->(D->Prop)->Prop
|d,.none,Q=>Q (.bool (!zou d))
|_,_,_=>False
theorem zw21{F H:Hp}{d:D}(s:Same F H)(hx:Vw K F H x d):decide (x=.non)=zou d:=by
 cases hx.is s <;> simp[zou]
theorem zzz{F H:Hp}(s:Same F H)(hx:Vw K F H x .none):x=.non:=by
 cases hx.is s;rfl
theorem zlb1:R2E K (λx y H Q=>y=V.non/\Q (V.bl (decide (x=V.non))) H) fIsN:=by
 walk_at"4";unfold fIsN at h;split at h
 ·refine⟨zzz s hy,k _ h _ F H (Ext.refl s) ?_⟩;rw[zw21 s hx];exact .bl _
 ·exact h.elim
theorem zv41:R2E K (λx y H Q=>y=V.non/\Q (V.bl (!decide (x=V.non))) H) zov:=by
 walk_at"4";unfold zov at h;split at h
 ·refine⟨zzz s hy,k _ h _ F H (Ext.refl s) ?_⟩;rw[zw21 s hx];exact .bl _
 ·exact h.elim
def fIx:D->D->(D->Prop)->Prop
|.list ds,.int i,Q=>∃d,atI ds i=some d/\Q d
|.tuple ds,.int i,Q=>∃d,atI ds i=some d/\Q d
|.str z,.int i,Q=>z.length<=sizeLine/\∃c,atI z.cps.toList i=some c/\Q (.str ⟨#[c]⟩)
|_,_,_=>False
theorem zb01{F:Hp}{ds:List D}{i:Int}{d:D}(h:IsAll K F xs ds)(e:atI ds i=some d):∃x,atI xs i=some x/\Is K F x d:=by
 unfold atI at e ⊢;rw[h.dlen];cases q:ixN ds.length i with
|none=>rw[q]at e;cases e
|some j =>
  rw[q]at e;obtain⟨x,h1,h2⟩:=h.dget (show ds[j]?=some d from e);exact⟨x,h1,h2⟩
theorem r_ix:R2E K (rIxV w K) fIx:=by
 walk_at"4";unfold fIx at h;cases d <;> first|exact h.elim|skip
 all_goals cases e <;> first|exact h.elim|skip
 ·obtain⟨hz,c,ec,q⟩:=h;cases hx.str;cases hy.int;exact .inl (.inl (.inr (.inr ⟨_,_,c,rfl,rfl,hz,ec,k _ q _ F H (Ext.refl s) (.str _)⟩)))
 ·obtain⟨z,ez,q⟩:=h;obtain⟨p,xs,rfl,h1,i1⟩:=hx.list s;cases hy.int;obtain⟨v,ev,iv⟩:=zb01 i1 ez;exact .inl (.inl (.inl ⟨p,xs,_,v,rfl,rfl,h1,ev,k _ q _ F H (Ext.refl s) iv⟩))
 ·obtain⟨z,ez,q⟩:=h;obtain⟨p,xs,rfl,h1,_,i1⟩:=hx.tuple s;cases hy.int;obtain⟨v,ev,iv⟩:=zb01 i1 ez;exact .inl (.inl (.inr (.inl ⟨p,xs,_,v,rfl,rfl,h1,ev,k _ q _ F H (Ext.refl s) iv⟩)))
def zrf:D->Bool
|.none=>true
|.bool _=>true
|.int _=>true
|.str _=>true
|_=>false
def eqF:D->D->Bool
|.none,.none=>true
|.bool a,.bool b=>a == b
|.bool a,.int b=>(if a then 1 else 0) == b
|.int a,.bool b=>a == (if b then 1 else 0)
|.int a,.int b=>a == b
|.str a,.str b=>a == b
|_,_=>false
theorem zpl{F:Hp}{d:D}(h:Is K F x d)(f:zrf d=true):zaq x=true:=by
 cases h <;> first|rfl|exact aJ f (by simp[zrf])
theorem zzh{F:Hp}:∀{xs:List V}{ds:List D},IsAll K F xs ds->ds.all zrf=true->xs.all zaq=true
|_,_,.nil,_=>rfl
|_,_,.cons h r,f=>by
  rw[zB,yV]at f ⊢;exact⟨zpl h f.1,zzh r f.2⟩
theorem zxz{F:Hp}{d e:D}(h:Is K F x d)(h':Is K F y e)(f:zrf d=true)(g:zrf e=true):eqV x y=eqF d e:=by
 cases h <;> cases h' <;> first|rfl|exact aJ f (by simp[zrf])|exact aJ g (by simp[zrf])
theorem znn{F:Hp}{x:V}{d:D}(hx:Is K F x d)(f:zrf d=true):∀{xs:List V}{ds:List D},IsAll K F xs ds->ds.all zrf=true->inV x xs=ds.any λy=>eqF y d
|_,_,.nil,_=>rfl
|_,_,.cons h r,g=>by
  rw[zB,yV]at g;unfold inV;rw[xP,xP,zxz h hx g.1 f];congr 1;exact znn hx f r g.2
def fIn(neg:Bool):D->D->(D->Prop)->Prop
|d,.list ds,Q=>zrf d=true/\ds.all zrf=true/\Q (.bool (if neg then !(ds.any λy=>eqF y d)else ds.any λy=>eqF y d))
|d,.tuple ds,Q=>zrf d=true/\ds.all zrf=true/\Q (.bool (if neg then !(ds.any λy=>eqF y d)else ds.any λy=>eqF y d))
|.str c,.str z,Q=>∃n,c=⟨#[n]⟩/\Q (.bool (if neg then !decide (n∈z.cps.toList)else decide (n∈z.cps.toList)))
|_,_,_=>False
theorem zu21{F H:Hp}{d e:D}{Qd:D->Prop}{Q:VK}(s:Same F H)(hx:Vw K F H x d)(hy:Vw K F H y e)(h:fIn neg d e Qd)(k:∀z,Qd z->∀v F' H',Ext F H F' H'->Is K F' v z->Q v H') :
  rIn K neg x y H Q \/ ∃c z,x=.str ⟨#[c]⟩/\y=.str z/\Q (.bl (if neg then !decide (c∈z.cps.toList)else decide (c∈z.cps.toList))) H:=by
 unfold fIn at h;split at h
 ·obtain⟨f,g,q⟩:=h;obtain⟨p,xs,rfl,h1,i1⟩:=hy.list s;have ix:=hx.is s;refine .inl ⟨p,xs,rfl,.inl h1,zpl ix f,zzh (i1.mono s) g,?_⟩;rw[znn ix f (i1.mono s) g];exact k _ q _ F H (Ext.refl s) (.bl _)
 ·obtain⟨f,g,q⟩:=h;obtain⟨p,xs,rfl,h1,_,i1⟩:=hy.tuple s;have ix:=hx.is s;refine .inl ⟨p,xs,rfl,.inr h1,zpl ix f,zzh (i1.mono s) g,?_⟩;rw[znn ix f (i1.mono s) g];exact k _ q _ F H (Ext.refl s) (.bl _)
 ·obtain⟨n,rfl,q⟩:=h;cases hx.str;cases hy.str;exact .inr ⟨n,_,rfl,rfl,k _ q _ F H (Ext.refl s) (.bl _)⟩
 ·exact h.elim
theorem zm31:R2E K (zro w K) (fIn true):=by
 walk_at"4";rcases zu21 s hx hy h k with z|⟨c,z,h1,h2,q⟩
 ·exact .inl (.inl (.inl z))
 ·exact .inl (.inl (.inr ⟨c,z,h1,h2,q⟩))
def dUn(f:D->(D->Prop)->Prop)(da:DE):DE:=λU Q=>da U λx=>f x Q
def fNeg:D->(D->Prop)->Prop
|.int i,Q=>Q (.int (-i))
|_,_=>False
theorem za81(ha:RfE K ta da):RfE K (tUn (rU λi=>V.int (-i)) ta) (dUn fNeg da):=by
 walk_at"1";refine ha s rv h λx hx v F1 H1 e1 i1=>?_;unfold fNeg at hx;split at hx
 ·cases i1.int_inv;exact⟨_,rfl,k _ hx _ F1 H1 e1 (.int _)⟩
 ·exact hx.elim
def fB(d:D)(Q:Bool->Prop):Prop:=match d with
|.bool b=>Q b
|_=>False
theorem zl71{F:Hp}{v:V}{d:D}{Q:Bool->Prop}(i:Is K F v d)(h:fB d Q):∃b,v=.bl b/\Q b:=by
 unfold fB at h;split at h
 ·exact⟨_,i.bl_inv,h⟩
 ·exact h.elim
def ze91(da:DE):DE:=λU Q=>da U λx=>fB x λb=>Q (.bool (!b))
theorem zf41(ha:RfE K ta da):RfE K (zxa1 ta) (ze91 da):=by
 walk_at"1";refine ha s rv h λx hx v F1 H1 e1 i1=>?_;obtain⟨b,rfl,q⟩:=zl71 i1 hx;exact⟨b,rfl,k _ q _ F1 H1 e1 (.bl _)⟩
def zh51(da db:DE):DE:=λU Q=>da U λx=>fB x λb=>if b=true then db U Q else Q (.bool false)
theorem zus(ha:RfE K ta da)(hb:RfE K tb db):RfE K (zva1 ta tb) (zh51 da db):=by
 walk_at"1";refine ha s rv h λx hx v F1 H1 e1 i1=>?_;obtain⟨b,rfl,q⟩:=zl71 i1 hx;refine⟨b,rfl,?_⟩;cases b with
|true =>
  rw[aF rfl]at q ⊢;exact hb e1.fh (rv.ext e1) q λy hy u F2 H2 e2 i2=>k y hy u F2 H2 (e1.trans e2) i2
|false =>
  rw[aA v5]at q ⊢;exact k _ q _ F1 H1 e1 (.bl _)
def za2(de:DE):DT:=λU Q=>de U λd=>fB d Q
theorem zr0(h:RfE K te de):RfT K (zk31 te) (za2 de):=by
 walk_at"3";refine h s rv hd λx hx v F1 H1 e1 i1=>?_;obtain⟨b,rfl,q⟩:=zl71 i1 hx;exact⟨b,rfl,k b q F1 H1 e1⟩
def fTru:D->(Bool->Prop)->Prop
|.none,Q=>Q false
|.bool b,Q=>Q b
|.int i,Q=>Q (i != 0)
|.str z,Q=>z.length<=sizeLine/\Q ((z.length:Int) != 0)
|.list ds,Q=>Q (!ds.isEmpty)
|.tuple ds,Q=>Q (!ds.isEmpty)
|.dict _,_=>False
def dTru(de:DE):DT:=λU Q=>de U λd=>fTru d Q
theorem zwj{F:Hp}{ds:List D}(h:IsAll K F xs ds):xs.isEmpty=ds.isEmpty:=by cases h <;> rfl
theorem zda(h:RfV K te de):RfT K (zga1 K te) (dTru de):=by
 walk_at"3";refine h s rv hd λx hx v F1 H1 e1 i1=>?_;unfold fTru at hx;split at hx
 ·cases i1.is e1.fh;exact⟨false,rfl,k _ hx F1 H1 e1⟩
 ·cases i1.bl;exact⟨_,rfl,k _ hx F1 H1 e1⟩
 ·cases i1.int;exact⟨_,rfl,k _ hx F1 H1 e1⟩
 ·cases i1.str;exact⟨_,⟨hx.1,rfl⟩,k _ hx.2 F1 H1 e1⟩
 ·obtain⟨p,xs,rfl,h1,i2⟩:=i1.list e1.fh;refine⟨_,.inl ⟨xs,h1,rfl⟩,?_⟩;rw[zwj i2];exact k _ hx F1 H1 e1
 ·obtain⟨p,xs,rfl,h1,_,i2⟩:=i1.tuple e1.fh;refine⟨_,.inr (.inl ⟨xs,h1,rfl⟩),?_⟩;rw[zwj i2];exact k _ hx F1 H1 e1
 ·exact hx.elim
def dAnd(dt du:DT):DT:=λU Q=>dt U λb=>if b=true then du U Q else Q false
def dOr(dt du:DT):DT:=λU Q=>dt U λb=>if b=true then Q true else du U Q
def dNot(dt:DT):DT:=λU Q=>dt U λb=>Q (!b)
theorem zgl(ht:RfT K tt dt)(hu:RfT K tu du):RfT K (tAnd tt tu) (dAnd dt du):=by
 walk_at"1";refine ht s rv h λb hb F1 H1 e1=>?_;cases b with
|true =>
  rw[aF rfl]at hb ⊢;exact hu e1.fh (rv.ext e1) hb λc hc F2 H2 e2=>k c hc F2 H2 (e1.trans e2)
|false =>
  rw[aA v5]at hb ⊢;exact k _ hb F1 H1 e1
theorem zlh(ht:RfT K tt dt)(hu:RfT K tu du):RfT K (tOr tt tu) (dOr dt du):=by
 walk_at"1";refine ht s rv h λb hb F1 H1 e1=>?_;cases b with
|false =>
  rw[aA v5]at hb ⊢;exact hu e1.fh (rv.ext e1) hb λc hc F2 H2 e2=>k c hc F2 H2 (e1.trans e2)
|true =>
  rw[aF rfl]at hb ⊢;exact k _ hb F1 H1 e1
theorem zxg(ht:RfT K tt dt):RfT K (tNot tt) (dNot dt):=λs rv h k=>ht s rv h λb hb F1 H1 e1=>k _ hb F1 H1 e1
def dIfE(dt:DT)(da db:DE):DE:=λU Q=>dt U λb=>if b=true then da U Q else db U Q
theorem zhx(ht:RfT K tt dt)(ha:RfE K ta da)(hb:RfE K tb db):RfE K (tIf tt ta tb) (dIfE dt da db):=by
 walk_at"1";refine ht s rv h λb hb' F1 H1 e1=>?_;cases b with
|true =>
  rw[aF rfl]at hb' ⊢;exact ha e1.fh (rv.ext e1) hb' λy hy u F2 H2 e2 i2=>k y hy u F2 H2 (e1.trans e2) i2
|false =>
  rw[aA v5]at hb' ⊢;exact hb e1.fh (rv.ext e1) hb' λy hy u F2 H2 e2 i2=>k y hy u F2 H2 (e1.trans e2) i2
def dNil:DF:=λ_ Q=>Q []
def zk0(da:DE)(dr:DF):DF:=λU Q=>da U λx=>dr U λxs=>Q (x :: xs)
theorem zo0:RfA K tNil dNil:=λs rv h k=>k _ h _ _ _ (Ext.refl s) .nil
theorem zc0(ha:RfE K ta da)(hr:RfA K tA dA):RfA K (zon ta tA) (zk0 da dA):=by
 walk_at"1";refine ha s rv h λx hx v F1 H1 e1 i1=>hr e1.fh (rv.ext e1) hx λxs hxs vs F2 H2 e2 i2=>?_;exact k _ hxs _ F2 H2 (e1.trans e2) (.cons (i1.mono e2.f) i2)
theorem zp1:RfAV K tNil dNil:=λs rv h k=>k _ h _ _ _ (Ext.refl s) .nil
theorem zx0(ha:RfV K ta da)(hr:RfAV K tA dA):RfAV K (zon ta tA) (zk0 da dA):=by
 walk_at"1";refine ha s rv h λx hx v F1 H1 e1 i1=>hr e1.fh (rv.ext e1) hx λxs hxs vs F2 H2 e2 i2=>?_;exact k _ hxs _ F2 H2 (e1.trans e2) (.cons (i1.ext e2) i2)
def dTup(dA:DF):DE:=λU Q=>dA U λxs=>xs.length<=sizeLine/\Q (.tuple xs)
theorem zs2(h:RfA K tA dA):RfE K (zv81 tA) (dTup dA):=by
 walk_at"3";refine h s rv hd λxs hx vs F1 H1 e1 i1=>⟨by rw[i1.dlen];exact hx.1,λp hp=>?_⟩
 obtain⟨ex,ii⟩:=zzd (K:=K) e1.fh hp i1;exact k _ hx.2 _ _ _ (e1.trans ex) ii
def dLst(dA:DF):DF:=λU Q=>dA U λxs=>xs.length<=sizeLine/\Q xs
theorem zb7(h:RfA K tA dA):RfF K (zl81 tA) (dLst dA):=by
 walk_at"3";refine h s rv hd λxs hx vs F1 H1 e1 i1=>⟨by rw[i1.dlen];exact hx.1,λp hp=>?_⟩
 obtain⟨ex,fn⟩:=zo8 (xs:=vs) e1.fh hp;refine k _ hx.2 p vs F1 _ (e1.trans ex) ?_ zt0 fn i1;cases q:H p with
|none=>rfl
|some o=>rw[e1.h p o q]at hp;cases hp
abbrev DSp:=List D->(D->Prop)->Prop
def spD(K:Fg)(p:DSp):Sp:=λvs H Q _=>∃F ds Qd,Same F H/\IsAll K F vs ds/\p ds Qd/\∀d,Qd d->∀v F' H',Ext F H F' H'->Is K F' v d->Q v H'
def zd3(p:DSp)(dA:DF):DE:=λU Q=>dA U λds=>p ds Q
theorem zw0{p:DSp}(h:RfA K tA dA):RfE K (zuz (spD K p) [] E tA) (zd3 p dA):=by
 walk_at"3";refine h s rv hd λds hp vs F1 H1 e1 i1=>?_;rw[wN];exact⟨F1,ds,Qd,e1.fh,i1,hp,λd q v F' H' e2 i2=>k d q v F' H' (e1.trans e2) i2⟩
def CB(K:Fg)(r:List V->Hp->VK->Prop)(f:List D->(D->Prop)->Prop):Prop:=∀{F H:Hp}{vs:List V}{ds:List D}{Qd:D->Prop}{Q:VK},Same F H->VwAll K F H vs ds->f ds Qd->(∀z,Qd z->∀v F' H',Ext F H F' H'->Is K F' v z->Q v H')->r vs H Q
def CF(K:Fg)(r:List V->Hp->VK->Prop)(f:List D->(List D->Prop)->Prop):Prop:=∀{F H:Hp}{vs:List V}{ds:List D}{Qd:List D->Prop}{Q:VK},Same F H->VwAll K F H vs ds->f ds Qd->(∀z,Qd z->∀a xs F' H',Ext F H F' H'->H a=none->H' a=some (.lst xs)->F' a=none->IsAll K F' xs z->Q (.ref a) H')->r vs H Q
def dCB(f:List D->(D->Prop)->Prop)(dA:DF):DE:=λU Q=>dA U λds=>f ds Q
def dCF(f:List D->(List D->Prop)->Prop)(dA:DF):DF:=λU Q=>dA U λds=>f ds Q
theorem zu8{r:List V->Hp->VK->Prop}{f:List D->(D->Prop)->Prop}(hr:CB K r f)(h:RfAV K tA dA):RfE K (tCB r tA) (dCB f dA):=by
 walk_at"3";refine h s rv hd λds hp vs F1 H1 e1 i1=>hr e1.fh i1 hp λz q v F' H' e2 i2=>k z q v F' H' (e1.trans e2) i2
theorem zqz{r:List V->Hp->VK->Prop}{f:List D->(List D->Prop)->Prop}(hr:CF K r f)(h:RfAV K tA dA):RfF K (tCB r tA) (dCF f dA):=by
 walk_at"3";refine h s rv hd λds hp vs F1 H1 e1 i1=>hr e1.fh i1 hp λz q a xs F' H' e2 hn h1 h2 h3=>k z q a xs F' H' (e1.trans e2) ?_ h1 h2 h3;cases z:H a with
|none=>rfl
|some o=>rw[e1.h a o z]at hn;cases hn
theorem vw1{F H:Hp}{d:D}(h:VwAll K F H vs [d]):∃v,vs=[v]/\Vw K F H v d:=by
 cases h with
|cons h r=>cases r;exact⟨_,rfl,h⟩
theorem vw2{F H:Hp}{d e:D}(h:VwAll K F H vs [d,e]):∃v u,vs=[v,u]/\Vw K F H v d/\Vw K F H u e:=by
 cases h with
|cons h r=>obtain⟨u,rfl,r2⟩:=vw1 r;exact⟨_,u,rfl,h,r2⟩
def fLen:List D->(D->Prop)->Prop
|[.list ds],Q=>Q (.int (ds.length:Nat))
|[.tuple ds],Q=>Q (.int (ds.length:Nat))
|[.str z],Q=>z.length<=sizeLine/\Q (.int (z.length:Nat))
|_,_=>False
theorem zid:CB K (rLen K) fLen:=by
 walk_at"10";unfold fLen at h;rcases ds with _|⟨d,_|⟨e,r⟩⟩
 all_goals first|exact h.elim|(cases d <;> first|exact h.elim|skip)
 ·obtain⟨v,rfl,hw⟩:=vw1 hv;cases hw.str;exact⟨_,_,rfl,⟨h.1,rfl⟩,k _ h.2 _ F H (Ext.refl s) (.int _)⟩
 ·obtain⟨v,rfl,hw⟩:=vw1 hv;obtain⟨p,xs,rfl,h1,i1⟩:=hw.list s;refine⟨_,_,rfl,.inl ⟨xs,h1,rfl⟩,?_⟩;rw[i1.dlen];exact k _ h _ F H (Ext.refl s) (.int _)
 ·obtain⟨v,rfl,hw⟩:=vw1 hv;obtain⟨p,xs,rfl,h1,_,i1⟩:=hw.tuple s;refine⟨_,_,rfl,.inr ⟨xs,h1,rfl⟩,?_⟩;rw[i1.dlen];exact k _ h _ F H (Ext.refl s) (.int _)
def zsz:List D->(D->Prop)->Prop
|[.int i,.int j],Q=>Q (.int (if j > i then j else i))
|_,_=>False
theorem zh71:CB K zjb1 zsz:=by
 walk_at"10";unfold zsz at h;rcases ds with _|⟨d,_|⟨e,_|⟨f,r⟩⟩⟩
 all_goals first|exact h.elim|(cases d <;> first|exact h.elim|skip)
 all_goals cases e <;> first|exact h.elim|skip
 ·obtain⟨v,u,rfl,h1,h2⟩:=vw2 hv;cases h1.int;cases h2.int;exact⟨_,_,rfl,k _ h _ F H (Ext.refl s) (.int _)⟩
def zcq:List D->Option (List Int)
|[]=>some []
|.int i :: r=>(zcq r).map (i :: ·)
|_ :: _=>none
theorem zyh{F:Hp}:∀{xs:List V}{ds:List D}{ns:List Int},IsAll K F xs ds->zcq ds=some ns->xs=ns.map V.int
|_,_,_,.nil,e=>by cases e;rfl
|_,_,_,.cons h r,e=>by
  cases h with
 |int i =>
   unfold zcq at e;obtain⟨ms,e1,rfl⟩:=wQ.mp e;rw[zyh r e1];rfl
 |_=>cases e
theorem ints_map(ns:List Int):zcq (ns.map vQ)=some ns:=by
 induction ns with
|nil=>rfl
|cons n r ih=>simp[zcq,ih]
def fSum:List D->(D->Prop)->Prop
|[.list ds],Q=>∃ns,zcq ds=some ns/\Q (.int ns.sum)
|_,_=>False
theorem zpz:CB K (rSum K) fSum:=by
 walk_at"10";unfold fSum at h;rcases ds with _|⟨d,_|⟨e,r⟩⟩
 all_goals first|exact h.elim|(cases d <;> first|exact h.elim|skip)
 ·obtain⟨v,rfl,hw⟩:=vw1 hv;obtain⟨p,xs,rfl,h1,i1⟩:=hw.list s;obtain⟨ns,e,q⟩:=h;have:=zyh i1 e;subst this;exact⟨p,ns,rfl,h1,k _ q _ F H (Ext.refl s) (.int _)⟩
def zeq:List D->(List D->Prop)->Prop
|[.list ds],Q=>Q ds
|[.tuple ds],Q=>Q ds
|_,_=>False
theorem zzk:CF K (zwa1 K) zeq:=by
 walk_at"10";unfold zeq at h;rcases ds with _|⟨d,_|⟨e,r⟩⟩
 all_goals first|exact h.elim|(cases d <;> first|exact h.elim|skip)
 ·obtain⟨v,rfl,hw⟩:=vw1 hv;obtain⟨p,xs,rfl,h1,i1⟩:=hw.list s;refine⟨p,xs,rfl,.inl h1,λl hl=>?_⟩;obtain⟨ex,fn⟩:=zo8 (xs:=xs) s hl;exact k _ h l xs F _ ex hl zt0 fn i1
 ·obtain⟨v,rfl,hw⟩:=vw1 hv;obtain⟨p,xs,rfl,h1,_,i1⟩:=hw.tuple s;refine⟨p,xs,rfl,.inr h1,λl hl=>?_⟩;obtain⟨ex,fn⟩:=zo8 (xs:=xs) s hl;exact k _ h l xs F _ ex hl zt0 fn i1
def tyD:D->String
|.none => "NoneType"|.bool _ => "bool"|.int _ => "int"|.str _ => "str"|.list _ => "list"|.tuple _ => "tuple"|.dict _ => "dict"
def isT(T:String)(d:D):Bool:=tyD d == T || (T == "int" && tyD d == "bool")
structure Kit(K:Fg):Prop where
 ok:∀t∈["NoneType", "bool", "int", "str", "list", "tuple"],∀T∈["int", "bool", "list", "tuple", "str"],dI K (.type t) (.type T)=some (t == T || (T == "int" && t == "bool"))
def dIs(T:String)(da:DE):DE:=λU Q=>da U λd=>(∀kvs,d≠.dict kvs)/\Q (.bool (isT T d))
theorem zrz{T:String}(kt:Kit K)(hT:T∈["int", "bool", "list", "tuple", "str"])(ha:RfV K ta da):RfE K (tCB (rIsW K) (zon ta (zon (tC (.ty T)) tNil))) (dIs T da):=by
 walk_at"3";refine ha s rv hd λd hd v F1 H1 e1 i1=>?_;have q:=k _ hd.2 (.bl (isT T d)) F1 H1 e1 (.bl _);have i2:=i1.is e1.fh;show rIsW K [v,.ty T] H1 Q;cases i2 with
|non=>exact .inl ⟨_,_,_,_,_,rfl,rfl,.non,kt.ok _ (by simp) T hT,q⟩
|bl b=>exact .inl ⟨_,_,_,_,_,rfl,rfl,.bl b,kt.ok _ (by simp) T hT,q⟩
|int b=>exact .inl ⟨_,_,_,_,_,rfl,rfl,.int b,kt.ok _ (by simp) T hT,q⟩
|str b=>exact .inl ⟨_,_,_,_,_,rfl,rfl,.str b,kt.ok _ (by simp) T hT,q⟩
|lst h1 h2=>exact .inr ⟨_,_,_,_,rfl,rfl,.inl ⟨⟨_,h1⟩,kt.ok _ (by simp) T hT⟩,q⟩
|tup h1 h2=>exact .inr ⟨_,_,_,_,rfl,rfl,.inr ⟨⟨_,SqT.of h1⟩,kt.ok _ (by simp) T hT⟩,q⟩
|tuc h1 h2 _=>exact .inr ⟨_,_,_,_,rfl,rfl,.inr ⟨⟨_,h1⟩,kt.ok _ (by simp) T hT⟩,q⟩
abbrev DO:=DSt->(Option Int->Prop)->Prop
def zxc:DO:=λ_ Q=>Q none
def zvx(de:DE):DO:=λU Q=>de U λd=>match d with
|.int i=>Q (some i)
|_=>False
theorem znd:RfO K zit zxc:=λs rv h k=>k _ h _ _ (Ext.refl s)
theorem zjc(h:RfE K te de):RfO K (zj41 te) (zvx de):=by
 walk_at"3";refine h s rv hd λd hx v F1 H1 e1 i1=>?_;split at hx
 ·cases i1.int_inv;exact⟨_,rfl,k _ hx F1 H1 e1⟩
 ·exact hx.elim
def cutD(xs:List D)(lo hi:Option Int):List D:=(xs.drop (HT.sIx xs.length 0 lo)).take (HT.sIx xs.length xs.length hi - HT.sIx xs.length 0 lo)
theorem zwt{F:Hp}{ds:List D}(h:IsAll K F xs ds)(lo hi:Option Int):IsAll K F (cutV xs lo hi) (cutD ds lo hi):=by
 unfold cutV cutD;rw[h.dlen];exact(h.ddrop _).dtake _
def fSl(d:D)(lo hi:Option Int)(Q:D->Prop):Prop:=match d with
|.list ds=>Q (.list (cutD ds lo hi))
|.str z=>z.length<=sizeLine/\Q (.str (Txt.slice z lo hi))
|.tuple ds=>¬(HT.sIx ds.length 0 lo=0/\HT.sIx ds.length ds.length hi=ds.length)/\Q (.tuple (cutD ds lo hi))
|_=>False
def fSlF(d:D)(lo hi:Option Int)(Q:List D->Prop):Prop:=match d with
|.list ds=>Q (cutD ds lo hi)
|_=>False
variable {tl th tk:TO}{dl dh dk:DO}
def dSl(de:DE)(dl dh:DO):DE:=λU Q=>de U λd=>dl U λlo=>dh U λhi=>fSl d lo hi Q
theorem zb3{F H F':Hp}{p:aE}(e:Ext F H F' H')(h:H' p=none):H p=none:=by
 cases q:H p with
|none=>rfl
|some o=>rw[e.h p o q]at h;cases h
theorem zp31(he:RfV K te de)(hl:RfO K tl dl)(hh:RfO K th dh):RfE K (tSl (rSlW K) te tl th) (dSl de dl dh):=by
 walk_at"1";refine he s rv h λd hd v F1 H1 e1 i1=>hl e1.fh (rv.ext e1) hd λlo hlo F2 H2 e2=>hh e2.fh (rv.ext (e1.trans e2)) hlo λhi hhi F3 H3 e3=>?_;have e13:=(e1.trans e2).trans e3;have i3:=i1.ext (e2.trans e3);unfold fSl at hhi;split at hhi
 ·obtain⟨p,xs,rfl,h1,i2⟩:=i3.list e3.fh;refine .inl (.inl ⟨p,xs,rfl,h1,λl hl=>?_⟩);obtain⟨ex,fn⟩:=zo8 (xs:=cutV xs lo hi) e3.fh hl;obtain⟨ex2,ii⟩:=zoo (K:=K) ex hl zt0 fn (zwt i2 lo hi);exact k _ hhi _ _ _ (e13.trans ex2) ii
 ·cases i3.str;exact .inr ⟨_,rfl,hhi.1,k _ hhi.2 _ F3 H3 e13 (.str _)⟩
 ·obtain⟨p,xs,rfl,h1,_,i2⟩:=i3.tuple e3.fh;refine .inl (.inr ⟨p,xs,rfl,h1,by rw[i2.dlen];exact hhi.1,λl hl=>?_⟩);obtain⟨ex,ii⟩:=zzd (K:=K) e3.fh hl (zwt i2 lo hi);exact k _ hhi.2 _ _ _ (e13.trans ex) ii
 ·exact hhi.elim
theorem zch{F:Hp}{xs:List V}{ds:List D}(h:IsAll K F xs ds):∀js:List Nat,IsAll K F (js.filterMap (xs[·]?)) (js.filterMap (ds[·]?))
|[]=>.nil
|j :: js=>by
  have ih:=zch h js;cases hn:ds[j]? with
 |some n =>
   obtain⟨u,hu,r⟩:=h.dget hn;simp only[xB,hn,hu];exact .cons r ih
 |none =>
   have hv:xs[j]?=none:=by
    rw[z7]at hn ⊢;rw[h.dlen];exact hn
   simp only[xB,hn,hv];exact ih
theorem zgw{F:Hp}{ds:List D}(h:IsAll K F xs ds)(lo hi st:Option Int):IsAll K F (zom xs lo hi st) (zom ds lo hi st):=by
 unfold zom;rw[h.dlen];exact zch h _
def dSl3(de:DE)(dl dh dk:DO):DF:=λU Q=>de U λd=>dl U λlo=>dh U λhi=>dk U λst=>match d with
|.list ds=>st≠some 0/\Q (zom ds lo hi st)
|_=>False
theorem za71(he:RfV K te de)(hl:RfO K tl dl)(hh:RfO K th dh)(hk:RfO K tk dk):RfF K (tSl3 K te tl th tk) (dSl3 de dl dh dk):=by
 walk_at"1";refine he s rv h λd hd v F1 H1 e1 i1=>hl e1.fh (rv.ext e1) hd λlo hlo F2 H2 e2=>hh e2.fh (rv.ext (e1.trans e2)) hlo λhi hhi F3 H3 e3=>hk e3.fh (rv.ext ((e1.trans e2).trans e3)) hhi λst hst F4 H4 e4=>?_;split at hst
 ·have e14:=((e1.trans e2).trans e3).trans e4;obtain⟨p,xs,rfl,h1,i2⟩:=(i1.ext ((e2.trans e3).trans e4)).list e4.fh;refine⟨p,xs,rfl,h1,hst.1,λl hl=>?_⟩;obtain⟨ex,fn⟩:=zo8 (xs:=zom xs lo hi st) e4.fh hl;exact k _ hst.2 l _ F4 _ (e14.trans ex) (zb3 e14 hl) zt0 fn (zgw i2 lo hi st)
 ·exact hst.elim
def W0(K:Fg)(J:It)(F H:Hp)(items:List D):Prop:=(∀i,i < items.length->J.go i H)/\J.stop items.length H/\∀i x H3 d,items[i]?=some d->J.yld i H x H3->H3=H/\Is K F x d
def W1(K:Fg)(J:It)(F H:Hp)(items:List D):Prop:=(∀i,i < items.length->J.go i H)/\J.stop items.length H/\∀i x H3 d,items[i]?=some d->J.yld i H x H3->∃F3,Ext F H F3 H3/\Is K F3 x d
def WD(K:Fg)(J:It)(F:Hp)(items:List D):Prop:=∀F2 H2,Same F F2->Same F2 H2->W1 K J F2 H2 items
def WV(K:Fg)(J:It)(F H:Hp)(items:List D):Prop:=∀F2 H2,Ext F H F2 H2->W1 K J F2 H2 items
theorem W0.w1{J:It}{F H:Hp}{items:List D}(s:Same F H)(h:W0 K J F H items):W1 K J F H items:=⟨h.1,h.2.1,λi x H3 d e y=>by
 obtain⟨rfl,r⟩:=h.2.2 i x H3 d e y;exact⟨F,Ext.refl s,r⟩⟩
def RfI(K:Fg)(ti:TI)(di:DF):Prop:=∀{F H:Hp}{Y:_2.St}{U:DSt}{Qd:List D->Prop}{R:It->Hp->Prop},Same F H->RV K F H Y U->di U Qd->(∀ds,Qd ds->∀J F' H',Ext F H F' H'->WD K J F' ds->R J H')->ti Y H R
def RfJ(K:Fg)(ti:TI)(di:DF):Prop:=∀{F H:Hp}{Y:_2.St}{U:DSt}{Qd:List D->Prop}{R:It->Hp->Prop},Same F H->RV K F H Y U->di U Qd->(∀ds,Qd ds->∀J F' H',Ext F H F' H'->WV K J F' H' ds->R J H')->ti Y H R
theorem zsd{F H:Hp}{ds:List D}(h:SqL K H a xs)(i:IsAll K F xs ds):W0 K (Itl K a) F H ds:=by
 have el:=i.dlen;refine⟨λj hj=>⟨xs,xs[j]'(by lia),h,u6 _⟩,⟨xs,h,by lia⟩,λj x H3 d e y=>?_⟩;obtain⟨e3,y⟩:=y;obtain⟨x',h1,h2⟩:=i.dget e;have:=y xs h;rw[h1]at this;cases this;exact⟨e3,h2⟩
theorem zhs{F H:Hp}{ds:List D}(h:SqT K H a xs)(i:IsAll K F xs ds):W0 K (Itt K a) F H ds:=by
 have el:=i.dlen;refine⟨λj hj=>⟨xs,xs[j]'(by lia),h,u6 _⟩,⟨xs,h,by lia⟩,λj x H3 d e y=>?_⟩;obtain⟨e3,y⟩:=y;obtain⟨x',h1,h2⟩:=i.dget e;have:=y xs h;rw[h1]at this;cases this;exact⟨e3,h2⟩
def ziw:D->(List D->Prop)->Prop
|.list ds,Q=>Q ds
|.tuple ds,Q=>Q ds
|.str z,Q=>z.cps.all (· < 128)=true/\Q (z.cps.toList.map λc=>.str ⟨#[c]⟩)
|_,_=>False
def dIt(de:DE):DF:=λU Q=>de U λd=>ziw d Q
theorem zs11{F H:Hp}(z:Str)(s:Same F H):W1 K (Its z) F H (z.cps.toList.map λc=>.str ⟨#[c]⟩):=by
 have el:(z.cps.toList.map λc=>(PyData.str ⟨#[c]⟩)).length=z.cps.size:=by simp
 refine⟨λj hj=>by rw[el]at hj;exact hj,by rw[el];exact u7 _,λj x H3 d e y=>?_⟩;obtain⟨e3,c,e1,e2⟩:=y;subst e3;rw[u8,k6,e1]at e;simp at e;subst e;exact⟨F,Ext.refl s,by rw[e2];exact .str _⟩
theorem zct(h:RfV K te de):RfJ K (iW K te) (dIt de):=by
 walk_at"11";refine h s rv hd λd hx v F1 H1 e1 i1=>?_;unfold ziw at hx;split at hx
 ·obtain⟨p,xs,rfl,h1,i2⟩:=i1.list e1.fh;exact .inl (.inl ⟨p,rfl,⟨xs,h1⟩,k _ hx _ F1 H1 e1 λF2 H2 e2=>(zsd (e2.h.seq h1) (i2.mono e2.f)).w1 e2.fh⟩)
 ·obtain⟨p,xs,rfl,h1,_,i2⟩:=i1.tuple e1.fh;exact .inl (.inr ⟨p,rfl,⟨xs,h1⟩,k _ hx _ F1 H1 e1 λF2 H2 e2=>(zhs (zml e2.h h1) (i2.mono e2.f)).w1 e2.fh⟩)
 ·cases i1.str;exact .inr ⟨_,rfl,hx.1,k _ hx.2 _ F1 H1 e1 λF2 H2 e2=>zs11 _ e2.fh⟩
 ·exact hx.elim
theorem zgq(h:RfE K te de):RfI K (iW K te) (dIt de):=by
 walk_at"11";refine h s rv hd λd hx v F1 H1 e1 i1=>?_;unfold ziw at hx;split at hx
 ·obtain⟨p,xs,rfl,h1,i2⟩:=i1.list_inv;exact .inl (.inl ⟨p,rfl,⟨xs,e1.fh.seq h1⟩,k _ hx _ F1 H1 e1 λF2 H2 s2 t2=>(zsd (t2.seq (s2.seq h1)) (i2.mono s2)).w1 t2⟩)
 ·obtain⟨p,xs,rfl,h1,i2⟩:=i1.tuple_inv;exact .inl (.inr ⟨p,rfl,⟨xs,zml e1.fh h1⟩,k _ hx _ F1 H1 e1 λF2 H2 s2 t2=>(zhs (zml t2 (zml s2 h1)) (i2.mono s2)).w1 t2⟩)
 ·cases i1.str_inv;exact .inr ⟨_,rfl,hx.1,k _ hx.2 _ F1 H1 e1 λF2 H2 s2 t2=>zs11 _ t2⟩
 ·exact hx.elim
theorem RfI.j{ti:TI}(h:RfI K ti di):RfJ K ti di:=λs rv hd k=>h s rv hd λds q J F' H' e w=>k ds q J F' H' e λF2 H2 e2=>w F2 H2 e2.f e2.fh
def rngD(lo:Int)(n:Nat):List D:=(u4 n).map λi=>.int (lo+(i:Nat))
theorem zlo(lo:Int)(n:Nat):(rngD lo n).length=n:=by simp[rngD]
theorem zmv{lo:Int}{d:D}(e:(rngD lo n)[i]?=some d):i < n/\d=.int (lo+(i:Nat)):=by
 unfold rngD at e;rw[u8]at e;obtain⟨j,hj,rfl⟩:=wQ.mp e;obtain⟨h1,h2⟩:=v8.mp hj;simp at h1 h2;subst h2;exact⟨h1,rfl⟩
theorem zg21{F H:Hp}(lo:Int)(n:Nat)(s:Same F H):W1 K (Itr lo n) F H (rngD lo n):=by
 refine⟨λj hj=>by rw[zlo]at hj;exact hj,by rw[zlo];exact u7 _,λj x H3 d e y=>?_⟩;obtain⟨e3,y⟩:=y;subst e3;obtain⟨_,rfl⟩:=zmv e;exact⟨F,Ext.refl s,by rw[y];exact .int _⟩
def zih(dA:DF):DF:=λU Q=>dA U λds=>match ds with
|[.int j]=>-(2 ^ 62)<=j/\j < 2 ^ 62/\Q (rngD 0 j.toNat)
|_=>False
theorem za4(h:RfA K tA dA):RfI K (zna1 tA) (zih dA):=by
 walk_at"11";refine h s rv hd λds hx vs F1 H1 e1 i1=>?_;split at hx
 ·cases i1 with
 |cons h1 r1 =>
   cases r1;cases h1.int_inv;exact⟨_,rfl,hx.1,hx.2.1,k _ hx.2.2 _ F1 H1 e1 λF2 H2 s2 t2=>zg21 _ _ t2⟩
 ·exact hx.elim
def zn81(dA:DF):DF:=λU Q=>dA U λds=>match ds with
|[.int i,.int j]=>(-(2 ^ 62)<=i/\i < 2 ^ 62/\-(2 ^ 62)<=j/\j < 2 ^ 62)/\Q (rngD i (j - i).toNat)
|_=>False
theorem zv21(h:RfA K tA dA):RfI K (zdb1 tA) (zn81 dA):=by
 walk_at"11";refine h s rv hd λds hx vs F1 H1 e1 i1=>?_;split at hx
 ·cases i1 with
 |cons h1 r1 =>
   cases r1 with
  |cons h2 r2 =>
    cases r2;cases h1.int_inv;cases h2.int_inv;exact⟨_,_,rfl,hx.1,k _ hx.2 _ F1 H1 e1 λF2 H2 s2 t2=>zg21 _ _ t2⟩
 ·exact hx.elim
def zipD(ds es:List D):List D:=List.zipWith (λa b=>.tuple [a,b]) ds es
theorem zhw{F H:Hp}{J1 J2:It}{ds es:List D}(s:Same F H)(h1:W0 K J1 F H ds)(h2:W0 K J2 F H es):W1 K (Itz J1 J2) F H (zipD ds es):=by
 have el:(zipD ds es).length=min ds.length es.length:=by simp[zipD]
 refine⟨λj hj=>⟨h1.1 j (by lia),h2.1 j (by lia)⟩,?_,λj x H3 d e y=>?_⟩
 ·rw[el];by_cases h:ds.length<=es.length
  ·rw[zP h];exact .inl h1.2.1
  ·rw[j5 (by lia)];exact .inr ⟨h1.1 es.length (by lia),h2.2.1⟩
 ·obtain⟨x1,x2,p,y1,y2,hp,e1,e2⟩:=y;subst e2;unfold zipD at e;rw[List.getElem?_zipWith]at e;cases q1:ds[j]? with
 |none=>rw[q1]at e;cases e
 |some d1 =>
   cases q2:es[j]? with
  |none=>rw[q1,q2]at e;cases e
  |some d2 =>
    rw[q1,q2]at e;cases e;obtain⟨_,i1⟩:=h1.2.2 j x1 H d1 q1 y1;obtain⟨_,i2⟩:=h2.2.2 j x2 H d2 q2 y2;obtain⟨ex,ii⟩:=zzd (K:=K) (ds:=[d1,d2]) s hp (.cons i1 (.cons i2 .nil));exact⟨_,ex,by rw[e1];exact ii⟩
def fZip:List D->(List D->Prop)->Prop
|[.list a,.list b],Q=>Q (zipD a b)
|[.list a,.tuple b],Q=>Q (zipD a b)
|[.tuple a,.list b],Q=>Q (zipD a b)
|_,_=>False
def dZip(dA:DF):DF:=λU Q=>dA U λds=>fZip ds Q
theorem zo41(h:RfAV K tA dA):RfJ K (iZip K tA) (dZip dA):=by
 walk_at"11";refine h s rv hd λds hx vs F1 H1 e1 i1=>?_;unfold fZip at hx;rcases ds with _|⟨d,_|⟨e,_|⟨f,r⟩⟩⟩
 all_goals first|exact hx.elim|(cases d <;> first|exact hx.elim|skip)
 all_goals cases e <;> first|exact hx.elim|skip
 ·obtain⟨v,u,rfl,w1,w2⟩:=vw2 i1;obtain⟨p,xs,rfl,h1,j1⟩:=w1.list e1.fh;obtain⟨q,ys,rfl,h2,j2⟩:=w2.list e1.fh;exact⟨_,_,rfl,.inl ⟨p,rfl,⟨xs,h1⟩,.inl ⟨q,rfl,⟨ys,h2⟩,k _ hx _ F1 H1 e1 λF2 H2 e2=>zhw e2.fh (zsd (e2.h.seq h1) (j1.mono e2.f)) (zsd (e2.h.seq h2) (j2.mono e2.f))⟩⟩⟩
 ·obtain⟨v,u,rfl,w1,w2⟩:=vw2 i1;obtain⟨p,xs,rfl,h1,j1⟩:=w1.list e1.fh;obtain⟨q,ys,rfl,h2,_,j2⟩:=w2.tuple e1.fh;exact⟨_,_,rfl,.inl ⟨p,rfl,⟨xs,h1⟩,.inr ⟨q,rfl,⟨ys,h2⟩,k _ hx _ F1 H1 e1 λF2 H2 e2=>zhw e2.fh (zsd (e2.h.seq h1) (j1.mono e2.f)) (zhs (zml e2.h h2) (j2.mono e2.f))⟩⟩⟩
 ·obtain⟨v,u,rfl,w1,w2⟩:=vw2 i1;obtain⟨p,xs,rfl,h1,_,j1⟩:=w1.tuple e1.fh;obtain⟨q,ys,rfl,h2,j2⟩:=w2.list e1.fh;exact⟨_,_,rfl,.inr ⟨p,rfl,⟨xs,h1⟩,.inl ⟨q,rfl,⟨ys,h2⟩,k _ hx _ F1 H1 e1 λF2 H2 e2=>zhw e2.fh (zhs (zml e2.h h1) (j1.mono e2.f)) (zsd (e2.h.seq h2) (j2.mono e2.f))⟩⟩⟩
theorem all1{F:Hp}{d:D}(h:IsAll K F vs [d]):∃v,vs=[v]/\Is K F v d:=by
 cases h with
|cons h r=>cases r;exact⟨_,rfl,h⟩
def ztq(ds:List D):List D:=ds.mapIdx λi d=>.tuple [.int (i:Nat),d]
theorem zte(ds:List D):(ztq ds).length=ds.length:=by simp[ztq]
theorem zyj{ds:List D}{d:D}(e:(ztq ds)[i]?=some d):∃x,ds[i]?=some x/\d=.tuple [.int (i:Nat),x]:=by
 unfold ztq at e;rw[xN]at e;obtain⟨x,h1,h2⟩:=wQ.mp e;exact⟨x,h1,h2.symm⟩
theorem zfu{F H:Hp}{ds:List D}(s:Same F H)(h:SqL K H a xs)(i:IsAll K F xs ds):W1 K (Ite K a) F H (ztq ds):=by
 have el:=i.dlen;have el2:=zte ds;refine⟨λj hj=>⟨xs,xs[j]'(by lia),h,u6 _⟩,⟨xs,h,by lia⟩,λj x H3 d e y=>?_⟩;obtain⟨v,p,y1,hp,e1,e2⟩:=y;subst e2;obtain⟨x',hx',rfl⟩:=zyj e;obtain⟨u,hu,iu⟩:=i.dget hx';have:=y1 xs h;rw[hu]at this;cases this;obtain⟨ex,ii⟩:=zzd (K:=K) (ds:=[.int (j:Nat),x']) s hp (.cons (.int _) (.cons iu .nil));exact⟨_,ex,by rw[e1];exact ii⟩
def zyp(dA:DF):DF:=λU Q=>dA U λds=>match ds with
|[.list a]=>Q (ztq a)
|_=>False
theorem zae(h:RfAV K tA dA):RfJ K (zw81 K tA) (zyp dA):=by
 walk_at"11";refine h s rv hd λds hx vs F1 H1 e1 i1=>?_;split at hx
 ·obtain⟨v,rfl,w1⟩:=vw1 i1;obtain⟨p,xs,rfl,h1,j1⟩:=w1.list e1.fh;exact⟨p,xs,rfl,h1,k _ hx _ F1 H1 e1 λF2 H2 e2=>zfu e2.fh (e2.h.seq h1) (j1.mono e2.f)⟩
 ·exact hx.elim
theorem zdt(h:RfA K tA dA):RfI K (zw81 K tA) (zyp dA):=by
 walk_at"11";refine h s rv hd λds hx vs F1 H1 e1 i1=>?_;split at hx
 ·obtain⟨v,rfl,w1⟩:=all1 i1;obtain⟨p,xs,rfl,h1,j1⟩:=w1.list_inv;exact⟨p,xs,rfl,e1.fh.seq h1,k _ hx _ F1 H1 e1 λF2 H2 s2 t2=>zfu t2 (t2.seq (s2.seq h1)) (j1.mono s2)⟩
 ·exact hx.elim
end
inductive Upd(K:Fg)(F:Hp)(n:Nat):_2.St->DSt->_2.St->DSt->Prop
|refl {Y:_2.St} {U:DSt}:Upd K F n Y U Y U
|set {Y Y':_2.St} {U U':DSt} {i:Nat} {v:V} {d:D}:i < n->Is K F v d->Upd K F n (Y.set i (some v)) (U.set i (.sh d)) Y' U'->Upd K F n Y U Y' U'
theorem zp7{j:Nat}{v:Option V}:(Y.set i v).getD j none=if i=j/\j < Y.length then v else Y.getD j none:=by
 rw[v6,v6,xQ];by_cases h:i=j
 ·subst h;by_cases h2:i < Y.length
  ·simp[h2]
  ·simp[h2]
 ·simp[h]
theorem RV.set{K:Fg}{F H:Hp}{Y:_2.St}{U:DSt}{i:Nat}{v:V}{sl:Sl}(r:RV K F H Y U)(h:RSl K F H (some v) sl):RV K F H (Y.set i (some v)) (U.set i sl):=by
 refine⟨by rw[wK,wK];exact r.len,λj s e=>?_⟩;rw[xQ]at e;rw[zp7,r.len];by_cases hij:i=j
 ·subst hij;by_cases hl:i < U.length
  ·simp[hl]at e ⊢;subst e;exact h
  ·simp[hl]at e
 ·simp[hij]at e ⊢;exact r.sl j s e
theorem Upd.rv{F H:Hp}(u:Upd K F n Y U Y' U')(r:RV K F H Y U):RV K F H Y' U':=by
 induction u with
|refl=>exact r
|set hi hv _ ih=>exact ih (r.set ⟨_,rfl,hv⟩)
theorem Upd.keep{F:Hp}(u:Upd K F n Y U Y' U'):Y'.length=Y.length/\∀i,n<=i->Y'.getD i none=Y.getD i none:=by
 induction u with
|refl=>exact⟨rfl,λ_ _=>rfl⟩
|set hi hv _ ih =>
  refine⟨by rw[ih.1,wK],λj hj=>?_⟩;rw[ih.2 j hj,zp7,aA (by lia)]
abbrev DG:=D->DSt->(DSt->Prop)->Prop
abbrev DGs:=List D->DSt->(DSt->Prop)->Prop
def RfG(K:Fg)(n:Nat)(g:TG)(dg:DG):Prop:=∀{F H:Hp}{Y:_2.St}{U:DSt}{v:V}{d:D}{Gd:DSt->Prop}{G:_2.St->Hp->Prop},Same F H->Is K F v d->dg d U Gd->(∀Y' U',Gd U'->Upd K F n Y U Y' U'->G Y' H)->g v Y H G
def RfGs(K:Fg)(n:Nat)(g:TGs)(dg:DGs):Prop:=∀{F H:Hp}{Y:_2.St}{U:DSt}{vs:List V}{ds:List D}{Gd:DSt->Prop}{G:_2.St->Hp->Prop},Same F H->IsAll K F vs ds->dg ds U Gd->(∀Y' U',Gd U'->Upd K F n Y U Y' U'->G Y' H)->g vs Y H G
def gN(i:Nat):DG:=λd U G=>G (U.set i (.sh d))
def znl:DGs:=λds U G=>match ds with
|[]=>G U
|_=>False
def zf5(g:DG)(gs:DGs):DGs:=λds U G=>match ds with
|d :: r=>g d U λU'=>gs r U' G
|[]=>False
def gT(n:Nat)(gs:DGs):DG:=λd U G=>match d with
|.tuple ds=>ds.length=n/\gs ds U G
|_=>False
section
variable {K:Fg}{n m:Nat}
theorem zn1(hi:i < n):RfG K n (zir i) (gN i):=λs h hd k=>k _ _ hd (.set hi h .refl)
theorem zq8:RfGs K n gNil znl:=by
 walk_at"28";unfold znl at hd;split at hd
 ·cases h;exact⟨rfl,k _ _ hd .refl⟩
 ·exact hd.elim
theorem Upd.trans{F:Hp}{Y1 Y2:_2.St}{U1 U2:DSt}(a:Upd K F n Y U Y1 U1)(b:Upd K F n Y1 U1 Y2 U2):Upd K F n Y U Y2 U2:=by
 induction a with
|refl=>exact b
|set hi hv _ ih=>exact .set hi hv (ih b)
theorem zr1{g:TG}{dg:DG}{dgs:DGs}(h1:RfG K n g dg)(h2:RfGs K n gs dgs):RfGs K n (zbb1 g gs) (zf5 dg dgs):=by
 walk_at"28";unfold zf5 at hd;split at hd
 ·cases h with
 |cons hx hr =>
   refine⟨_,_,rfl,h1 s hx hd λY1 U1 hd1 u1=>h2 s hr hd1 λY2 U2 hd2 u2=>k _ _ hd2 (u1.trans u2)⟩
 ·exact hd.elim
theorem zgd{dgs:DGs}(h:RfGs K n gs dgs):RfG K n (gTup K m gs) (gT m dgs):=by
 intro F H Y U v d Gd G s hv hd k;unfold gT at hd;split at hd
 ·obtain⟨a,xs,rfl,h1,h2⟩:=hv.tuple_inv;exact⟨a,xs,rfl,zml s h1,by rw[h2.dlen];exact hd.1,h s h2 hd.2 k⟩
 ·exact hd.elim
end
def cST(n:Nat)(ix:List Nat)(U:DSt):DSt:=vV n .un++ix.map λi=>U.getD i .un
theorem zc41{F H:Hp}(n:Nat)(ix:List Nat)(r:RV K F H Y U):RV K F H (compY n ix Y) (cST n ix U):=by
 refine⟨by simp[compY,cST],λi s e=>?_⟩;unfold cST at e;unfold compY;by_cases h:i < n
 ·rw[wO (by simpa using h)]at e;simp[xF,h]at e;subst e;trivial
 ·rw[wL (by simpa using h)]at e;rw[v6,wL (by simpa using h)];simp only[yK,u8]at e ⊢;obtain⟨j,hj,rfl⟩:=wQ.mp e;rw[hj];show RSl K F H (Y.getD j none) _;cases q:U[j]? with
 |none=>rw[show U.getD j .un=.un by rw[v6,q];rfl];trivial
 |some t=>rw[show U.getD j .un=t by rw[v6,q];rfl];exact r.sl j t q
theorem RV.caps{F H:Hp}(r:RV K F H Y (cST n ix U))(hl:Y'.length=Y.length)(hk:∀i,n<=i->Y'.getD i none=Y.getD i none):RV K F H Y' (cST n ix U):=by
 refine⟨by rw[hl];exact r.len,λi s e=>?_⟩;by_cases h:i < n
 ·unfold cST at e;rw[wO (by simpa using h)]at e;simp[xF,h]at e;subst e;trivial
 ·rw[hk i (by lia)];exact r.sl i s e
def zbd(di:DF)(n:Nat)(ix:List Nat)(dg:DG)(dt:DT)(de:DE):DF:=λU Q=>di U λitems=>items.length<=sizeLine/\∃R:Nat->Option D->Prop,
 (∀i d,items[i]?=some d->dg d (cST n ix U) λU'=>dt U' λb=>if b=true then de U' λr=>R i (some r)else R i none) /\
 ∀os:List (Option D),os.length=items.length->(∀(j:Nat) o,os[j]?=some o->R j o)->Q (os.filterMap id)
def zmf:DT:=λ_ Q=>Q true
section
variable {K:Fg}{wi:TI}{di:DF}{n:Nat}{ix:List Nat}{g:TG}{dg:DG}{tt:TT}{dt:DT}{te:TE}{de:DE}
theorem zg4:RfT K zf71 zmf:=λs rv h k=>k _ h _ _ (Ext.refl s)
theorem zj2(hi:RfJ K wi di)(hg:RfG K n g dg)(ht:RfT K tt dt)(he:RfE K te de):RfF K (zj51 wi n ix g tt te) (zbd di n ix dg dt de):=by
 walk_at"3";refine hi s rv hd λitems hx J F1 H1 e1 wj D hD=>?_;obtain⟨hz,R,hR,hQ⟩:=hx;have rv1:=zc41 n ix (rv.ext e1);have F1D:F1 D=none:=by
  cases q:F1 D with
 |none=>rfl
 |some o=>rw[e1.fh D o q]at hD;cases hD
 refine⟨λi m acc Y' H'=>m=items.length - i/\i<=items.length/\Y'.length=(compY n ix Y).length/\(∀j,n<=j->Y'.getD j none=(compY n ix Y).getD j none)/\∃(F':Hp)(os:List (Option bG)),Ext F1 H1 F' H'/\F' D=none/\H' D=some (.lst acc)/\os.length=i/\(∀(j:Nat) o,os[j]?=some o->R j o)/\IsAll K F' acc (os.filterMap id),⟨items.length,rfl,wX _,rfl,λ_ _=>rfl,F1,[],?_,F1D,zt0,rfl,λj o e=>by simp at e,.nil⟩,?_⟩
 ·exact(zo8 (xs:=[]) e1.fh hD).1
 rintro i m acc Y' H' ⟨rfl,hi',hl,hk,F',os,ex,fD,hDD,hos,hRs,hall⟩;obtain⟨go,stop,yld⟩:=wj F' H' ex;by_cases hlt:i < items.length
 ·refine .inr ⟨go i hlt,λacc' Y2 H2=>i+1<=items.length/\Y2.length=(compY n ix Y).length/\(∀j,n<=j->Y2.getD j none=(compY n ix Y).getD j none)/\∃(F':Hp)(os:List (Option bG)),Ext F1 H1 F' H2/\F' D=none/\H2 D=some (.lst acc')/\os.length=i+1/\(∀(j:Nat) o,os[j]?=some o->R j o)/\IsAll K F' acc' (os.filterMap id),λacc' Y2 H2 p=>⟨items.length - (i+1),by lia,rfl,p⟩,λx H2 y=>?_⟩;have hit:items[i]?=some items[i]:=u6 hlt;obtain⟨F2,ex2,ix2⟩:=yld i x H2 _ hit y;have rv2:RV K F2 H2 Y' (cST n ix U):=RV.caps (rv1.ext (ex.trans ex2)) hl hk;have hRn:∀o,R i o->∀(j:Nat) o',(os++[o])[j]?=some o'->R j o':=λo ho j o' e=>by
   rcases j6 j os.length with h|h|h
   ·rw[wO h]at e;exact hRs j o' e
   ·subst h;rw[wL (u7 _)]at e;simp at e;subst e;rw[hos];exact ho
   ·rw[wL (yH h)]at e;cases q:j - os.length with
   |zero=>lia
   |succ z=>rw[q]at e;simp at e
  refine hg ex2.fh ix2 (hR i _ hit) λY2 U2 hd2 u2=>?_;have rv3:=u2.rv rv2;have kp:=u2.keep;have hl2:Y2.length=(compY n ix Y).length:=by rw[kp.1,hl]
  have hk2:∀j,n<=j->Y2.getD j none=(compY n ix Y).getD j none:=λj hj=>by rw[kp.2 j hj,hk j hj]
  refine ht ex2.fh rv3 hd2 λb hb F4 H4 e4=>?_;have e24:=ex2.trans e4;have hD4:H4 D=some (.lst acc):=e24.h _ _ hDD;have fD4:F4 D=none:=e24.nw D (by rw[hDD];simp) fD;cases b with
 |true =>
   rw[aF rfl]at hb ⊢;refine he e4.fh (rv3.ext e4) hb λr hr v F5 H5 e5 i5=>?_;have e25:=e24.trans e5;have hD5:H5 D=some (.lst acc):=e25.h _ _ hDD;have fD5:F5 D=none:=e25.nw D (by rw[hDD];simp) fD;have hlen:acc.length<=i:=by
    rw[hall.dlen,<- hos];exact j7 _ _
   have e15:=ex.trans e25;refine⟨hD5,by lia,hlt,hl2,hk2,F5,os++[some r],⟨λb o hb=>?_,e15.f,λb o hb=>?_,e15.nw⟩,fD5,zt0,by simp[hos],hRn _ hr,?_⟩
   ·have:b≠D:=λz=>by subst z;rw[hD]at hb;cases hb
    rw[ze1 this];exact e15.h b o hb
   ·have:b≠D:=λz=>by subst z;rw[fD5]at hb;cases hb
    rw[ze1 this];exact e15.fh b o hb
   ·rw[zQ];exact(hall.mono e25.f).dapp (.cons i5 .nil)
 |false =>
   rw[aA v5]at hb ⊢;refine⟨hlt,hl2,hk2,F4,os++[none],ex.trans e24,fD4,hD4,by simp[hos],hRn _ hb,?_⟩;rw[zQ];have:j8 id [(none:Option bG)]=[]:=rfl;rw[this,wN];exact hall.mono e24.f
 ·have e:i=items.length:=by lia
  refine .inl ⟨by rw[e];exact stop,k _ (hQ os (by lia) hRs) D acc F' H' (e1.trans ex) ?_ hDD fD hall⟩;exact zb3 e1 hD
end
theorem at_nat'{α:Type}{xs:List α}{i:Int}{x:α}(h0:0<=i)(h:xs[i.toNat]?=some x):atI xs i=some x:=by
 have e:((i.toNat:Nat):Int)=i:=by lia
 have:=zys (xs:=xs) (j:=i.toNat) (v:=x) h
 rwa [e]at this
inductive Stp where
|ix (j:Nat)|fl (f:Str)
abbrev Pth:=List Stp
def putA(f:Str)(t:T):List (Str×T)->List (Str×T)
|[]=>[(f,t)]
|(g,x) :: r=>if g=f then(g,t) :: r else(g,x) :: putA f t r
def setP:T->Pth->T->T
|_,[],u=>u
|.ls ts,.ix j :: p,u=>match ts[j]? with
 |some t=>.ls (ts.set j (setP t p u))
 |none=>.ls ts
|.tp ts,.ix j :: p,u=>match ts[j]? with
 |some t=>.tp (ts.set j (setP t p u))
 |none=>.tp ts
|.ob C fs,.fl f :: p,u=>match fs.lookup f with
 |some t=>.ob C (putA f (setP t p u) fs)
 |none=>.ob C fs
|t,_,_=>t
inductive At(H:Hp):V->T->Pth->V->T->Prop
|nil {v:V} {t:T}:At H v t [] v t
|ix {a:aE} {xs:List V} {ts:List T} {j:Nat} {x v:V} {t u:T} {p:Pth}:H a=some (.lst xs)->xs[j]?=some x->ts[j]?=some t->At H x t p v u->At H (.ref a) (.ls ts) (.ix j :: p) v u
|tx {a:aE} {xs:List V} {ts:List T} {j:Nat} {x v:V} {t u:T} {p:Pth}:H a=some (.tup xs)->xs[j]?=some x->ts[j]?=some t->At H x t p v u->At H (.ref a) (.tp ts) (.ix j :: p) v u
|fl {a C dx:aE} {fs:List (Str×V)} {ts:List (Str×T)} {f:Str} {x v:V} {t u:T} {p:Pth}:H a=some (.ins C dx fs)->fs.lookup f=some x->ts.lookup f=some t->At H x t p v u->At H (.ref a) (.ob C ts) (.fl f :: p) v u
theorem At.mono{H:Hp}(s:Same H H'){v v':V}{t t':T}{p:Pth}(h:At H v t p v' t'):At H' v t p v' t':=by
 induction h with
|nil=>exact .nil
|ix h1 h2 h3 _ ih=>exact .ix (s _ _ h1) h2 h3 ih
|tx h1 h2 h3 _ ih=>exact .tx (s _ _ h1) h2 h3 ih
|fl h1 h2 h3 _ ih=>exact .fl (s _ _ h1) h2 h3 ih
theorem At.snoc_ix{H:Hp}{v y:V}{t u:T}{ts:List T}{j:Nat}{p:Pth}(h:At H v t p (.ref a) (.ls ts))(h1:H a=some (.lst xs))(h2:xs[j]?=some x)(h3:ts[j]?=some u):At H v t (p++[.ix j]) x u:=by
 generalize e:V.ref a=w at h;generalize e2:T.ls ts=z at h
 induction h with
|nil=>subst e e2;exact .ix h1 h2 h3 .nil
|ix g1 g2 g3 _ ih=>exact .ix g1 g2 g3 (ih e e2)
|tx g1 g2 g3 _ ih=>exact .tx g1 g2 g3 (ih e e2)
|fl g1 g2 g3 _ ih=>exact .fl g1 g2 g3 (ih e e2)
theorem At.snoc_tx{H:Hp}{v y:V}{t u:T}{ts:List T}{j:Nat}{p:Pth}(h:At H v t p (.ref a) (.tp ts))(h1:H a=some (.tup xs))(h2:xs[j]?=some x)(h3:ts[j]?=some u):At H v t (p++[.ix j]) x u:=by
 generalize e:V.ref a=w at h;generalize e2:T.tp ts=z at h
 induction h with
|nil=>subst e e2;exact .tx h1 h2 h3 .nil
|ix g1 g2 g3 _ ih=>exact .ix g1 g2 g3 (ih e e2)
|tx g1 g2 g3 _ ih=>exact .tx g1 g2 g3 (ih e e2)
|fl g1 g2 g3 _ ih=>exact .fl g1 g2 g3 (ih e e2)
theorem At.snoc_fl{H:Hp}{v:V}{t u:T}{ts:List (Str×T)}{fs:List (Str×V)}{p:Pth}(h:At H v t p (.ref a) (.ob C ts))(h1:H a=some (.ins C dx fs))(h2:fs.lookup f=some x)(h3:ts.lookup f=some u):At H v t (p++[.fl f]) x u:=by
 generalize e:V.ref a=w at h;generalize e2:T.ob C ts=z at h
 induction h with
|nil=>subst e e2;exact .fl h1 h2 h3 .nil
|ix g1 g2 g3 _ ih=>exact .ix g1 g2 g3 (ih e e2)
|tx g1 g2 g3 _ ih=>exact .tx g1 g2 g3 (ih e e2)
|fl g1 g2 g3 _ ih=>exact .fl g1 g2 g3 (ih e e2)
section
variable {K:Fg}
theorem RtAll.len{F H:Hp}:∀{xs:List V}{ts:List T}{fp:List aE},RtAll K F H xs ts fp->xs.length=ts.length
|_,_,_,.nil=>rfl
|_,_,_,.cons _ r=>congrArg (·+1) (RtAll.len r)
theorem RtAll.split{F H:Hp}:∀{xs:List V}{ts:List T}{fp:List aE}{j:Nat}{x:V}{t:T},RtAll K F H xs ts fp->xs[j]?=some x->ts[j]?=some t ->
  ∃fA fj fB,fp=fA++(fj++fB)/\Rt K F H x t fj/\∀{F2 H2:Hp}{u:T}{fq:List aE},Same F F2->(∀b∈fA++fB,H2 b=H b/\F2 b=none)->Rt K F2 H2 x u fq->RtAll K F2 H2 xs (ts.set j u) (fA++(fq++fB))
|_,_,_,_,_,_,.nil,e,_=>by simp at e
|_,_,_,0,x,t,.cons (fp:=fp) (fq:=fq) h r,e1,e2=>by
  simp at e1 e2;subst e1 e2;exact⟨[],fp,fq,rfl,h,λs k g=>(by have z:=RtAll.cons g (r.frame s λb hb=>k b (by simp[hb]));exact z)⟩
|_,_,_,j+1,x,t,.cons (fp:=fp) (fq:=fq) h r,e1,e2=>by
  obtain⟨fA,fj,fB,e,hr,g⟩:=RtAll.split (j:=j) r (by simpa using e1) (by simpa using e2);refine⟨fp++fA,fj,fB,by rw[e,wC],hr,λs k hu=>?_⟩;rw[wC];exact .cons (h.frame s λb hb=>k b (by simp[hb])) (g s (λb hb=>k b (by rcases vS.mp hb with z|z <;> simp[z])) hu)
theorem RtFs.split{F H:Hp}:∀{xs:List (Str×V)}{ts:List (Str×T)}{fp:List aE}{f:Str}{x:V}{t:T},RtFs K F H xs ts fp->xs.lookup f=some x->ts.lookup f=some t ->
  ∃fA fj fB,fp=fA++(fj++fB)/\Rt K F H x t fj/\(∀{F2 H2:Hp}{u:T}{fq:List aE},Same F F2->(∀b∈fA++fB,H2 b=H b/\F2 b=none)->Rt K F2 H2 x u fq->RtFs K F2 H2 xs (putA f u ts) (fA++(fq++fB))) /\
   (∀{F2 H2:Hp}{y:V}{u:T}{fq:List aE},Same F F2->(∀b∈fA++fB,H2 b=H b/\F2 b=none)->Rt K F2 H2 y u fq->RtFs K F2 H2 (putF f y xs) (putA f u ts) (fA++(fq++fB)))
|_,_,_,_,_,_,.nil,e,_=>by cases e
|_,_,_,f,x,t,.cons (f:=g) (x:=x') (t:=t') (fp:=fp) (fq:=fq) h r,e1,e2=>by
  by_cases hg:f=g
  ·subst hg;simp[xE]at e1 e2;subst e1 e2;refine⟨[],fp,fq,rfl,h,λs k u=>?_,λs k u=>?_⟩
   ·show RtFs K _ _ _ (putA f _ ((f,_) :: _)) _;rw[show putA f _ ((f,t') :: _)=(f,_) :: _ from aF rfl];have z:=RtFs.cons (f:=f) u (r.frame s λb hb=>k b (by simp[hb]));exact z
   ·rw[show putA f _ ((f,t') :: _)=(f,_) :: _ from aF rfl,show putF f _ ((f,x') :: _)=(f,_) :: _ from aF rfl];have z:=RtFs.cons (f:=f) u (r.frame s λb hb=>k b (by simp[hb]));exact z
  ·have hb:(f == g)=false:=beq_eq_false_iff_ne.mpr hg;simp only[xE,hb]at e1 e2;obtain⟨fA,fj,fB,e,hr,q1,q2⟩:=RtFs.split r e1 e2;have hgf:¬g=f:=λz=>hg z.symm;refine⟨fp++fA,fj,fB,by rw[e,wC],hr,λs k u=>?_,λs k u=>?_⟩
   ·rw[show putA f _ ((g,t') :: _)=(g,t') :: putA f _ _ from aA hgf,wC];exact .cons (h.frame s λb hb=>k b (by simp[hb])) (q1 s (λb hb=>k b (by rcases vS.mp hb with z|z <;> simp[z])) u)
   ·rw[show putA f _ ((g,t') :: _)=(g,t') :: putA f _ _ from aA hgf,show putF f _ ((g,x') :: _)=(g,x') :: putF f _ _ from aA hgf,wC];exact .cons (h.frame s λb hb=>k b (by simp[hb])) (q2 s (λb hb=>k b (by rcases vS.mp hb with z|z <;> simp[z])) u)
theorem RtFs.add{F H F2 H2:Hp}{y:V}{u:T}{fq:List aE}(s:Same F F2)(hu:Rt K F2 H2 y u fq):∀{xs:List (Str×V)}{ts:List (Str×T)}{fp:List aE}{f:Str},RtFs K F H xs ts fp->ts.lookup f=none->(∀b∈fp,H2 b=H b/\F2 b=none)->RtFs K F2 H2 (putF f y xs) (putA f u ts) (fp++fq)
|_,_,_,f,.nil,_,_=>by
  show RtFs K F2 H2 [(f,y)] [(f,u)] fq;have:=RtFs.cons (f:=f) hu (.nil (K:=K) (F:=F2) (H:=H2))
  rwa [wN]at this
|_,_,_,f,.cons (f:=g) (x:=x') (t:=t') (fp:=fp) (fq:=fq') h r,e,k=>by
  have hg:¬f=g:=λz=>by subst z;simp[xE]at e
  have hb:(f == g)=false:=beq_eq_false_iff_ne.mpr hg;simp only[xE,hb]at e;have hgf:¬g=f:=λz=>hg z.symm;rw[show putA f u ((g,t') :: _)=(g,t') :: putA f u _ from aA hgf,show putF f y ((g,x') :: _)=(g,x') :: putF f y _ from aA hgf,wC];exact .cons (h.frame s λb hb=>k b (by simp[hb])) (RtFs.add s hu r e λb hb=>k b (by simp[hb]))
theorem RtFs.keys{F H:Hp}{xs:List (Str×V)}{ts:List (Str×T)}(f:Str)(h:RtFs K F H xs ts fp):(ts.lookup f=none->xs.lookup f=none)/\(∀t,ts.lookup f=some t->∃x,xs.lookup f=some x)/\xs.length=ts.length :=
 (Rt.ind (P:=λ_ _ _=>True) (Q:=λ_ _ _=>True) (R:=λxs ts _=>(ts.lookup f=none->xs.lookup f=none)/\(∀t,ts.lookup f=some t->∃x,xs.lookup f=some x)/\xs.length=ts.length)
  (λ_=>trivial) (λ_ _ _=>trivial) (λ_ _ _=>trivial) (λ_ _ _ _ _=>trivial) (λ_ _ _=>trivial) (λ_ _ _=>trivial) (λ_ _ _=>trivial) trivial (λ_ _=>trivial) ⟨λ_=>rfl,(λt e=>by cases e),rfl⟩
  λ{g x _ _ _ _ _} _ ⟨k1,k2,k3⟩=>by
   rw[xL,xL,k3,wG,wG];cases f == g with
  |true=>exact⟨(λe=>by cases e),λ_ _=>⟨x,rfl⟩,rfl⟩
  |false=>exact⟨k1,k2,rfl⟩).2.2 h
theorem zc81{F H:Hp}{v:V}{t u:T}{p:Pth}(h:At H x t p v u):∀{fp:List aE},Rt K F H x t fp->fp.Nodup->∃fn,Rt K F H v u fn/\(∀a∈fn,a∈fp)/\fn.Nodup /\
  ∀{F2 H2:Hp}{u2:T}{fq:List aE},Same F F2->(∀b∈fp,b ∉ fn->H2 b=H b/\F2 b=none)->Rt K F2 H2 v u2 fq->fq.Nodup->(∀b∈fq,b∈fn \/ b ∉ fp)->∃fp2,Rt K F2 H2 x (setP t p u2) fp2/\fp2.Nodup/\∀b∈fp2,(b∈fp/\b ∉ fn) \/ b∈fq:=by
 induction h with
|nil =>
  intro fp hr nd;refine⟨fp,hr,λa z=>z,nd,λ{F2 H2 u2 fq} _ _ h2 n2 _=>⟨fq,?_,n2,λb hb=>.inr hb⟩⟩;cases u2 <;> exact h2
|@ix a0 xs0 ts0 j0 x0 v0 t0 u0 p0 h1 h2 h3 _ ih =>
  intro fp hr nd;cases hr with
 |ls g1 g2 g3 =>
   rw[h1]at g1;cases g1;obtain⟨fA,fj,fB,e,hj,rep⟩:=g3.split h2 h3;subst e;have ndR:=(v7.mp nd).2;have nA:=(v7.mp nd).1;obtain⟨ndA,ndJB,djA⟩:=wM.mp ndR;obtain⟨ndj,ndB,djB⟩:=wM.mp ndJB;obtain⟨fn,hn,sub,ndn,back⟩:=ih hj ndj;refine⟨fn,hn,λa ha=>by simp[sub a ha],ndn,λ{F2 H2 u2 fq} s k hu nq hq=>?_⟩;obtain⟨f2,r2,n2,m2⟩:=back s (λb hb hnb=>k b (by simp[hb]) hnb) hu nq λb hb=>by
    rcases hq b hb with z|z
    ·exact .inl z
    ·exact .inr λy=>z (by simp[y])
   have notin:∀b,b∈fA \/ b∈fB->b ∉ fn:=λb hb hn'=>by
    have:=sub b hn';rcases hb with z|z
    ·exact djA b z b (by simp[this]) rfl
    ·exact djB b this b z rfl
   have rA:=rep s (λb hb=>by
    have hb':=vS.mp hb;refine k b (by rcases hb' with z|z <;> simp[z]) (notin b hb')) r2
   have hnotq:∀b,(b∈fA \/ b∈fB \/ b=a0)->b ∉ fq:=λb hb hbq=>by
    rcases hq b hbq with z|z
    ·rcases hb with y|y|y
     ·exact notin b (.inl y) z
     ·exact notin b (.inr y) z
     ·subst y;exact nA (by simp[sub _ z])
    ·apply z;rcases hb with y|y|y
     ·simp[y]
     ·simp[y]
     ·simp[y]
   have ha2:=k _ (wP) (λz=>nA (by simp[sub _ z]));refine⟨a0 :: (fA++(f2++fB)),?_,?_,?_⟩
   ·unfold setP;rw[h3];exact .ls (by rw[ha2.1];exact h1) ha2.2 rA
   ·refine v7.mpr ⟨λz=>?_,?_⟩
    ·rcases vS.mp z with y|y
     ·exact nA (by simp[y])
     ·rcases vS.mp y with y|y
      ·rcases m2 _ y with⟨y1,_⟩|y1
       ·exact nA (by simp[y1])
       ·exact hnotq _ (.inr (.inr rfl)) y1
      ·exact nA (by simp[y])
    ·refine wM.mpr ⟨ndA,wM.mpr ⟨n2,ndB,λa ha b hb=>?_⟩,λa ha b hb=>?_⟩
     ·rcases m2 a ha with⟨y,_⟩|y
      ·exact djB a y b hb
      ·intro z;subst z;exact hnotq a (.inr (.inl hb)) y
     ·rcases vS.mp hb with y|y
      ·rcases m2 b y with⟨y,_⟩|y
       ·exact djA a ha b (by simp[y])
       ·intro z;subst z;exact hnotq a (.inl ha) y
      ·exact djA a ha b (by simp[y])
   ·intro b hb;rcases vW.mp hb with y|y
    ·subst y;exact .inl ⟨by simp,λz=>nA (by simp[sub _ z])⟩
    ·rcases vS.mp y with y|y
     ·exact .inl ⟨by simp[y],notin b (.inl y)⟩
     ·rcases vS.mp y with y|y
      ·rcases m2 b y with⟨y1,y2⟩|y1
       ·exact .inl ⟨by simp[y1],y2⟩
       ·exact .inr y1
      ·exact .inl ⟨by simp[y],notin b (.inr y)⟩
|@tx a0 xs0 ts0 j0 x0 v0 t0 u0 p0 h1 h2 h3 _ ih =>
  intro fp hr nd;cases hr with
 |tp g1 g2 g3 =>
   rw[h1]at g1;cases g1;obtain⟨fA,fj,fB,e,hj,rep⟩:=g3.split h2 h3;subst e;have ndR:=(v7.mp nd).2;have nA:=(v7.mp nd).1;obtain⟨ndA,ndJB,djA⟩:=wM.mp ndR;obtain⟨ndj,ndB,djB⟩:=wM.mp ndJB;obtain⟨fn,hn,sub,ndn,back⟩:=ih hj ndj;refine⟨fn,hn,λa ha=>by simp[sub a ha],ndn,λ{F2 H2 u2 fq} s k hu nq hq=>?_⟩;obtain⟨f2,r2,n2,m2⟩:=back s (λb hb hnb=>k b (by simp[hb]) hnb) hu nq λb hb=>by
    rcases hq b hb with z|z
    ·exact .inl z
    ·exact .inr λy=>z (by simp[y])
   have notin:∀b,b∈fA \/ b∈fB->b ∉ fn:=λb hb hn'=>by
    have:=sub b hn';rcases hb with z|z
    ·exact djA b z b (by simp[this]) rfl
    ·exact djB b this b z rfl
   have rA:=rep s (λb hb=>by
    have hb':=vS.mp hb;refine k b (by rcases hb' with z|z <;> simp[z]) (notin b hb')) r2
   have hnotq:∀b,(b∈fA \/ b∈fB \/ b=a0)->b ∉ fq:=λb hb hbq=>by
    rcases hq b hbq with z|z
    ·rcases hb with y|y|y
     ·exact notin b (.inl y) z
     ·exact notin b (.inr y) z
     ·subst y;exact nA (by simp[sub _ z])
    ·apply z;rcases hb with y|y|y
     ·simp[y]
     ·simp[y]
     ·simp[y]
   have ha2:=k _ (wP) (λz=>nA (by simp[sub _ z]));refine⟨a0 :: (fA++(f2++fB)),?_,?_,?_⟩
   ·unfold setP;rw[h3];exact .tp (by rw[ha2.1];exact h1) ha2.2 rA
   ·refine v7.mpr ⟨λz=>?_,?_⟩
    ·rcases vS.mp z with y|y
     ·exact nA (by simp[y])
     ·rcases vS.mp y with y|y
      ·rcases m2 _ y with⟨y1,_⟩|y1
       ·exact nA (by simp[y1])
       ·exact hnotq _ (.inr (.inr rfl)) y1
      ·exact nA (by simp[y])
    ·refine wM.mpr ⟨ndA,wM.mpr ⟨n2,ndB,λa ha b hb=>?_⟩,λa ha b hb=>?_⟩
     ·rcases m2 a ha with⟨y,_⟩|y
      ·exact djB a y b hb
      ·intro z;subst z;exact hnotq a (.inr (.inl hb)) y
     ·rcases vS.mp hb with y|y
      ·rcases m2 b y with⟨y,_⟩|y
       ·exact djA a ha b (by simp[y])
       ·intro z;subst z;exact hnotq a (.inl ha) y
      ·exact djA a ha b (by simp[y])
   ·intro b hb;rcases vW.mp hb with y|y
    ·subst y;exact .inl ⟨by simp,λz=>nA (by simp[sub _ z])⟩
    ·rcases vS.mp y with y|y
     ·exact .inl ⟨by simp[y],notin b (.inl y)⟩
     ·rcases vS.mp y with y|y
      ·rcases m2 b y with⟨y1,y2⟩|y1
       ·exact .inl ⟨by simp[y1],y2⟩
       ·exact .inr y1
      ·exact .inl ⟨by simp[y],notin b (.inr y)⟩
|@fl a0 C0 dx0 fs0 ts0 f0 x0 v0 t0 u0 p0 h1 h2 h3 _ ih =>
  intro fp hr nd;cases hr with
 |ob g1 g2 g3 g4 g5 =>
   rw[h1]at g1;cases g1;obtain⟨fA,fj,fB,e,hj,rep,_⟩:=g5.split h2 h3;subst e;have nd1:=v7.mp nd;have nd2:=v7.mp nd1.2;have ndR:=nd2.2;have nA:_ ∉ fA++(fj++fB):=λz=>nd1.1 (wB _ z);have nX:=nd2.1;obtain⟨ndA,ndJB,djA⟩:=wM.mp ndR;obtain⟨ndj,ndB,djB⟩:=wM.mp ndJB;obtain⟨fn,hn,sub,ndn,back⟩:=ih hj ndj;refine⟨fn,hn,λa ha=>by simp[sub a ha],ndn,λ{F2 H2 u2 fq} s k hu nq hq=>?_⟩;obtain⟨f2,r2,n2,m2⟩:=back s (λb hb hnb=>k b (by simp[hb]) hnb) hu nq λb hb=>by
    rcases hq b hb with z|z
    ·exact .inl z
    ·exact .inr λy=>z (by simp[y])
   have notin:∀b,b∈fA \/ b∈fB->b ∉ fn:=λb hb hn'=>by
    have:=sub b hn';rcases hb with z|z
    ·exact djA b z b (by simp[this]) rfl
    ·exact djB b this b z rfl
   have rA:=rep s (λb hb=>by
    have hb':=vS.mp hb;refine k b (by rcases hb' with z|z <;> simp[z]) (notin b hb')) r2
   have hnotq:∀b,(b∈fA \/ b∈fB)->b ∉ fq:=λb hb hbq=>by
    rcases hq b hbq with z|z
    ·exact notin b hb z
    ·apply z;rcases hb with y|y <;> simp[y]
   have hnq2:∀b,b∈fn->b∈fA++(fj++fB):=λb hb=>by simp[sub _ hb]
   have ha2:=k _ (wP) (λz=>nA (hnq2 _ z));have hx2:=k _ (wB _ wP) (λz=>nX (hnq2 _ z));have hf2:∀b∈f2,b∈fj \/ b∈fq:=λb hb=>by
    rcases m2 b hb with⟨y,_⟩|y
    ·exact .inl y
    ·exact .inr y
   refine⟨a0 :: dx0 :: (fA++(f2++fB)),?_,?_,?_⟩
   ·unfold setP;rw[h3];exact .ob (by rw[ha2.1];exact h1) (by rw[hx2.1];exact g2) ha2.2 hx2.2 rA
   ·have inR:∀b,b∈fA++(f2++fB)->b∈fA++(fj++fB) \/ b∈fq:=λb hb=>by
     rcases vS.mp hb with y|y
     ·exact .inl (by simp[y])
     ·rcases vS.mp y with y|y
      ·rcases hf2 b y with y|y
       ·exact .inl (by simp[y])
       ·exact .inr y
      ·exact .inl (by simp[y])
    refine v7.mpr ⟨λz=>?_,v7.mpr ⟨λz=>?_,?_⟩⟩
    ·rcases vW.mp z with y|y
     ·exact nd1.1 (by rw[y];simp)
     ·rcases inR _ y with y|y
      ·exact nA y
      ·rcases hq _ y with w|w
       ·exact nA (hnq2 _ w)
       ·exact w (by simp)
    ·rcases inR _ z with y|y
     ·exact nX y
     ·rcases hq _ y with w|w
      ·exact nX (hnq2 _ w)
      ·exact w (by simp)
    ·refine wM.mpr ⟨ndA,wM.mpr ⟨n2,ndB,λa ha b hb=>?_⟩,λa ha b hb=>?_⟩
     ·rcases m2 a ha with⟨y,_⟩|y
      ·exact djB a y b hb
      ·intro z;subst z;exact hnotq a (.inr hb) y
     ·rcases vS.mp hb with y|y
      ·rcases m2 b y with⟨y,_⟩|y
       ·exact djA a ha b (by simp[y])
       ·intro z;subst z;exact hnotq a (.inl ha) y
      ·exact djA a ha b (by simp[y])
   ·intro b hb;rcases vW.mp hb with y|y
    ·subst y;exact .inl ⟨by simp,λz=>nA (hnq2 _ z)⟩
    ·rcases vW.mp y with y|y
     ·subst y;exact .inl ⟨by simp,λz=>nX (hnq2 _ z)⟩
     ·rcases vS.mp y with y|y
      ·exact .inl ⟨by simp[y],notin b (.inl y)⟩
      ·rcases vS.mp y with y|y
       ·rcases m2 b y with⟨y1,y2⟩|y1
        ·exact .inl ⟨by simp[y1],y2⟩
        ·exact .inr y1
       ·exact .inl ⟨by simp[y],notin b (.inr y)⟩
end
def AtS(H:Hp)(Y:_2.St)(U:DSt)(i:Nat)(p:Pth)(v:V)(u:T):Prop:=∃s t x,U[i]?=some s/\s.tree=some t/\Y.getD i none=some x/\At H x t p v u
abbrev DP:=DSt->(Nat->Pth->T->Prop)->Prop
def RfP(K:Fg)(te:TE)(dp:DP):Prop:=∀{F H:Hp}{Y:_2.St}{U:DSt}{Qd:Nat->Pth->T->Prop}{Q:VK},Same F H->RV K F H Y U->dp U Qd->(∀i p u,Qd i p u->∀v F' H',Ext F H F' H'->AtS H' Y U i p v u->Q v H')->te Y H Q
section
variable {K:Fg}{te ti:TE}{dp:DP}{di:DE}
theorem zwb1{F H:Hp}{v:V}{t u:T}{p:Pth}(h:At H x t p v u):∀{fp:List aE},Rt K F H x t fp->∃fn,Rt K F H v u fn:=by
 induction h with
|nil=>intro fp hr;exact⟨fp,hr⟩
|ix h1 h2 h3 _ ih =>
  intro fp hr;cases hr with
 |ls g1 g2 g3 =>
   rw[h1]at g1;cases g1;obtain⟨fA,fj,fB,e,hj,_⟩:=g3.split h2 h3;exact ih hj
|tx h1 h2 h3 _ ih =>
  intro fp hr;cases hr with
 |tp g1 g2 g3 =>
   rw[h1]at g1;cases g1;obtain⟨fA,fj,fB,e,hj,_⟩:=g3.split h2 h3;exact ih hj
|fl h1 h2 h3 _ ih =>
  intro fp hr;cases hr with
 |ob g1 g2 g3 g4 g5 =>
   rw[h1]at g1;cases g1;obtain⟨fA,fj,fB,e,hj,_⟩:=g5.split h2 h3;exact ih hj
theorem AtS.rt{F H:Hp}{Y:_2.St}{U:DSt}{i:Nat}{p:Pth}{v:V}{u:T}(h:AtS H Y U i p v u)(r:RV K F H Y U):∃fn,Rt K F H v u fn:=by
 obtain⟨s,t,x,h1,h2,h3,h4⟩:=h;obtain⟨y,fp,e,hr,_⟩:=(r.sl i s h1).rt h2;rw[h3]at e;cases e;exact zwb1 h4 hr
theorem AtS.mono{H H':Hp}{Y:_2.St}{U:DSt}{i:Nat}{p:Pth}{v:V}{u:T}(s:Same H H')(h:AtS H Y U i p v u):AtS H' Y U i p v u:=by
 obtain⟨s',t,x,h1,h2,h3,h4⟩:=h;exact⟨s',t,x,h1,h2,h3,h4.mono s⟩
def pVar(i:Nat):DP:=λU Q=>pAt U i λt=>Q i [] t
theorem zu0(i:Nat):RfP K (tVar i) (pVar i):=by
 walk_at"25";obtain⟨sl,t,q,et,f⟩:=zfr h;obtain⟨x,fp,e,hr,_⟩:=(r.sl i _ q).rt et;exact⟨x,zya (F:=F) (H:=H) (U:=U) e,k i [] t f x F H (Ext.refl s) ⟨sl,t,x,q,et,e,.nil⟩⟩
def nFld(f:Str)(u:T)(Q:T->Prop):Prop:=match u with
|.ob _ fs=>∃t,fs.lookup f=some t/\Q t
|_=>False
def nCls(C:aE)(u:T):Prop:=match u with
|.ob C' _=>C'=C
|_=>False
def pFld(C:aE)(f:Str)(dp:DP):DP:=λU Q=>dp U λi p u=>nCls C u/\nFld f u λt=>Q i (p++[.fl f]) t
theorem zk4(c:Cls K C)(na:NoAttr K C f)(h:RfP K te dp):RfP K (zza1 K te f) (pFld C f dp):=by
 walk_at"32";refine h s r hd λi p u hu v F1 H1 e1 at1=>?_;obtain⟨hc,hf⟩:=hu;obtain⟨fn,hr⟩:=at1.rt (r.ext e1);cases hr with
|ob g1 g2 g3 g4 g5 =>
  cases (show _=C from hc);obtain⟨t,et,q⟩:=hf;obtain⟨y,ey⟩:=(g5.keys f).2.1 t et;refine⟨_,_,_,_,y,rfl,g1,c,na,ey,k i _ t q y F1 H1 e1 ?_⟩;obtain⟨sl,t0,x,a1,a2,a3,a4⟩:=at1;exact⟨sl,t0,x,a1,a2,a3,a4.snoc_fl g1 ey et⟩
|fz _=>exact hc.elim
|li _ _ _=>exact hc.elim
|ls _ _ _=>exact hc.elim
|dk _ _ _=>exact hc.elim
|dt _ _ _=>exact hc.elim
|tp _ _ _=>exact hc.elim
def nIx(u:T)(k:D)(Q:Nat->T->Prop):Prop:=match u,k with
|.ls ts,.int z=>∃j t,ixN ts.length z=some j/\ts[j]?=some t/\Q j t
|.tp ts,.int z=>∃j t,ixN ts.length z=some j/\ts[j]?=some t/\Q j t
|_,_=>False
def pIx(dp:DP)(di:DE):DP:=λU Q=>dp U λi p u=>di U λk=>nIx u k λj t=>Q i (p++[.ix j]) t
theorem ze51{w:aQ}(h:RfP K te dp)(hi:RfE K ti di):RfP K (tOp (rIxV w K) te ti) (pIx dp di):=by
 walk_at"32";refine h s r hd λi p u hu v F1 H1 e1 at1=>hi e1.fh (r.ext e1) hu λkd hk kv F2 H2 e2 i2=>?_;have e12:=e1.trans e2;have at2:=at1.mono e2.h;obtain⟨fn,hr⟩:=at2.rt (r.ext e12);unfold nIx at hk;split at hk
 ·rename_i ts z
  obtain⟨j,t,ej,et,q⟩:=hk;cases i2.int_inv;cases hr with
 |ls g1 g2 g3 =>
   have el:=g3.len;have hj:j < ts.length:=by
    rcases wT j ts.length with y|y
    ·exact y
    ·rw[wA y]at et;cases et
   rename_i a xs fp
   obtain⟨y,hx⟩:∃y,xs[j]?=some y:=⟨xs[j]'(by lia),u6 _⟩
   refine .inl (.inl (.inl ⟨a,xs,z,y,rfl,rfl,SqL.of g1,?_,k i _ t q _ F2 H2 e12 ?_⟩))
   ·unfold atI;rw[el,ej];exact hx
   ·obtain⟨sl,t0,x,a1,a2,a3,a4⟩:=at2;exact⟨sl,t0,x,a1,a2,a3,a4.snoc_ix (y:=x) g1 hx et⟩
 ·rename_i ts z
  obtain⟨j,t,ej,et,q⟩:=hk;cases i2.int_inv;cases hr with
 |tp g1 g2 g3 =>
   have el:=g3.len;have hj:j < ts.length:=by
    rcases wT j ts.length with y|y
    ·exact y
    ·rw[wA y]at et;cases et
   rename_i a xs fp
   obtain⟨y,hx⟩:∃y,xs[j]?=some y:=⟨xs[j]'(by lia),u6 _⟩
   refine .inl (zrb1 (SqT.of g1) (v:=y) ?_ (k i _ t q _ F2 H2 e12 ?_))
   ·unfold atI;rw[el,ej];exact hx
   ·obtain⟨sl,t0,x,a1,a2,a3,a4⟩:=at2;exact⟨sl,t0,x,a1,a2,a3,a4.snoc_tx (y:=x) g1 hx et⟩
 ·exact hk.elim
def dPV(dp:DP):DE:=λU Q=>dp U λ_ _ u=>vwT u Q
def dPE(dp:DP):DE:=λU Q=>dp U λ_ _ u=>fzT u Q
theorem RfP.v(h:RfP K te dp):RfV K te (dPV dp):=λs r d k=>h s r d λi p u hu v F1 H1 e1 at1=>by
 obtain⟨fn,hr⟩:=at1.rt (r.ext e1);obtain⟨d,qd,vw⟩:=zx91 hr hu;exact k d qd v F1 H1 e1 vw
theorem RfP.e(h:RfP K te dp):RfE K te (dPE dp):=λs r d k=>h s r d λi p u hu v F1 H1 e1 at1=>by
 obtain⟨fn,hr⟩:=at1.rt (r.ext e1);obtain⟨d,qd,vw⟩:=za01 hr hu;exact k d qd v F1 H1 e1 vw
end
structure Bs where
 F0:Hp
 H0:Hp
 G:List aE
def Sl.own:Sl->Bool
|.ow _=>true
|.io _ _=>true
|_=>false
def Sl.has:Sl->Bool
|.ow _=>true
|.io _ _=>true
|.bo _=>true
|_=>false
def Sl.wth:Sl->T->Sl
|.ow _,u=>.ow u
|.io a _,u=>.io a u
|s,_=>s
structure RS(K:Fg)(B:Bs)(F H:Hp)(Y:_2.St)(U:DSt)(fps:Nat->List aE):Prop where
 hh:∀b o,b ∉ B.G->B.H0 b=some o->H b=some o
 ff:Same B.F0 F
 fh:Same F H
 nw:∀b,B.H0 b≠none->B.F0 b=none->F b=none
 al:∀b,B.H0 b≠none->H b≠none
 len:Y.length=U.length
 sh:∀(i:Nat) d,U[i]?=some (.sh d)->∃x,Y.getD i none=some x/\Is K F x d
 rt:∀(i:Nat) s,U[i]?=some s->s.has=true->∃x t,Y.getD i none=some x/\s.tree=some t/\Rt K F H x t (fps i)/\(∀a u,s=.io a u->x=.ref a)/\(fps i).Nodup
 fr:∀(i:Nat) s,U[i]?=some s->s.own=true->∀a∈fps i,B.H0 a=none \/ (a∈B.G/\∀t,s≠.ow t)
 dj:∀(i j:Nat) s s',i≠j->U[i]?=some s->U[j]?=some s'->s.own=true->s'.has=true->∀a∈fps i,a ∉ fps j
section
variable {K:Fg}{B:Bs}{F H F' H':Hp}{Y:_2.St}{U:DSt}{fps:Nat->List aE}
theorem zh7:∀{s:Sl},s.own=true->s.has=true
|.ow _,_=>rfl
|.io _ _,_=>rfl
|.un,e=>by cases e
|.sh _,e=>by cases e
|.bo _,e=>by cases e
theorem RS.rv(r:RS K B F H Y U fps):RV K F H Y U:=⟨r.len,λi s e=>by
 cases s with
|un=>trivial
|sh d=>exact r.sh i d e
|ow t =>
  obtain⟨x,t',h1,h2,h3,h4,h5⟩:=r.rt i _ e rfl;cases h2;exact⟨x,_,h1,h3,h5⟩
|bo t =>
  obtain⟨x,t',h1,h2,h3,h4,h5⟩:=r.rt i _ e rfl;cases h2;exact⟨x,_,h1,h3,h5⟩
|io a t =>
  obtain⟨x,t',h1,h2,h3,h4,h5⟩:=r.rt i _ e rfl;cases h2;cases h4 a t rfl;exact⟨_,h1,h3,h5⟩⟩
theorem RS.grow(r:RS K B F H Y U fps)(e:Ext F H F' H'):RS K B F' H' Y U fps where
 hh:=λb o hb ho=>e.h b o (r.hh b o hb ho)
 ff:=r.ff.trans e.f
 fh:=e.fh
 nw:=λb hb fb=>e.nw b (r.al b hb) (r.nw b hb fb)
 al:=λb hb z=>by
  cases q:H b with
 |none=>exact r.al b hb q
 |some o=>rw[e.h b o q]at z;cases z
 len:=r.len
 sh:=λi d h=>by obtain⟨x,h1,h2⟩:=r.sh i d h;exact⟨x,h1,h2.mono e.f⟩
 rt:=λi s h1 h2=>by obtain⟨x,t,a1,a2,a3,a4,a5⟩:=r.rt i s h1 h2;exact⟨x,t,a1,a2,a3.ext e,a4,a5⟩
 fr:=r.fr
 dj:=r.dj
theorem RS.setS(r:RS K B F H Y U fps){v:V}{d:D}(h:Is K F v d):RS K B F H (Y.set i (some v)) (U.set i (.sh d)) fps:=by
 have key:∀(j:Nat) s,(U.set i (.sh d))[j]?=some s->(j=i/\s=.sh d/\(Y.set i (some v)).getD j none=some v) \/ (j≠i/\U[j]?=some s/\(Y.set i (some v)).getD j none=Y.getD j none):=λj s e=>by
  rw[xQ]at e;by_cases hij:i=j
  ·subst hij;by_cases hl:i < U.length
   ·simp[hl]at e;exact .inl ⟨rfl,e.symm,by rw[zp7,r.len,aF ⟨rfl,hl⟩]⟩
   ·simp[hl]at e
  ·simp[hij]at e;exact .inr ⟨λz=>hij z.symm,e,by rw[zp7,aA (by lia)]⟩
 refine⟨r.hh,r.ff,r.fh,r.nw,r.al,by rw[wK,wK];exact r.len,λj d' e=>?_,λj s e hs=>?_,λj s e hs=>?_,λj k s s' hjk e1 e2 o1 o2=>?_⟩
 ·rcases key j _ e with⟨_,e2,e3⟩|⟨_,e2,e3⟩
  ·cases e2;exact⟨v,e3,h⟩
  ·obtain⟨x,h1,h2⟩:=r.sh j d' e2;exact⟨x,by rw[e3];exact h1,h2⟩
 ·rcases key j _ e with⟨_,e2,e3⟩|⟨_,e2,e3⟩
  ·rw[e2]at hs;cases hs
  ·rw[e3];exact r.rt j s e2 hs
 ·rcases key j _ e with⟨_,e2,e3⟩|⟨_,e2,e3⟩
  ·rw[e2]at hs;cases hs
  ·exact r.fr j s e2 hs
 ·rcases key j _ e1 with⟨_,z,_⟩|⟨_,z1,_⟩
  ·rw[z]at o1;cases o1
  ·rcases key k _ e2 with⟨_,z,_⟩|⟨_,z2,_⟩
   ·rw[z]at o2;cases o2
   ·exact r.dj j k s s' hjk z1 z2 o1 o2
theorem RS.byUpd(u:Upd K F n Y U Y' U')(r:RS K B F H Y U fps):RS K B F H Y' U' fps:=by
 induction u with
|refl=>exact r
|set hi hv _ ih=>exact ih (r.setS hv)
theorem RS.forget(r:RS K B F H Y U fps)(i:Nat):RS K B F H Y (U.set i .un) fps:=by
 have key:∀(j:Nat) s,(U.set i .un)[j]?=some s->s=.un \/ (j≠i/\U[j]?=some s):=λj s e=>by
  rw[xQ]at e;by_cases hij:i=j
  ·subst hij;by_cases hl:i < U.length
   ·simp[hl]at e;exact .inl e.symm
   ·simp[hl]at e
  ·simp[hij]at e;exact .inr ⟨λz=>hij z.symm,e⟩
 refine⟨r.hh,r.ff,r.fh,r.nw,r.al,by rw[wK];exact r.len,λj d' e=>?_,λj s e hs=>?_,λj s e hs=>?_,λj k s s' hjk e1 e2 o1 o2=>?_⟩
 ·rcases key j _ e with z|⟨_,z⟩
  ·cases z
  ·exact r.sh j d' z
 ·rcases key j _ e with z|⟨_,z⟩
  ·rw[z]at hs;cases hs
  ·exact r.rt j s z hs
 ·rcases key j _ e with z|⟨_,z⟩
  ·rw[z]at hs;cases hs
  ·exact r.fr j s z hs
 ·rcases key j _ e1 with z|⟨_,z1⟩
  ·rw[z]at o1;cases o1
  ·rcases key k _ e2 with z|⟨_,z2⟩
   ·rw[z]at o2;cases o2
   ·exact r.dj j k s s' hjk z1 z2 o1 o2
def zx41(B:Bs)(U:DSt)(fps:Nat->List aE)(b:aE):Prop:=B.H0 b=none/\∀(j:Nat) s,U[j]?=some s->s.has=true->b ∉ fps j
theorem RS.newOk(r:RS K B F H Y U fps){b:aE}(h:H b=none):zx41 B U fps b:=by
 refine⟨?_,λj s ej hs hb=>?_⟩
 ·by_cases z:B.H0 b=none
  ·exact z
  ·exact aJ h (r.al b z)
 ·obtain⟨x,t,a1,a2,a3,a4,a5⟩:=r.rt j s ej hs;exact(a3.dom b hb).1 h
theorem RS.upd2(r:RS K B F H Y U fps){s:Sl}{t2:T}{fp2:List aE}{F2 H2:Hp}(hi:U[i]?=some s)(ho:s.own=true)(hx:Y.getD i none=some x)
  (c1:∀b o,b ∉ fps i->H b=some o->H2 b=some o) (c2:Same F F2) (c3:Same F2 H2) (c4:∀b,H b≠none->F b=none->b ∉ fps i->F2 b=none) (c5:∀b,H b≠none->H2 b≠none)
  (h2:Rt K F2 H2 x t2 fp2) (n2:fp2.Nodup) (m2:∀b∈fp2,b∈fps i \/ zx41 B U fps b) (c6:∀b∈fps i,F2 b≠none->B.H0 b=none) :
  RS K B F2 H2 Y (U.set i (s.wth t2)) (λj=>if j=i then fp2 else fps j):=by
 have hlt:i < U.length:=by
  rcases wT i U.length with z|z
  ·exact z
  ·rw[wA z]at hi;cases hi
 have hs:=zh7 ho;have wo:(s.wth t2).own=true/\(s.wth t2).has=true/\(s.wth t2).tree=some t2:=by
  cases s with
 |ow _=>exact⟨rfl,rfl,rfl⟩
 |io _ _=>exact⟨rfl,rfl,rfl⟩
 |un=>cases ho
 |sh _=>cases ho
 |bo _=>cases ho
 have key:∀(j:Nat) s',(U.set i (s.wth t2))[j]?=some s'->(j=i/\s'=s.wth t2) \/ (j≠i/\U[j]?=some s'):=λj s' e=>by
  rw[xQ]at e;by_cases hij:i=j
  ·subst hij;simp[hlt]at e;exact .inl ⟨rfl,e.symm⟩
  ·simp[hij]at e;exact .inr ⟨λz=>hij z.symm,e⟩
 have old:∀b∈fps i,H b≠none/\F b=none:=by
  obtain⟨x',t',a1,a2,a3,a4,a5⟩:=r.rt i s hi hs;exact a3.dom
 have own0:=r.fr i s hi ho;refine⟨λb o hb h0=>?_,r.ff.trans c2,c3,λb hb fb=>?_,λb hb=>c5 b (r.al b hb),by rw[wK];exact r.len,λj d e=>?_,λj s' e hs'=>?_,λj s' e ho' a ha=>?_,λj k s1 s2 hjk e1 e2 o1 o2 a ha=>?_⟩
 ·refine c1 b o (λz=>?_) (r.hh b o hb h0);rcases own0 b z with y|y
  ·rw[y]at h0;cases h0
  ·exact hb y.1
 ·by_cases hbi:b∈fps i
  ·cases z:F2 b with
  |none=>rfl
  |some o=>exact aJ (c6 b hbi (by rw[z];simp)) hb
  ·exact c4 b (r.al b hb) (r.nw b hb fb) hbi
 ·rcases key j _ e with⟨_,z⟩|⟨_,z⟩
  ·rw[<- z]at wo;cases wo.1
  ·obtain⟨y,h1,h2⟩:=r.sh j d z;exact⟨y,h1,h2.mono c2⟩
 ·rcases key j _ e with⟨zj,z⟩|⟨zj,z⟩
  ·subst zj;rw[aF rfl];refine⟨x,t2,hx,by rw[z];exact wo.2.2,h2,λa u e'=>?_,n2⟩;obtain⟨x',t',a1,a2,a3,a4,a5⟩:=r.rt j s hi hs;rw[hx]at a1;cases a1;cases s with
  |ow _=>rw[z]at e';cases e'
  |io a' u'=>rw[z]at e';cases e';exact a4 _ _ rfl
  |un=>cases ho
  |sh _=>cases ho
  |bo _=>cases ho
  ·rw[aA zj];obtain⟨y,t',a1,a2,a3,a4,a5⟩:=r.rt j s' z hs';refine⟨y,t',a1,a2,a3.frame c2 λa ha=>?_,a4,a5⟩;obtain⟨d1,d2⟩:=a3.dom a ha;have na:a ∉ fps i:=λw=>r.dj i j s s' (λq=>zj q.symm) hi z ho hs' a w ha;cases q:H a with
  |none=>exact aJ q d1
  |some o=>exact⟨c1 a o na q,c4 a d1 d2 na⟩
 ·rcases key j _ e with⟨zj,z⟩|⟨zj,z⟩
  ·rw[aF zj]at ha;rcases m2 a ha with y|y
   ·rcases own0 a y with w|⟨w1,w2⟩
    ·exact .inl w
    ·refine .inr ⟨w1,λt et=>?_⟩;rw[z]at et;cases s with
    |ow t'=>exact w2 t' rfl
    |io _ _=>cases et
    |un=>cases ho
    |sh _=>cases ho
    |bo _=>cases ho
   ·exact .inl y.1
  ·rw[aA zj]at ha;exact r.fr j s' z ho' a ha
 ·rcases key j _ e1 with⟨zj,z1⟩|⟨zj,z1⟩ <;> rcases key k _ e2 with⟨zk,z2⟩|⟨zk,z2⟩
  ·exact aJ (zj.trans zk.symm) hjk
  ·rw[aF zj]at ha;rw[aA zk];subst zj;rcases m2 a ha with y|y
   ·exact r.dj j k s s2 hjk hi z2 ho o2 a y
   ·exact y.2 k s2 z2 o2
  ·rw[aA zj]at ha;rw[aF zk];subst zk;intro w;rcases m2 a w with y|y
   ·exact r.dj j k s1 s hjk z1 hi o1 hs a ha y
   ·exact y.2 j s1 z1 (zh7 o1) ha
  ·rw[aA zj]at ha;rw[aA zk];exact r.dj j k s1 s2 hjk z1 z2 o1 o2 a ha
theorem RS.setT(r:RS K B F H Y U fps){v:V}{t:T}(h:Rt K F H v t fp)(nd:fp.Nodup)(hf:∀a∈fp,B.H0 a=none)(hd:∀(j:Nat) s,U[j]?=some s->s.has=true->∀a∈fps j,a ∉ fp) :
  RS K B F H (Y.set i (some v)) (U.set i (.ow t)) (λj=>if j=i then fp else fps j):=by
 have key:∀(j:Nat) s,(U.set i (.ow t))[j]?=some s->(j=i/\s=.ow t/\(Y.set i (some v)).getD j none=some v) \/ (j≠i/\U[j]?=some s/\(Y.set i (some v)).getD j none=Y.getD j none):=λj s e=>by
  rw[xQ]at e;by_cases hij:i=j
  ·subst hij;by_cases hl:i < U.length
   ·simp[hl]at e;exact .inl ⟨rfl,e.symm,by rw[zp7,r.len,aF ⟨rfl,hl⟩]⟩
   ·simp[hl]at e
  ·simp[hij]at e;exact .inr ⟨λz=>hij z.symm,e,by rw[zp7,aA (by lia)]⟩
 refine⟨r.hh,r.ff,r.fh,r.nw,r.al,by rw[wK,wK];exact r.len,λj d' e=>?_,λj s e hs=>?_,λj s e hs a ha=>?_,λj k s s' hjk e1 e2 o1 o2 a ha=>?_⟩
 ·rcases key j _ e with⟨_,e2,e3⟩|⟨_,e2,e3⟩
  ·cases e2
  ·obtain⟨x,h1,h2⟩:=r.sh j d' e2;exact⟨x,by rw[e3];exact h1,h2⟩
 ·rcases key j _ e with⟨zj,e2,e3⟩|⟨zj,e2,e3⟩
  ·rw[aF zj,e3,e2];exact⟨v,t,rfl,rfl,h,λa u z=>(by cases z),nd⟩
  ·rw[aA zj,e3];exact r.rt j s e2 hs
 ·rcases key j _ e with⟨zj,e2,e3⟩|⟨zj,e2,e3⟩
  ·rw[aF zj]at ha;exact .inl (hf a ha)
  ·rw[aA zj]at ha;exact r.fr j s e2 hs a ha
 ·rcases key j _ e1 with⟨zj,z1,_⟩|⟨zj,z1,_⟩ <;> rcases key k _ e2 with⟨zk,z2,_⟩|⟨zk,z2,_⟩
  ·exact aJ (zj.trans zk.symm) hjk
  ·rw[aF zj]at ha;rw[aA zk];exact λw=>hd k s' z2 o2 a w ha
  ·rw[aA zj]at ha;rw[aF zk];exact hd j s z1 (zh7 o1) a ha
  ·rw[aA zj]at ha;rw[aA zk];exact r.dj j k s s' hjk z1 z2 o1 o2 a ha
theorem RS.put(r:RS K B F H Y U fps){s:Sl}{p:Pth}{v:V}{u:T}(hi:U[i]?=some s)(ho:s.own=true)(ha:AtS H Y U i p v u) :
  ∃fn t,s.tree=some t/\Rt K F H v u fn/\fn.Nodup/\(∀a∈fn,a∈fps i)/\∀{F2 H2:Hp}{u2:T}{fq:List aE},
   (∀b o,b ∉ fn->H b=some o->H2 b=some o)->Same F F2->Same F2 H2->(∀b,H b≠none->F b=none->b ∉ fn->F2 b=none)->(∀b,H b≠none->H2 b≠none)->(∀b∈fn,F2 b≠none->B.H0 b=none) ->
   Rt K F2 H2 v u2 fq->fq.Nodup->(∀b∈fq,b∈fn \/ zx41 B U fps b)->∃fps2,RS K B F2 H2 Y (U.set i (s.wth (setP t p u2))) fps2/\(∀j,j≠i->fps2 j=fps j)/\∀b∈fps2 i,b∈fps i \/ b∈fq:=by
 obtain⟨s',t,x,h1,h2,h3,h4⟩:=ha;rw[hi]at h1;cases h1;obtain⟨x',t',a1,a2,a3,a4,a5⟩:=r.rt i s hi (zh7 ho);rw[h3]at a1;cases a1;rw[h2]at a2;cases a2;obtain⟨fn,hn,sub,ndn,back⟩:=zc81 h4 a3 a5;refine⟨fn,t,h2,hn,ndn,sub,λ{F2 H2 u2 fq} c1 c2 c3 c4 c5 c6 hu nq mq=>?_⟩;obtain⟨fp2,r2,n2,m2⟩:=back c2 (λb hb hnb=>by
  obtain⟨d1,d2⟩:=a3.dom b hb;cases q:H b with
 |none=>exact aJ q d1
 |some o=>exact⟨c1 b o hnb q,c4 b d1 d2 hnb⟩) hu nq λb hb=>by
   rcases mq b hb with z|z
   ·exact .inl z
   ·exact .inr (z.2 i s hi (zh7 ho))
 refine⟨_,r.upd2 hi ho h3 (λb o hb=>c1 b o λz=>hb (sub b z)) c2 c3 (λb hb fb hbi=>c4 b hb fb λz=>hbi (sub b z)) c5 r2 n2 (λb hb=>?_) (λb hb f2=>?_),λj hj=>aA hj,λb hb=>?_⟩
 ·rcases m2 b hb with⟨y,_⟩|y
  ·exact .inl y
  ·rcases mq b y with z|z
   ·exact .inl (sub b z)
   ·exact .inr z
 ·by_cases z:b∈fn
  ·exact c6 b z f2
  ·obtain⟨d1,d2⟩:=a3.dom b hb;exact aJ (c4 b d1 d2 z) f2
 ·rw[aF rfl]at hb;rcases m2 b hb with⟨y,_⟩|y
  ·exact .inl y
  ·exact .inr y
end
structure Res(K:Fg)(B:Bs)(F H:Hp)(Y:_2.St)(U:DSt)(fps:Nat->List aE)(v:V)(r:T)(fpr:List aE):Prop where
 rs:RS K B F H Y U fps
 rt:Rt K F H v r fpr
 nd:fpr.Nodup
 fr:∀a∈fpr,B.H0 a=none
 dj:∀(j:Nat) s,U[j]?=some s->s.has=true->∀a∈fps j,a ∉ fpr
abbrev DC:=DSt->(T->DSt->Prop)->Prop
def RfC(K:Fg)(te:TE)(dc:DC):Prop:=∀{B:Bs}{F H:Hp}{Y:_2.St}{U:DSt}{fps:Nat->List aE}{Qd:T->DSt->Prop}{Q:VK},RS K B F H Y U fps->dc U Qd->(∀r U',Qd r U'->∀v F' H' fps' fpr,Res K B F' H' Y U' fps' v r fpr->Q v H')->te Y H Q
structure DEnds where
 nx:DSt->Prop
 rt:T->DSt->Prop
 bk:DSt->Prop:=λ_=>False
 ct:DSt->Prop:=λ_=>False
abbrev DS:=DEnds->DSt->Prop
structure En(K:Fg)(B:Bs)(E:DEnds)(Z:Ends):Prop where
 nx:∀{F H:Hp}{Y:_2.St}{U:DSt}{fps:Nat->List aE},RS K B F H Y U fps->E.nx U->Z.nx Y H
 bk:∀{F H:Hp}{Y:_2.St}{U:DSt}{fps:Nat->List aE},RS K B F H Y U fps->E.bk U->Z.bk Y H
 ct:∀{F H:Hp}{Y:_2.St}{U:DSt}{fps:Nat->List aE},RS K B F H Y U fps->E.ct U->Z.ct Y H
 rt:∀{F H:Hp}{Y:_2.St}{U:DSt}{fps:Nat->List aE}{v:V}{r:T}{fpr:List aE},Res K B F H Y U fps v r fpr->E.rt r U->Z.rt v H
def RfS(K:Fg)(ts:TS)(ds:DS):Prop:=∀{B:Bs}{F H:Hp}{Y:_2.St}{U:DSt}{fps:Nat->List aE}{E:DEnds}{Z:Ends},RS K B F H Y U fps->ds E U->En K B E Z->ts Z Y H
section
variable {K:Fg}{te ta ti:TE}{de da di:DE}{dc:DC}{tt:TT}{dt:DT}{t u tb:TS}{d e db:DS}{tA:TA}{dA:DF}{g:TG}{dg:DG}{n:Nat}{dp:DP}
def cE(de:DE):DC:=λU Q=>de U λd=>Q (.fz d) U
theorem RfE.c(h:RfE K te de):RfC K te (cE de):=by
 walk_at"15";exact h r.fh r.rv hd λd q v F1 H1 e1 i1=>k _ _ q v F1 H1 fps [] ⟨r.grow e1,.fz i1,.nil,λa ha=>by simp at ha,λ_ _ _ _ a _ ha=>by simp at ha⟩
def cF(df:DF):DC:=λU Q=>df U λds=>Q (.li ds) U
theorem RfF.c(h:RfF K te df):RfC K te (cF df):=by
 walk_at"15";refine h r.fh r.rv hd λds q a xs F1 H1 e1 hn h1 h2 h3=>k _ _ q (.ref a) F1 H1 fps [a] ⟨r.grow e1,.li h1 h2 h3,by simp,λb hb=>?_,λj s ej hs b hb hb2=>?_⟩
 ·simp at hb;subst hb;by_cases z:B.H0 b=none
  ·exact z
  ·exact aJ hn (r.al b z)
 ·simp at hb2;subst hb2;obtain⟨x,t,a1,a2,a3,a4,a5⟩:=r.rt j s ej hs;exact(a3.dom b hb).1 hn
def slot:T->Sl
|.fz d=>.sh d
|t=>.ow t
theorem Res.set{B:Bs}{F H:Hp}{Y:_2.St}{U:DSt}{fps:Nat->List aE}{v:V}{r:T}{fpr:List aE}(h:Res K B F H Y U fps v r fpr)(i:Nat):∃fps',RS K B F H (Y.set i (some v)) (U.set i (slot r)) fps':=by
 cases r with
|fz d=>cases h.rt with
 |fz hi=>exact⟨_,h.rs.setS hi⟩
|li ds=>exact⟨_,h.rs.setT h.rt h.nd h.fr h.dj⟩
|ls ds=>exact⟨_,h.rs.setT h.rt h.nd h.fr h.dj⟩
|ob C ds=>exact⟨_,h.rs.setT h.rt h.nd h.fr h.dj⟩
|dk ds=>exact⟨_,h.rs.setT h.rt h.nd h.fr h.dj⟩
|dt ds=>exact⟨_,h.rs.setT h.rt h.nd h.fr h.dj⟩
|tp ds=>exact⟨_,h.rs.setT h.rt h.nd h.fr h.dj⟩
def zz5:DS:=λE U=>E.nx U
theorem zf1:RfS K zja1 zz5:=λr h k=>k.nx r h
def dSeq(a b:DS):DS:=λE U=>∃J:DSt->Prop,a { E with nx:=J } U/\∀U',J U'->b E U'
theorem zn0(h1:RfS K t d)(h2:RfS K u e):RfS K (tSeq t u) (dSeq d e):=by
 walk_at"5";obtain⟨J,ha,hb⟩:=h;exact h1 r ha ⟨λr' q=>h2 r' (hb _ q) k,k.bk,k.ct,k.rt⟩
def dAsg(de:DE)(dg:DG):DS:=λE U=>de U λd=>dg d U E.nx
theorem zy0(he:RfE K te de)(hg:RfG K n g dg):RfS K (tAsg te g) (dAsg de dg):=by
 walk_at"5";exact he r.fh r.rv h λd hd v F1 H1 e1 i1=>hg e1.fh i1 hd λY' U' q u=>k.nx ((r.grow e1).byUpd u) q
def dSet(i:Nat)(dc:DC):DS:=λE U=>dc U λr U'=>E.nx (U'.set i (slot r))
theorem zf3(hc:RfC K te dc):RfS K (tAsg te (zir i)) (dSet i dc):=by
 walk_at"5";refine hc r h λr2 U' q v F1 H1 fps1 fpr res=>?_;obtain⟨fps2,r3⟩:=res.set i;exact k.nx r3 q
def zjh(dc:DC):DS:=λE U=>dc U λ_ U'=>E.nx U'
theorem zh2(hc:RfC K te dc):RfS K (zib1 te) (zjh dc):=by
 walk_at"5";exact hc r h λr2 U' q v F1 H1 fps1 fpr res=>k.nx res.rs q
def dRet(dc:DC):DS:=λE U=>dc U E.rt
theorem zm1(hc:RfC K te dc):RfS K (tRet te) (dRet dc):=by
 walk_at"5";exact hc r h λr2 U' q v F1 H1 fps1 fpr res=>k.rt res q
def zhp(i:Nat):DS:=λE U=>match U[i]? with
|some (.ow t)=>E.rt t (U.set i .un)
|some (.sh d)=>E.rt (.fz d) U
|_=>False
theorem zza:RfS K (tRet (tVar i)) (zhp i):=by
 walk_at"5";unfold zhp at h;split at h
 ·rename_i t q
  obtain⟨x,t',a1,a2,a3,a4,a5⟩:=r.rt i _ q rfl;cases a2;refine⟨x,zya (F:=F) (H:=H) (U:=U) a1,k.rt ⟨r.forget i,a3,a5,λa ha=>(r.fr i _ q rfl a ha).elim id λz=>aJ rfl (z.2 t),λj s ej hs a ha hb=>?_⟩ h⟩;rw[xQ]at ej;by_cases hij:i=j
  ·subst hij;split at ej
   ·split at ej
    ·cases ej;cases hs
    ·cases ej
   ·rename_i z;exact aJ rfl z
  ·simp[hij]at ej;exact r.dj i j _ s hij q ej rfl hs a hb ha
 ·rename_i d q
  obtain⟨x,h1,h2⟩:=r.sh i d q;exact⟨x,zya (F:=F) (H:=H) (U:=U) h1,k.rt ⟨r,.fz h2,.nil,λa ha=>by simp at ha,λ_ _ _ _ a _ ha=>by simp at ha⟩ h⟩
 ·exact h.elim
def zw41:DS:=λE U=>E.ct U
theorem zft:RfS K zp91 zw41:=λr h k=>k.ct r h
def dIf(dt:DT)(d e:DS):DS:=λE U=>dt U λb=>if b=true then d E U else e E U
theorem zm5(ht:RfT K tt dt)(h1:RfS K t d)(h2:RfS K u e):RfS K (tIfS tt t u) (dIf dt d e):=by
 walk_at"5";refine ht r.fh r.rv h λb hb F1 H1 e1=>?_;cases b with
|true=>rw[aF rfl]at hb ⊢;exact h1 (r.grow e1) hb k
|false=>rw[aA v5]at hb ⊢;exact h2 (r.grow e1) hb k
def dFor(di:DF)(dg:DG)(db:DS):DS:=λE U=>di U λitems=>∃W:Nat->DSt->Prop,W 0 U /\
 (∀i d U',items[i]?=some d->W i U'->dg d U' λU2=>db { E with nx:=W (i+1),ct:=W (i+1),bk:=E.nx } U2)/\∀U',W items.length U'->E.nx U'
def Bs.rem(B:Bs)(F1:Hp):Bs:=⟨F1,B.H0,B.G⟩
theorem RS.rem{B:Bs}{F H F1:Hp}{Y:_2.St}{U:DSt}{fps:Nat->List aE}(r:RS K B F H Y U fps)(s0:Same B.F0 F1)(s:Same F1 F):RS K (B.rem F1) F H Y U fps :=
 ⟨r.hh,s,r.fh,λb hb fb=>r.nw b hb (by
  cases q:B.F0 b with
 |none=>rfl
 |some o=>rw[show(B.rem F1).F0 b=F1 b from rfl,s0 b o q]at fb;cases fb),r.al,r.len,r.sh,r.rt,r.fr,r.dj⟩
theorem RS.unrem{B:Bs}{F H F1:Hp}(r:RS K (B.rem F1) F H Y U fps)(s0:Same B.F0 F1)(n0:∀b,B.H0 b≠none->B.F0 b=none->F1 b=none):RS K B F H Y U fps :=
 ⟨r.hh,s0.trans r.ff,r.fh,λb hb fb=>r.nw b hb (n0 b hb fb),r.al,r.len,r.sh,r.rt,r.fr,r.dj⟩
theorem zj4{wi:TI}{di:DF}(hi:RfI K wi di)(hg:RfG K n g dg)(hb:RfS K tb db):RfS K (tFor wi g tb) (dFor di dg db):=by
 walk_at"5";refine hi r.fh r.rv h λitems hx J F1 H1 e1 wj=>?_;obtain⟨W,w0,ws,we⟩:=hx;have r1:=r.grow e1;have s0:=r1.ff;have n0:=r1.nw;refine⟨λi m Y' H'=>m=items.length - i/\i<=items.length/\∃F' U' fps',RS K (B.rem F1) F' H' Y' U' fps'/\W i U',⟨items.length,rfl,wX _,F1,U,fps,r1.rem s0 (λ_ _ z=>z),w0⟩,?_⟩;rintro i m Y' H' ⟨rfl,hi',F',U',fps',r',w'⟩;obtain⟨go,stop,yld⟩:=wj F' H' r'.ff r'.fh;by_cases hlt:i < items.length
 ·refine .inr ⟨go i hlt,λY2 H2=>i+1<=items.length/\∃F2 U2 fps2,RS K (B.rem F1) F2 H2 Y2 U2 fps2/\W (i+1) U2,λY2 H2 p=>⟨_,by lia,rfl,p⟩,λx H2 y=>?_⟩;have hit:items[i]?=some items[i]:=u6 hlt;obtain⟨F2,ex2,ix2⟩:=yld i x H2 _ hit y;refine hg ex2.fh ix2 (ws i _ U' hit w') λY2 U2 hd2 u2=>?_;refine hb ((r'.grow ex2).byUpd u2) hd2 ⟨λr3 q=>⟨hlt,_,_,_,r3,q⟩,λr3 q=>k.nx (r3.unrem s0 n0) q,λr3 q=>⟨hlt,_,_,_,r3,q⟩,λres q=>k.rt ⟨res.rs.unrem s0 n0,res.rt,res.nd,res.fr,res.dj⟩ q⟩
 ·have e:i=items.length:=by lia
  subst e;exact .inl ⟨stop,k.nx (r'.unrem s0 n0) (we _ w')⟩
def zgp(dt:DT)(db:DS):DS:=λE U=>∃W:Nat->DSt->Prop,(∃m,W m U)/\∀m U',W m U'->dt U' λb=>if b=true then db { E with nx:=λU2=>∃m',m' < m/\W m' U2,ct:=λU2=>∃m',m' < m/\W m' U2,bk:=E.nx } U' else E.nx U'
theorem zoa(ht:RfT K tt dt)(hb:RfS K tb db):RfS K (zt11 tt tb) (zgp dt db):=by
 walk_at"5";obtain⟨W,⟨m0,w0⟩,ws⟩:=h;refine⟨λm Y' H'=>∃F' U' fps',RS K B F' H' Y' U' fps'/\W m U',⟨m0,F,U,fps,r,w0⟩,?_⟩;rintro m Y' H' ⟨F',U',fps',r',w'⟩;refine ht r'.fh r'.rv (ws m U' w') λb hb' F1 H1 e1=>?_;cases b with
|true =>
  rw[aF rfl]at hb' ⊢;refine⟨λY2 H2=>∃m',m' < m/\∃F2 U2 fps2,RS K B F2 H2 Y2 U2 fps2/\W m' U2,λY2 H2 p=>p,hb (r'.grow e1) hb' ⟨λr3 q=>?_,λr3 q=>k.nx r3 q,λr3 q=>?_,k.rt⟩⟩
  ·obtain⟨m',h1,h2⟩:=q;exact⟨m',h1,_,_,_,r3,h2⟩
  ·obtain⟨m',h1,h2⟩:=q;exact⟨m',h1,_,_,_,r3,h2⟩
|false =>
  rw[aA v5]at hb' ⊢;exact k.nx (r'.grow e1) hb'
def mutS(U:DSt)(i:Nat)(p:Pth)(u:T)(N:DSt->Prop):Prop:=match U[i]? with
|some (.ow t)=>N (U.set i (.ow (setP t p u)))
|some (.io a t)=>N (U.set i (.io a (setP t p u)))
|_=>False
theorem RS.mut{B:Bs}{F H:Hp}{p:Pth}{v:V}{u u2:T}(r:RS K B F H Y U fps)(ha:AtS H Y U i p v u)(hm:mutS U i p u2 N) :
  ∃fn,Rt K F H v u fn/\fn.Nodup/\(∀a∈fn,a∈fps i)/\∀{F2 H2:Hp}{fq:List aE},
   (∀b o,b ∉ fn->H b=some o->H2 b=some o)->Same F F2->Same F2 H2->(∀b,H b≠none->F b=none->b ∉ fn->F2 b=none)->(∀b,H b≠none->H2 b≠none)->(∀b∈fn,F2 b≠none->B.H0 b=none) ->
   Rt K F2 H2 v u2 fq->fq.Nodup->(∀b∈fq,b∈fn \/ zx41 B U fps b)->∃U2 fps2,RS K B F2 H2 Y U2 fps2/\N U2/\(∀j,j≠i->fps2 j=fps j/\U2[j]?=U[j]?)/\(∀b∈fps2 i,b∈fps i \/ b∈fq)/\(∃s,U[i]?=some s/\s.own=true):=by
 obtain⟨s,hi,ho,hN⟩:∃s,U[i]?=some s/\s.own=true/\∀t,s.tree=some t->N (U.set i (s.wth (setP t p u2))):=by
  unfold mutS at hm;split at hm
  ·rename_i t q
   exact⟨_,q,rfl,λt' e=>by cases e;exact hm⟩
  ·rename_i a t q
   exact⟨_,q,rfl,λt' e=>by cases e;exact hm⟩
  ·exact hm.elim
 obtain⟨fn,t,h1,h2,h3,h4,h5⟩:=r.put hi ho ha;refine⟨fn,h2,h3,h4,λ{F2 H2 fq} c1 c2 c3 c4 c5 c6 hu nq mq=>?_⟩;obtain⟨fps2,r2,e2⟩:=h5 c1 c2 c3 c4 c5 c6 hu nq mq;refine⟨_,fps2,r2,hN t h1,λj hj=>⟨e2.1 j hj,?_⟩,e2.2,s,hi,ho⟩;rw[xK (λz=>hj z.symm)]
theorem RS.one{B:Bs}{F H:Hp}{p:Pth}{u u2:T}{o2:HO}(r:RS K B F H Y U fps)(ha:AtS H Y U i p (.ref a) u)(hm:mutS U i p u2 N)(ho:H a=some o)
  (hu:∀fn,Rt K F H (.ref a) u fn->fn=[a]) (h2:F a=none->Rt K F (upd H a o2) (.ref a) u2 [a]):∃U2 fps2,RS K B F (upd H a o2) Y U2 fps2/\N U2/\(∀j,j≠i->fps2 j=fps j/\U2[j]?=U[j]?):=by
 obtain⟨fn,hr,nd,sub,back⟩:=r.mut ha hm;have e:=hu fn hr;subst e;have fa:F a=none:=(hr.dom a (by simp)).2;obtain⟨U2,fps2,g1,g2,g3,_⟩:=back (F2:=F) (H2:=upd H a o2) (fq:=[a]) (λb o' hb ho'=>by rw[ze1 (λz=>hb (by simp[z]))];exact ho') (λ_ _ z=>z) (λb o' z=>by
   have:b≠a:=λw=>by subst w;rw[fa]at z;cases z
   rw[ze1 this];exact r.fh b o' z) (λb _ fb _=>fb) (λb hb=>by
   by_cases z:b=a
   ·rw[z,zt0];simp
   ·rw[ze1 z];exact hb) (λb hb f=>by simp at hb;subst hb;exact aJ fa f) (h2 fa) (by simp) (λb hb=>.inl hb)
 exact⟨U2,fps2,g1,g2,g3⟩
abbrev FM:=T->List D->(T->D->Prop)->Prop
def MO(K:Fg)(r:V->List V->Hp->VK->Prop)(f:FM):Prop:=∀{F H:Hp}{v:V}{u:T}{fn:List aE}{vs:List V}{ds:List D}{Kd:T->D->Prop}{Q:VK},Same F H->Rt K F H v u fn->IsAll K F vs ds->f u ds Kd ->
 ∃u2 d y o o2 a,Kd u2 d/\v=.ref a/\fn=[a]/\H a=some o/\Is K F y d/\Rt K F (upd H a o2) (.ref a) u2 [a]/\(Q y (upd H a o2)->r v vs H Q)
def tyN(T:String):_4.T->Prop
|.li _=>T = "list"
|.ls _=>T = "list"
|.dk _=>T = "dict"
|.dt _=>T = "dict"
|_=>False
theorem zsa1{F H:Hp}{T:String}{v:V}{u:_4.T}(h:Rt K F H v u fn)(k:tyN T u):tyV K T v H:=by
 cases h with
|fz _=>exact k.elim
|li h1 _ _=>exact .inl ⟨k,_,SqL.of h1⟩
|ls h1 _ _=>exact .inl ⟨k,_,SqL.of h1⟩
|ob _ _ _ _ _=>exact k.elim
|tp _ _ _=>exact k.elim
|dk h1 _ _=>exact .inr (.inr (.inl ⟨k,.inl ⟨_,h1⟩⟩))
|dt h1 _ _=>exact .inr (.inr (.inl ⟨k,.inr ⟨_,h1⟩⟩))
theorem zr91{F H:Hp}{v:V}{u:T}{fn:List aE}{r:V->List V->Hp->VK->Prop}{f:FM}(hm:MO K r f){ds:List D}{Kd:T->D->Prop}{B:Bs}{p:Pth}{Qd:T->DSt->Prop}{Q:VK}
  (rs:RS K B F H Y U fps) (ha:AtS H Y U i p v u) (hv:IsAll K F vs ds) (hf:f u ds λu2 d=>mutS U i p u2 λU'=>Qd (.fz d) U')
  (k:∀r U',Qd r U'->∀v F' H' fps' fpr,Res K B F' H' Y U' fps' v r fpr->Q v H'):r v vs H Q:=by
 obtain⟨fn,hr⟩:=ha.rt rs.rv;obtain⟨u2,d,y,o,o2,a,kd,rfl,e2,h3,h4,h5,h6⟩:=hm (Q:=Q) rs.fh hr hv hf;refine h6 ?_;obtain⟨U2,fps2,r2,q2,_⟩:=rs.one ha kd h3 (λfn' hr'=>by
  obtain⟨_,_,_,_,_,a',_,e1,e2',_⟩:=hm (Q:=Q) rs.fh hr' hv hf;cases e1;exact e2') (λ_=>h5)
 exact k _ _ q2 _ _ _ fps2 [] ⟨r2,.fz h4,.nil,λa ha=>by simp at ha,λ_ _ _ _ a _ ha=>by simp at ha⟩
def cBM(ty:String)(f:FM)(dp:DP)(dA:DF):DC:=λU Q=>dp U λi p u=>tyN ty u/\dA U λds=>f u ds λu2 d=>mutS U i p u2 λU'=>Q (.fz d) U'
theorem zkh{T:String}{r:V->List V->Hp->VK->Prop}{f:FM}(hm:MO K r f)(hp:RfP K te dp)(hA:RfA K tA dA):RfC K (tBMU K T r te tA) (cBM T f dp dA):=by
 walk_at"22";refine hp rs.fh rs.rv hd λi p u hu v F1 H1 e1 at1=>?_;have r1:=rs.grow e1;obtain⟨fn,hr⟩:=at1.rt r1.rv;refine⟨zsa1 hr hu.1,hA e1.fh r1.rv hu.2 λds hds vs F2 H2 e2 i2=>?_⟩;exact zr91 hm (fn:=fn) (Kd:=λ_ _=>True) (r1.grow e2) (at1.mono e2.h) i2 hds k
def cBM0(ty:String)(f:FM)(dp:DP):DC:=λU Q=>dp U λi p u=>tyN ty u/\f u [] λu2 d=>mutS U i p u2 λU'=>Q (.fz d) U'
theorem zvw{T:String}{r:V->List V->Hp->VK->Prop}{f:FM}(hm:MO K r f)(hp:RfP K te dp):RfC K (zfa1 K T r te) (cBM0 T f dp):=by
 walk_at"22";refine hp rs.fh rs.rv hd λi p u hu v F1 H1 e1 at1=>?_;have r1:=rs.grow e1;obtain⟨fn,hr⟩:=at1.rt r1.rv;exact⟨zsa1 hr hu.1,zr91 hm (fn:=fn) (Kd:=λ_ _=>True) r1 at1 .nil hu.2 k⟩
def mApp:FM:=λu ds N=>match u,ds with
|.li xs,[d]=>xs.length < sizeLine/\N (.li (xs++[d])) .none
|_,_=>False
theorem zhd:MO K zut mApp:=by
 walk_at"17";unfold mApp at hf;cases u <;> first|exact hf.elim|skip
 rcases ds with _|⟨d,_|⟨e,r⟩⟩ <;> first|exact hf.elim|skip
 ·obtain⟨y,rfl,iy⟩:=all1 hv;cases hr with
 |li h1 h2 h3 =>
   have el:=h3.dlen;exact⟨_,_,.non,_,.lst (_++[y]),_,hf.2,rfl,rfl,h1,.non,.li zt0 h2 (h3.dapp (.cons iy .nil)),λq=>⟨_,_,y,rfl,rfl,h1,by lia,q⟩⟩
def mExt:FM:=λu ds N=>match u,ds with
|.li xs,[.list es]=>xs.length+es.length<=sizeLine/\N (.li (xs++es)) .none
|_,_=>False
theorem zvk:MO K (zvm K) mExt:=by
 walk_at"17";unfold mExt at hf;cases u <;> first|exact hf.elim|skip
 rcases ds with _|⟨d,_|⟨e,r⟩⟩ <;> first|exact hf.elim|(cases d <;> first|exact hf.elim|skip)
 ·obtain⟨y,rfl,iy⟩:=all1 hv;obtain⟨b,ys,rfl,g1,g2⟩:=iy.list_inv;cases hr with
 |li h1 h2 h3 =>
   have el:=h3.dlen;have el2:=g2.dlen;exact⟨_,_,.non,_,.lst (_++ys),_,hf.2,rfl,rfl,h1,.non,.li zt0 h2 (h3.dapp g2),λq=>⟨_,b,_,ys,rfl,rfl,h1,s.seq g1,by lia,q⟩⟩
def ztx:FM:=λu ds N=>match u,ds with
|.li xs,[]=>N (.li []) .none
|_,_=>False
def mPop:FM:=λu ds N=>match u,ds with
|.li xs,[]=>∃d,xs[xs.length - 1]?=some d/\N (.li xs.dropLast) d
|_,_=>False
theorem zdi{F:Hp}{ds:List D}(h:IsAll K F xs ds):IsAll K F xs.dropLast ds.dropLast:=by
 rw[j9,j9,h.dlen];exact h.dtake _
theorem znx:MO K rPop mPop:=by
 walk_at"17";unfold mPop at hf;cases u <;> first|exact hf.elim|skip
 cases ds <;> first|exact hf.elim|skip
 ·cases hv;cases hr with
 |li h1 h2 h3 =>
   obtain⟨d,ed,q⟩:=hf;obtain⟨y,hy,iy⟩:=h3.dget ed;have el:=h3.dlen;rw[<- el]at hy;exact⟨_,_,y,_,.lst _,_,q,rfl,rfl,h1,iy,.li zt0 h2 (zdi h3),λq=>⟨_,_,y,rfl,rfl,h1,hy,q⟩⟩
end
section
variable {K:Fg}{te ta ti tv:TE}{de da di dk:DE}{dc:DC}{tt:TT}{dt:DT}{t u tb:TS}{d e db:DS}{tA:TA}{dA:DF}{g:TG}{dg:DG}{n:Nat}{dp:DP}{w:aQ}
def keyD:D->Option Key
|.int i=>some (.inl i)
|.str x=>some (.inr x)
|_=>none
theorem zuk{F:Hp}{v:V}{d:D}{k:Key}(h:Is K F v d)(e:keyD d=some k):v=kV k:=by
 cases h <;> simp[keyD]at e <;> subst e <;> rfl
def ztn:List D->Option (List Key)
|[]=>some []
|d :: ds=>match keyD d,ztn ds with
 |some k,some ks=>some (k :: ks)
 |_,_=>none
def keyT:D->Option (List Key)
|.tuple ds=>ztn ds
|_=>none
theorem znc{F:Hp}:∀{xs:List V}{ds:List D}{k:List Key},IsAll K F xs ds->ztn ds=some k->xs=k.map kV/\ds.all zo21=true
|_,_,_,.nil,e=>by simp[ztn]at e;subst e;exact⟨rfl,rfl⟩
|_,_,_,.cons (d:=d) h r,e=>by
  unfold ztn at e;split at e
  ·rename_i k ks h1 h2
   cases e;obtain⟨e1,e2⟩:=znc r h2;have:=zuk h h1;rw[v4,this,e1,zB,e2];refine⟨rfl,?_⟩;cases d <;> simp[keyD]at h1 <;> rfl
  ·cases e
theorem zrm{F:Hp}{v:V}{d:D}{k:List Key}(h:Is K F v d)(e:keyT d=some k):∃b,v=.ref b/\F b=some (.tup (k.map kV)):=by
 cases h with
|tup h1 h2 =>
  obtain⟨e1,_⟩:=znc h2 e;subst e1;exact⟨_,rfl,h1⟩
|tuc h1 h2 h3 =>
  obtain⟨_,e2⟩:=znc h2 e;rw[e2]at h3;cases h3
|_=>simp[keyT]at e
def getA{κ:Type}[DecidableEq κ](kvs:List (κ×D))(k:κ):Option D:=(kvs.find? λkv=>decide (kv.1=k)).map (·.2)
def putD{κ:Type}[DecidableEq κ](kvs:List (κ×D))(k:κ)(d:D):List (κ×D) :=
 if(kvs.any λkv=>decide (kv.1=k))=true then kvs.map (λkv=>if kv.1=k then(kv.1,d)else kv)else kvs++[(k,d)]
theorem KvIs.len{F:Hp}{κ:Type}:∀{r:List (κ×V)}{s:List (κ×D)},KvIs K F r s->r.length=s.length
|_,_,.nil=>rfl
|_,_,.cons _ r=>congrArg (·+1) (KvIs.len r)
theorem KvIs.get{F:Hp}{κ:Type}[DecidableEq κ]{k:κ}:∀{r:List (κ×V)}{s:List (κ×D)},KvIs K F r s->(getA s k=none/\valV r k=none) \/ ∃d v,getA s k=some d/\valV r k=some v/\Is K F v d
|_,_,.nil=>.inl ⟨rfl,rfl⟩
|_,_,.cons (k:=k') (v:=v) (d:=d) h r=>by
  by_cases e:k'=k
  ·exact .inr ⟨d,v,by simp[getA,e],by simp[valV,e],h⟩
  ·rcases KvIs.get (k:=k) r with⟨h1,h2⟩|⟨d',v',h1,h2,h3⟩
   ·exact .inl ⟨by simp[getA,e];simpa[getA]using h1,by simp[valV,e];simpa[valV]using h2⟩
   ·refine .inr ⟨d',v',?_,?_,h3⟩
    ·simp[getA,e];simpa[getA]using h1
    ·simp[valV,e];simpa[valV]using h2
theorem KvIs.any{F:Hp}{κ:Type}[DecidableEq κ]{k:κ}:∀{r:List (κ×V)}{s:List (κ×D)},KvIs K F r s->(r.any λkv=>decide (kv.1=k))=(s.any λkv=>decide (kv.1=k))
|_,_,.nil=>rfl
|_,_,.cons _ r=>by rw[xP,xP,KvIs.any r]
theorem KvIs.app{F:Hp}{κ:Type}:∀{r r':List (κ×V)}{s s':List (κ×D)},KvIs K F r s->KvIs K F r' s'->KvIs K F (r++r') (s++s')
|_,_,_,_,.nil,h=>h
|_,_,_,_,.cons h r,h'=>.cons h (r.app h')
theorem KvIs.map{F:Hp}{κ:Type}[DecidableEq κ]{k:κ}{v:V}{d:D}(hv:Is K F v d):∀{r:List (κ×V)}{s:List (κ×D)},KvIs K F r s->KvIs K F (r.map λkv=>if kv.1=k then(kv.1,v)else kv) (s.map λkv=>if kv.1=k then(kv.1,d)else kv)
|_,_,.nil=>.nil
|_,_,.cons (k:=k') h r=>by
  by_cases e:k'=k
  ·simp only[v4,e,if_true];exact .cons hv (r.map hv)
  ·simp only[v4,e,if_false];exact .cons h (r.map hv)
theorem KvIs.put{F:Hp}{κ:Type}[DecidableEq κ]{k:κ}{v:V}{d:D}(hv:Is K F v d){r:List (κ×V)}{s:List (κ×D)}(h:KvIs K F r s):KvIs K F (putK r k v) (putD s k d):=by
 unfold putK putD;rw[h.any];split
 ·exact h.map hv
 ·exact h.app (.cons hv .nil)
def fPut(u:T)(k d:D)(N:T->Prop):Prop:=match u with
|.li ds=>match k with
 |.int z=>∃j,ixN ds.length z=some j/\N (.li (ds.set j d))
 |_=>False
|.dk kvs=>∃key,keyD k=some key/\kvs.length < sizeLine/\N (.dk (putD kvs key d))
|.dt kvs=>∃key,keyT k=some key/\kvs.length < sizeLine/\N (.dt (putD kvs key d))
|_=>False
theorem za41{B:Bs}{F H:Hp}{p:Pth}{v:V}{u:T}{k d:D}{Q:Hp->Prop}(rs:RS K B F H Y U fps)(ha:AtS H Y U i p v u)(hk:Is K F kv k)(hy:Is K F y d)
  (hf:fPut u k d λu2=>mutS U i p u2 N) (q:∀U2 fps2 H2,RS K B F H2 Y U2 fps2->N U2->Q H2):zg51 v kv y H Q:=by
 obtain⟨fn,hr⟩:=ha.rt rs.rv;cases hr with
|li h1 h2 h3 =>
  simp only[fPut]at hf;split at hf
  ·rename_i z
   obtain⟨j,ej,hm⟩:=hf;cases hk.int_inv;have el:=h3.dlen;obtain⟨U2,fps2,r2,n2,_⟩:=rs.one (o2:=.lst (_)) ha hm h1 (λfn' hr'=>by cases hr';rfl) (λfa=>.li zt0 fa (h3.dset hy j));exact .inl ⟨_,_,z,j,rfl,rfl,h1,by rw[el];exact ej,q _ _ _ r2 n2⟩
  ·exact hf.elim
|dk h1 h2 h3 =>
  simp only[fPut]at hf;obtain⟨key,ek,hl,hm⟩:=hf;have:=zuk hk ek;subst this;have el:=h3.len;obtain⟨U2,fps2,r2,n2,_⟩:=rs.one (o2:=.dK _) ha hm h1 (λfn' hr'=>by cases hr';rfl) (λfa=>.dk zt0 fa (h3.put (k:=key) hy));exact .inr ⟨_,_,rfl,DPut.k h1 (by lia),q _ _ _ r2 n2⟩
|fz _=>exact hf.elim
|ls _ _ _=>exact hf.elim
|ob _ _ _ _ _=>exact hf.elim
|tp _ _ _=>exact hf.elim
|dt h1 h2 h3 =>
  simp only[fPut]at hf;obtain⟨key,ek,hl,hm⟩:=hf;obtain⟨kb,rfl,hb⟩:=zrm hk ek;have el:=h3.len;obtain⟨U2,fps2,r2,n2,_⟩:=rs.one (o2:=.dT _) ha hm h1 (λfn' hr'=>by cases hr';rfl) (λfa=>.dt zt0 fa (h3.put (k:=key) hy));exact .inr ⟨_,_,rfl,DPut.t h1 (rs.fh _ _ hb) (by lia),q _ _ _ r2 n2⟩
def dPut(dp:DP)(dk de:DE):DS:=λE U=>de U λd=>dp U λi p u=>dk U λk=>fPut u k d λu2=>mutS U i p u2 E.nx
theorem zbv(he:RfE K te de)(hp:RfP K ta dp)(hk:RfE K ti dk):RfS K (tAsg te (gSub ta ti zg51)) (dPut dp dk de):=by
 walk_at"5";refine he r.fh r.rv h λd hd y F1 H1 e1 i1=>?_;have r1:=r.grow e1;refine hp r1.fh r1.rv hd λi p u hu v F2 H2 e2 at2=>?_;have r2:=r1.grow e2;refine hk r2.fh r2.rv hu λkd hkd kv F3 H3 e3 i3=>?_;exact za41 (r2.grow e3) (at2.mono e3.h) i3 (i1.mono (e2.f.trans e3.f)) hkd λU2 fps2 H4 r4 n4=>k.nx r4 n4
def fGet(u:T)(k:D)(Q:D->Prop):Prop:=match u with
|.li ds=>match k with
 |.int z=>0<=z/\∃d,ds[z.toNat]?=some d/\Q d
 |_=>False
|.dk kvs=>∃key d,keyD k=some key/\getA kvs key=some d/\Q d
|.dt kvs=>∃key d,keyT k=some key/\getA kvs key=some d/\Q d
|_=>False
theorem zm11{F H:Hp}{v:V}{u:T}{k:D}{Qd:D->Prop}{Q:VK}(s:Same F H)(hr:Rt K F H v u fn)(hk:Is K F kv k)(hf:fGet u k Qd)(q:∀d y,Qd d->Is K F y d->Q y H):zx61 K v kv H Q:=by
 cases hr with
|li h1 h2 h3 =>
  simp only[fGet]at hf;split at hf
  ·rename_i z
   obtain⟨z0,d,ed,qd⟩:=hf;cases hk.int_inv;obtain⟨y,hy,iy⟩:=h3.dget ed;exact .inl ⟨_,_,z,y,rfl,rfl,z0,SqL.of h1,hy,q d y qd iy⟩
  ·exact hf.elim
|dk h1 h2 h3 =>
  simp only[fGet]at hf;obtain⟨key,d,ek,ed,qd⟩:=hf;have:=zuk hk ek;subst this;rcases h3.get (k:=key)with⟨g1,_⟩|⟨d',y,g1,g2,g3⟩
  ·rw[g1]at ed;cases ed
  ·rw[g1]at ed;cases ed;exact .inr ⟨_,y,rfl,by rw[<- g2];exact DGet.k h1,q d y qd g3⟩
|fz _=>exact hf.elim
|ls _ _ _=>exact hf.elim
|ob _ _ _ _ _=>exact hf.elim
|tp _ _ _=>exact hf.elim
|dt h1 h2 h3 =>
  simp only[fGet]at hf;obtain⟨key,d,ek,ed,qd⟩:=hf;obtain⟨kb,rfl,hb⟩:=zrm hk ek;rcases h3.get (k:=key)with⟨g1,_⟩|⟨d',y,g1,g2,g3⟩
  ·rw[g1]at ed;cases ed
  ·rw[g1]at ed;cases ed;exact .inr ⟨_,y,rfl,by rw[<- g2];exact DGet.t h1 (s _ _ hb),q d y qd g3⟩
def fII(f:Int->Int->Int)(x y:D)(Q:D->Prop):Prop:=match x,y with
|.int i,.int j=>Q (.int (f i j))
|_,_=>False
def zfq(f:Int->Int->Int)(dp:DP)(dk de:DE):DS:=λE U=>dp U λi p u=>dk U λk=>fGet u k λx=>de U λy=>fII f x y λz=>fPut u k z λu2=>mutS U i p u2 E.nx
theorem zra{f:Int->Int->Int}(hp:RfP K ta dp)(hk:RfE K ti dk)(he:RfE K te de):RfS K (zfb1 ta ti te (zx61 K) (ipI f) zg51) (zfq f dp dk de):=by
 walk_at"5";refine hp r.fh r.rv h λi p u hu v F1 H1 e1 at1=>?_;have r1:=r.grow e1;refine hk r1.fh r1.rv hu λkd hkd kv F2 H2 e2 i2=>?_;have r2:=r1.grow e2;have at2:=at1.mono e2.h;obtain⟨fn,hr⟩:=at2.rt r2.rv;refine zm11 r2.fh hr i2 hkd λx xv hx ix=>he r2.fh r2.rv hx λy hy yv F3 H3 e3 i3=>?_;unfold fII at hy;split at hy
 ·cases ix.int_inv;cases i3.int_inv;refine⟨_,_,rfl,rfl,?_⟩;exact za41 (r2.grow e3) (at2.mono e3.h) (i2.mono e3.f) (.int _) hy λU2 fps2 H4 r4 n4=>k.nx r4 n4
 ·exact hy.elim
def dAug(i:Nat)(f:Int->Int->Int)(de:DE):DS:=λE U=>match U[i]? with
|some (.sh x)=>de U λy=>fII f x y λz=>E.nx (U.set i (.sh z))
|_=>False
theorem zhl{f:Int->Int->Int}(he:RfE K te de):RfS K (tAug i te (ipI f)) (dAug i f de):=by
 walk_at"5";unfold dAug at h;split at h
 ·rename_i x q
  obtain⟨v,e0,i0⟩:=r.sh i _ q;refine⟨_,zya (F:=F) (H:=H) (U:=U) e0,he r.fh r.rv h λd hd v2 F1 H1 e1 i1=>?_⟩;unfold fII at hd;split at hd
  ·cases i0.int_inv;cases i1.int_inv;exact⟨_,_,rfl,rfl,k.nx ((r.grow e1).setS (.int _)) hd⟩
  ·exact hd.elim
 ·exact h.elim
def nGet(dp:DP)(dk:DE):DE:=λU Q=>dp U λ_ _ u=>dk U λk=>fGet u k Q
theorem zxp(hp:RfP K ta dp)(hk:RfE K ti dk):RfE K (tOp (rIxV w K) ta ti) (nGet dp dk):=by
 walk_at"1";refine hp s rv h λi p u hu v F1 H1 e1 at1=>hk e1.fh (rv.ext e1) hu λkd hkd kv F2 H2 e2 i2=>?_;have e12:=e1.trans e2;obtain⟨fn,hr⟩:=(at1.mono e2.h).rt (rv.ext e12);rcases zm11 (Q:=Q) e12.fh hr i2 hkd λd y qd iy=>k d qd y F2 H2 e12 iy with⟨a,xs,j,y,rfl,rfl,j0,h1,h2,q⟩|q
 ·exact .inl (.inl (.inl ⟨a,xs,j,y,rfl,rfl,h1,at_nat' j0 h2,q⟩))
 ·exact .inr q
theorem zkn{F H:Hp}{p:aE}(s:Same F H)(hn:H p=none):Ext F H F (upd H p o) :=
 ⟨zw1 hn _,λ_ _ z=>z,λb o z=>zw1 hn _ b o (s b o z),λ_ _ z=>z⟩
def fHas(neg:Bool)(u:T)(k:D)(Q:D->Prop):Prop:=match u with
|.dk kvs=>∃key,keyD k=some key/\Q (.bool (if neg then !(getA kvs key).isSome else(getA kvs key).isSome))
|.dt kvs=>∃key,keyT k=some key/\Q (.bool (if neg then !(getA kvs key).isSome else(getA kvs key).isSome))
|_=>False
def nIn(neg:Bool)(dk:DE)(dp:DP):DE:=λU Q=>dk U λk=>dp U λ_ _ u=>fHas neg u k Q
theorem zp41{F H:Hp}{v:V}{u:T}{k:D}{Qd:D->Prop}(s:Same F H)(hr:Rt K F H v u fn)(hk:Is K F kv k)(hf:fHas neg u k Qd):∃a o,v=.ref a/\DGet H a kv o/\Qd (.bool (if neg then !o.isSome else o.isSome)):=by
 cases hr with
|dk h1 h2 h3 =>
  obtain⟨key,ek,q⟩:=hf;have:=zuk hk ek;subst this;rcases h3.get (k:=key)with⟨g1,g2⟩|⟨d',y,g1,g2,g3⟩
  ·rw[g1]at q;exact⟨_,none,rfl,by rw[<- g2];exact DGet.k h1,q⟩
  ·rw[g1]at q;exact⟨_,some y,rfl,by rw[<- g2];exact DGet.k h1,q⟩
|fz _=>exact hf.elim
|li _ _ _=>exact hf.elim
|ls _ _ _=>exact hf.elim
|ob _ _ _ _ _=>exact hf.elim
|tp _ _ _=>exact hf.elim
|dt h1 h2 h3 =>
  obtain⟨key,ek,q⟩:=hf;obtain⟨kb,rfl,hb⟩:=zrm hk ek;rcases h3.get (k:=key)with⟨g1,g2⟩|⟨d',y,g1,g2,g3⟩
  ·rw[g1]at q;exact⟨_,none,rfl,by rw[<- g2];exact DGet.t h1 (s _ _ hb),q⟩
  ·rw[g1]at q;exact⟨_,some y,rfl,by rw[<- g2];exact DGet.t h1 (s _ _ hb),q⟩
theorem zr51(hk:RfE K ti dk)(hp:RfP K ta dp):RfE K (tOp (rInV w K) ti ta) (nIn false dk dp):=by
 walk_at"1";refine hk s rv h λkd hkd kv F1 H1 e1 i1=>hp e1.fh (rv.ext e1) hkd λi p u hu v F2 H2 e2 at2=>?_;have e12:=e1.trans e2;obtain⟨fn,hr⟩:=at2.rt (rv.ext e12);obtain⟨a,o,rfl,g,q⟩:=zp41 e12.fh hr (i1.mono e2.f) hu;exact .inr ⟨a,o,rfl,g,k _ q _ F2 H2 e12 (.bl _)⟩
theorem zbt(hk:RfE K ti dk)(hp:RfP K ta dp):RfE K (tOp (zro w K) ti ta) (nIn true dk dp):=by
 walk_at"1";refine hk s rv h λkd hkd kv F1 H1 e1 i1=>hp e1.fh (rv.ext e1) hkd λi p u hu v F2 H2 e2 at2=>?_;have e12:=e1.trans e2;obtain⟨fn,hr⟩:=at2.rt (rv.ext e12);obtain⟨a,o,rfl,g,q⟩:=zp41 e12.fh hr (i1.mono e2.f) hu;exact .inr ⟨a,o,rfl,g,k _ q _ F2 H2 e12 (.bl _)⟩
abbrev DN:=DSt->(T->Prop)->Prop
def RfN(K:Fg)(te:TE)(dn:DN):Prop:=∀{F H:Hp}{Y:_2.St}{U:DSt}{Qd:T->Prop}{Q:VK},Same F H->RV K F H Y U->dn U Qd->(∀r,Qd r->∀v F' H' fp,Ext F H F' H'->Rt K F' H' v r fp->fp.Nodup->(∀a∈fp,H a=none)->Q v H')->te Y H Q
def nF(df:DF):DN:=λU Q=>df U λds=>Q (.li ds)
theorem RfF.new(h:RfF K te df):RfN K te (nF df):=λs r d k=>h s r d λds q a xs F' H' e hn h1 h2 h3=>k _ q (.ref a) F' H' [a] e (.li h1 h2 h3) (by simp) λb hb=>by simp at hb;subst hb;exact hn
def cN(dn:DN):DC:=λU Q=>dn U λr=>Q r U
theorem RfN.c{dn:DN}(h:RfN K te dn):RfC K te (cN dn):=by
 walk_at"15";refine h r.fh r.rv hd λr2 q v F1 H1 fp e1 hr nd fr=>k _ _ q v F1 H1 fps fp ⟨r.grow e1,hr,nd,λa ha=>?_,λj s ej hs b hb hb2=>?_⟩
 ·by_cases z:B.H0 a=none
  ·exact z
  ·exact aJ (fr a ha) (r.al a z)
 ·obtain⟨x,t,a1,a2,a3,a4,a5⟩:=r.rt j s ej hs;exact(a3.dom b hb).1 (fr b hb2)
theorem RtAll.app{F H:Hp}:∀{xs ys:List V}{ts us:List T}{fp fq:List aE},RtAll K F H xs ts fp->RtAll K F H ys us fq->RtAll K F H (xs++ys) (ts++us) (fp++fq)
|_,_,_,_,_,_,.nil,h=>h
|_,_,_,_,_,_,.cons h r,h'=>by rw[wC];exact .cons h (r.app h')
def zoa1(di:DF)(n:Nat)(ix:List Nat)(dg:DG)(dn:DN):DN:=λU Q=>di U λitems=>items.length<=sizeLine/\∃R:Nat->T->Prop,
 (∀i d,items[i]?=some d->dg d (cST n ix U) λU'=>dn U' λr=>R i r)/\∀rs:List T,rs.length=items.length->(∀(j:Nat) r,rs[j]?=some r->R j r)->Q (.ls rs)
theorem zhu{wi:TI}{di:DF}{dn:DN}(hi:RfJ K wi di)(hg:RfG K n g dg)(he:RfN K te dn):RfN K (zj51 wi n ix g zf71 te) (zoa1 di n ix dg dn):=by
 walk_at"3";refine hi s rv hd λitems hx J F1 H1 e1 wj D hD=>?_;obtain⟨hz,R,hR,hQ⟩:=hx;have rv1:=zc41 n ix (rv.ext e1);have F1D:F1 D=none:=by
  cases q:F1 D with
 |none=>rfl
 |some o=>rw[e1.fh D o q]at hD;cases hD
 refine⟨λi m acc Y' H'=>m=items.length - i/\i<=items.length/\Y'.length=(compY n ix Y).length/\(∀j,n<=j->Y'.getD j none=(compY n ix Y).getD j none)/\∃(F':Hp)(rs:List T)(fpA:List aE),Ext F1 H1 F' H'/\F' D=none/\H' D=some (.lst acc)/\rs.length=i/\(∀(j:Nat) r,rs[j]?=some r->R j r)/\RtAll K F' H' acc rs fpA/\fpA.Nodup/\(∀a∈fpA,H1 a=none/\a≠D),
  ⟨items.length,rfl,wX _,rfl,λ_ _=>rfl,F1,[],[],?_,F1D,zt0,rfl,λj o e=>by simp at e,.nil,.nil,λa ha=>by simp at ha⟩,?_⟩
 ·exact(zo8 (xs:=[]) e1.fh hD).1
 rintro i m acc Y' H' ⟨rfl,hi',hl,hk,F',rs,fpA,ex,fD,hDD,hrs,hRs,hall,ndA,frA⟩;obtain⟨go,stop,yld⟩:=wj F' H' ex;by_cases hlt:i < items.length
 ·refine .inr ⟨go i hlt,λacc' Y2 H2=>i+1<=items.length/\Y2.length=(compY n ix Y).length/\(∀j,n<=j->Y2.getD j none=(compY n ix Y).getD j none)/\∃(F':Hp)(rs:List T)(fpA:List aE),Ext F1 H1 F' H2/\F' D=none/\H2 D=some (.lst acc')/\rs.length=i+1/\(∀(j:Nat) r,rs[j]?=some r->R j r)/\RtAll K F' H2 acc' rs fpA/\fpA.Nodup/\(∀a∈fpA,H1 a=none/\a≠D),λacc' Y2 H2 p=>⟨items.length - (i+1),by lia,rfl,p⟩,λx H2 y=>?_⟩;have hit:items[i]?=some items[i]:=u6 hlt;obtain⟨F2,ex2,ix2⟩:=yld i x H2 _ hit y;have rv2:RV K F2 H2 Y' (cST n ix U):=RV.caps (rv1.ext (ex.trans ex2)) hl hk;refine hg ex2.fh ix2 (hR i _ hit) λY2 U2 hd2 u2=>?_;have rv3:=u2.rv rv2;have kp:=u2.keep;have hl2:Y2.length=(compY n ix Y).length:=by rw[kp.1,hl]
  have hk2:∀j,n<=j->Y2.getD j none=(compY n ix Y).getD j none:=λj hj=>by rw[kp.2 j hj,hk j hj]
  show te Y2 H2 _;refine he ex2.fh rv3 hd2 λr hr v F5 H5 fp e5 i5 nd5 fr5=>?_;have e25:=ex2.trans e5;have hD2:H2 D=some (.lst acc):=ex2.h _ _ hDD;have hD5:H5 D=some (.lst acc):=e25.h _ _ hDD;have fD5:F5 D=none:=e25.nw D (by rw[hDD];simp) fD;have hlen:acc.length<=i:=by rw[hall.len,hrs];exact u7 _
  have e15:=ex.trans e25;have hall5:RtAll K F5 H5 acc rs fpA:=hall.frame e25.f λa ha=>by
   obtain⟨d1,d2⟩:=hall.dom a ha;cases q:H' a with
  |none=>exact aJ q d1
  |some o=>exact⟨e25.h a o q,e25.nw a d1 d2⟩
  have frN:∀a∈fp,H1 a=none/\a≠D:=λa ha=>⟨zb3 (ex.trans ex2) (fr5 a ha),λz=>by subst z;rw[fr5 a ha]at hD2;cases hD2⟩
  refine⟨hD5,by lia,hlt,hl2,hk2,F5,rs++[r],fpA++fp,⟨λb o hb=>?_,e15.f,λb o hb=>?_,e15.nw⟩,fD5,zt0,by simp[hrs],λj r' e=>?_,?_,?_,λa ha=>?_⟩
  ·have:b≠D:=λz=>by subst z;rw[hD]at hb;cases hb
   rw[ze1 this];exact e15.h b o hb
  ·have:b≠D:=λz=>by subst z;rw[fD5]at hb;cases hb
   rw[ze1 this];exact e15.fh b o hb
  ·rcases j6 j rs.length with h|h|h
   ·rw[wO h]at e;exact hRs j r' e
   ·subst h;rw[wL (u7 _)]at e;simp at e;subst e;rw[hrs];exact hr
   ·rw[wL (yH h)]at e;cases q:j - rs.length with
   |zero=>lia
   |succ z=>rw[q]at e;simp at e
  ·have z1:RtAll K F5 (upd H5 D (.lst (acc++[v]))) acc rs fpA:=hall5.frame (λ_ _ z=>z) λa ha=>⟨ze1 (frA a ha).2,(hall5.dom a ha).2⟩
   have z2:Rt K F5 (upd H5 D (.lst (acc++[v]))) v r fp:=i5.frame (λ_ _ z=>z) λa ha=>⟨ze1 (frN a ha).2,(i5.dom a ha).2⟩
   have:=z1.app (RtAll.cons z2 .nil)
   rwa [wN]at this
  ·refine wM.mpr ⟨ndA,nd5,λa ha b hb z=>?_⟩;subst z;have:=(hall.dom a ha).1;exact this (zb3 ex2 (fr5 a hb))
  ·rcases vS.mp ha with z|z
   ·exact frA a z
   ·exact frN a z
 ·have e:i=items.length:=by lia
  refine .inl ⟨by rw[e];exact stop,k _ (hQ rs (by lia) hRs) (.ref D) F' H' (D :: fpA) (e1.trans ex) (.ls hDD fD hall) (v7.mpr ⟨λz=>(frA D z).2 rfl,ndA⟩) λa ha=>?_⟩;rcases vW.mp ha with z|z
  ·rw[z];exact zb3 e1 hD
  ·exact zb3 e1 (frA a z).1
def nSet(f:Str)(u r:T)(N:T->Prop):Prop:=match u with
|.ob C fs=>fs.length < 1000/\N (.ob C (putA f r fs))
|_=>False
theorem Res.grow{B:Bs}{F H F' H':Hp}{Y:_2.St}{U:DSt}{fps:Nat->List aE}{v:V}{r:T}{fpr:List aE}(h:Res K B F H Y U fps v r fpr)(e:Ext F H F' H'):Res K B F' H' Y U fps v r fpr :=
 ⟨h.rs.grow e,h.rt.ext e,h.nd,h.fr,h.dj⟩
theorem zu71{B:Bs}{F H:Hp}{r:T}{p:Pth}{fs:List (Str×V)}{ts:List (Str×T)}  
  (res:Res K B F H Y U fps y r fpr) (ha:AtS H Y U i p (.ref a) (.ob C ts)) (hH:H a=some (.ins C dx fs)) (hm:mutS U i p (.ob C (putA f r ts)) N):∃U2 fps2,RS K B F (upd H a (.ins C dx (putF f y fs))) Y U2 fps2/\N U2:=by
 obtain⟨fn,hr,nd,sub,back⟩:=res.rs.mut ha hm;obtain⟨s,hs,ho⟩:∃s,U[i]?=some s/\s.own=true:=by
  unfold mutS at hm;split at hm
  ·rename_i t q;exact⟨_,q,rfl⟩
  ·rename_i a t q;exact⟨_,q,rfl⟩
  ·exact hm.elim
 have dis:∀b∈fn,b ∉ fpr:=λb hb=>res.dj i s hs (zh7 ho) b (sub b hb);cases hr with
|ob g1 g2 g3 g4 g5 =>
  rename_i dx' fs' fp
  rw[hH]at g1;cases g1;have nd1:=v7.mp nd;have nd2:=v7.mp nd1.2;have na:a ∉ fp:=λz=>nd1.1 (wB _ z);have nx:dx≠a:=λz=>nd1.1 (by rw[z];simp);have nxf:dx ∉ fp:=nd2.1;have dp':∀b∈fp,b ∉ fpr:=λb hb=>dis b (by simp[hb]);have ra:a ∉ fpr:=dis a (by simp);have rx:dx ∉ fpr:=dis dx (by simp);have hy:Rt K F (upd H a (.ins C dx (putF f y fs))) y r fpr:=res.rt.frame (λ_ _ z=>z) λb hb=>⟨ze1 λz=>by subst z;exact ra hb,(res.rt.dom b hb).2⟩
  have fr0:∀b∈fp,upd H a (.ins C dx (putF f y fs)) b=H b/\F b=none:=λb hb=>⟨ze1 λz=>by subst z;exact na hb,(g5.dom b hb).2⟩
  obtain⟨fq,hq,ndq,mq⟩:∃fq,RtFs K F (upd H a (.ins C dx (putF f y fs))) (putF f y fs) (putA f r ts) fq/\fq.Nodup/\∀b∈fq,b∈fp \/ b∈fpr:=by
   cases q:ts.lookup f with
  |none =>
    refine⟨fp++fpr,RtFs.add (λ_ _ z=>z) hy g5 q fr0,wM.mpr ⟨nd2.2,res.nd,λb hb c hc z=>?_⟩,λb hb=>vS.mp hb⟩;subst z;exact dp' b hb hc
  |some t0 =>
    obtain⟨x0,ex⟩:=(g5.keys f).2.1 t0 q;obtain⟨fA,fj,fB,e,hj,_,rep⟩:=g5.split ex q;subst e;obtain⟨ndA,ndJB,djA⟩:=wM.mp nd2.2;obtain⟨ndj,ndB,djB⟩:=wM.mp ndJB;refine⟨fA++(fpr++fB),rep (λ_ _ z=>z) (λb hb=>fr0 b (by rcases vS.mp hb with z|z <;> simp[z])) hy,wM.mpr ⟨ndA,wM.mpr ⟨res.nd,ndB,λb hb c hc z=>?_⟩,λb hb c hc z=>?_⟩,λb hb=>?_⟩
    ·subst z;exact dp' b (by simp[hc]) hb
    ·subst z;rcases vS.mp hc with z|z
     ·exact dp' b (by simp[hb]) z
     ·exact djA b hb b (by simp[z]) rfl
    ·rcases vS.mp hb with z|z
     ·exact .inl (by simp[z])
     ·rcases vS.mp z with z|z
      ·exact .inr z
      ·exact .inl (by simp[z])
  obtain⟨U2,fps2,r2,n2,_⟩:=back (F2:=F) (H2:=upd H a (.ins C dx (putF f y fs))) (fq:=a :: dx :: fq) (λb o hb hbo=>by rw[ze1 (λz=>hb (by simp[z]))];exact hbo) (λ_ _ z=>z) (λb o z=>by
    have:b≠a:=λq=>by subst q;rw[g3]at z;cases z
    rw[ze1 this];exact res.rs.fh b o z) (λb _ fb _=>fb) (λb hb=>by
    by_cases z:b=a
    ·rw[z,zt0];simp
    ·rw[ze1 z];exact hb) (λb hb hf=>by
    have:F b=none:=by
     rcases vW.mp hb with z|z
     ·rw[z];exact g3
     ·rcases vW.mp z with z|z
      ·rw[z];exact g4
      ·exact(g5.dom b z).2
    exact aJ this hf) (.ob zt0 (by rw[ze1 nx];exact g2) g3 g4 hq) (v7.mpr ⟨λz=>by
    rcases vW.mp z with y|y
    ·exact nx y.symm
    ·rcases mq a y with y|y
     ·exact na y
     ·exact ra y,v7.mpr ⟨λz=>by
    rcases mq dx z with y|y
    ·exact nxf y
    ·exact rx y,ndq⟩⟩) (λb hb=>by
    rcases vW.mp hb with z|z
    ·exact .inl (by simp[z])
    ·rcases vW.mp z with z|z
     ·exact .inl (by simp[z])
     ·rcases mq b z with z|z
      ·exact .inl (by simp[z])
      ·exact .inr ⟨res.fr b z,λj s' ej hs' hbj=>res.dj j s' ej hs' b hbj z⟩)
  exact⟨U2,fps2,r2,n2⟩
def dFld(C:aE)(f:Str)(dc:DC)(dp:DP):DS:=λE U=>dc U λr U1=>dp U1 λi p u=>nCls C u/\nSet f u r λu2=>mutS U1 i p u2 E.nx
theorem zkf(c:Cls K C)(na:NoAttr K C f)(hc:RfC K tv dc)(hp:RfP K ta dp):RfS K (sFld K ta tv f) (dFld C f dc dp):=by
 walk_at"5";refine hc r h λr2 U1 q y F1 H1 fps1 fpr res=>hp res.rs.fh res.rs.rv q λi p u hu v F2 H2 e2 at2=>?_;have res2:=res.grow e2;obtain⟨fn,hr⟩:=at2.rt res2.rs.rv;cases hr with
|ob g1 g2 g3 g4 g5 =>
  obtain⟨hcl,hl,hm⟩:=hu;cases (show _=C from hcl);have len:=(g5.keys f).2.2;obtain⟨U2,fps2,r3,n3⟩:=zu71 res2 at2 g1 hm;exact⟨_,_,_,_,rfl,g1,c,na,by lia,k.nx r3 n3⟩
|fz _=>exact hu.1.elim
|li _ _ _=>exact hu.1.elim
|ls _ _ _=>exact hu.1.elim
|dk _ _ _=>exact hu.1.elim
|dt _ _ _=>exact hu.1.elim
|tp _ _ _=>exact hu.1.elim
def zey:List T->Option (List (List D))
|[]=>some []
|.li ds :: r=>(zey r).map (ds :: ·)
|_ :: _=>none
def toD:T->Option D
|.fz d=>some d
|.li ds=>some (.list ds)
|.ls ts=>(zey ts).map λdss=>.list (dss.map yX)
|_=>none
theorem zrs{F H:Hp}(s:Same F H):∀{xs:List V}{ts:List T}{fp:List aE}{dss:List (List D)},RtAll K F H xs ts fp->zey ts=some dss->fp.Nodup->∃F2,Same F F2/\Same F2 H/\(∀b,b ∉ fp->F2 b=F b)/\IsAll K F2 xs (dss.map yX)
|_,_,_,_,.nil,e,_=>by cases e;exact⟨F,λ_ _ z=>z,s,λ_ _=>rfl,.nil⟩
|_,_,_,_,.cons (fp:=fp) (fq:=fq) h r,e,nd=>by
  cases h with
 |li h1 h2 h3 =>
   rename_i a xs0 ds0
   unfold zey at e;obtain⟨dss',e1,rfl⟩:=wQ.mp e;have nd':=v7.mp nd;obtain⟨F1,s1,s2,s3,s4⟩:=zrs s r e1 nd'.2;have fa:F1 a=none:=by rw[s3 a nd'.1];exact h2
   have sn:Same F1 (upd F1 a (.lst xs0)):=zw1 fa _;refine⟨upd F1 a (.lst xs0),s1.trans sn,λb o z=>?_,λb hb=>?_,.cons (.lst (SqL.of zt0) (h3.mono (s1.trans sn))) (s4.mono sn)⟩
   ·by_cases q:b=a
    ·subst q;rw[zt0]at z;cases z;exact h1
    ·rw[ze1 q]at z;exact s2 b o z
   ·have hb1:b≠a:=λz=>hb (by simp[z]);rw[ze1 hb1];exact s3 b λz=>hb (by simp[z])
 |_=>cases e
theorem zcb1{F H:Hp}(s:Same F H){v:V}{t:T}{d:D}(h:Rt K F H v t fp)(e:toD t=some d)(nd:fp.Nodup):∃F2,Same F F2/\Same F2 H/\(∀b,b ∉ fp->F2 b=F b)/\Is K F2 v d:=by
 cases h with
|fz i=>cases e;exact⟨F,λ_ _ z=>z,s,λ_ _=>rfl,i⟩
|li h1 h2 h3 =>
  cases e
  rename_i a xs ds
  have sn:=zw1 (H:=F) h2 (.lst xs);refine⟨_,sn,λb o z=>?_,λb hb=>ze1 λq=>hb (by simp[q]),.lst (SqL.of zt0) (h3.mono sn)⟩;by_cases q:b=a
  ·subst q;rw[zt0]at z;cases z;exact h1
  ·rw[ze1 q]at z;exact s b o z
|ls h1 h2 h3 =>
  rename_i a xs ts fp
  unfold toD at e;obtain⟨dss,e1,rfl⟩:=wQ.mp e;have nd':=v7.mp nd;obtain⟨F1,s1,s2,s3,s4⟩:=zrs s h3 e1 nd'.2;have fa:F1 a=none:=by rw[s3 a nd'.1];exact h2
  have sn:Same F1 (upd F1 a (.lst xs)):=zw1 fa _;refine⟨upd F1 a (.lst xs),s1.trans sn,λb o z=>?_,λb hb=>?_,.lst (SqL.of zt0) (s4.mono sn)⟩
  ·by_cases q:b=a
   ·subst q;rw[zt0]at z;cases z;exact h1
   ·rw[ze1 q]at z;exact s2 b o z
  ·have hb1:b≠a:=λz=>hb (by simp[z]);rw[ze1 hb1];exact s3 b λz=>hb (by simp[z])
|ob _ _ _ _ _=>cases e
|dk _ _ _=>cases e
|dt _ _ _=>cases e
|tp _ _ _=>cases e
def getP:T->Pth->Option T
|t,[]=>some t
|.ls ts,.ix j :: p=>(ts[j]?).bind λt=>getP t p
|.tp ts,.ix j :: p=>(ts[j]?).bind λt=>getP t p
|.ob _ fs,.fl f :: p=>(fs.lookup f).bind λt=>getP t p
|_,_=>none
theorem zo81{F H:Hp}{p:Pth}:∀{x:V}{t u:T}{fp:List aE},Rt K F H x t fp->getP t p=some u->∃v,At H x t p v u:=by
 induction p with
|nil=>intro x t u fp _ e;unfold getP at e;cases e;exact⟨x,.nil⟩
|cons q p ih =>
  intro x t u fp h e;cases h with
 |ls h1 h2 h3 =>
   cases q with
  |ix j =>
    unfold getP at e;obtain⟨t1,e1,e2⟩:=uaA.mp e
    rename_i xs ts fp'
    have el:=h3.len;have hj:j < ts.length:=by
     rcases wT j ts.length with y|y
     ·exact y
     ·rw[wA y]at e1;cases e1
    obtain⟨y,hy⟩:∃y,xs[j]?=some y:=⟨xs[j]'(by lia),u6 _⟩
    obtain⟨fA,fj,fB,_,hr,_⟩:=h3.split hy e1;obtain⟨v,hv⟩:=ih hr e2;exact⟨v,.ix h1 hy e1 hv⟩
  |fl f=>cases e
 |tp h1 h2 h3 =>
   cases q with
  |ix j =>
    unfold getP at e;obtain⟨t1,e1,e2⟩:=uaA.mp e
    rename_i xs ts fp'
    have el:=h3.len;have hj:j < ts.length:=by
     rcases wT j ts.length with y|y
     ·exact y
     ·rw[wA y]at e1;cases e1
    obtain⟨y,hy⟩:∃y,xs[j]?=some y:=⟨xs[j]'(by lia),u6 _⟩
    obtain⟨fA,fj,fB,_,hr,_⟩:=h3.split hy e1;obtain⟨v,hv⟩:=ih hr e2;exact⟨v,.tx h1 hy e1 hv⟩
  |fl f=>cases e
 |ob h1 h2 h3 h4 h5 =>
   cases q with
  |fl f =>
    unfold getP at e;obtain⟨t1,e1,e2⟩:=uaA.mp e;obtain⟨y,hy⟩:=(h5.keys f).2.1 t1 e1;obtain⟨fA,fj,fB,_,hr,_⟩:=h5.split hy e1;obtain⟨v,hv⟩:=ih hr e2;exact⟨v,.fl h1 hy e1 hv⟩
  |ix j=>cases e
 |fz _=>cases q <;> cases e
 |li _ _ _=>cases q <;> cases e
 |dk _ _ _=>cases q <;> cases e
 |dt _ _ _=>cases q <;> cases e
def fzS(U:DSt)(i:Nat)(p:Pth)(N:DSt->Prop):Prop:=match U[i]? with
|some (.ow t)=>∃u d,getP t p=some u/\toD u=some d/\N (U.set i (slot (setP t p (.fz d))))
|some (.sh _)=>N U
|_=>False
def dFrz(i:Nat)(p:Pth)(d:DS):DS:=λE U=>fzS U i p λU'=>d E U'
theorem RS.frz{B:Bs}{F H:Hp}{Y:_2.St}{U:DSt}{fps:Nat->List aE}{i:Nat}{p:Pth}{N:DSt->Prop}(r:RS K B F H Y U fps)(h:fzS U i p N):∃F2 U2 fps2,RS K B F2 H Y U2 fps2/\N U2:=by
 unfold fzS at h;split at h
 ·rename_i t q
  obtain⟨u,d,eg,ed,hN⟩:=h;obtain⟨x,t',a1,a2,a3,a4,a5⟩:=r.rt i _ q rfl;cases a2;obtain⟨v,hv⟩:=zo81 a3 eg;obtain⟨fn,t1,h1,h2,h3,h4,back⟩:=r.put q rfl ⟨_,_,x,q,rfl,a1,hv⟩;cases h1;obtain⟨F2,s1,s2,s3,s4⟩:=zcb1 r.fh h2 ed h3;obtain⟨fps2,r2,_⟩:=back (F2:=F2) (H2:=H) (fq:=[]) (λ_ _ _ z=>z) s1 s2 (λb _ fb hb=>by rw[s3 b hb];exact fb) (λ_ z=>z) (λb hb _=>(r.fr i _ q rfl b (h4 b hb)).elim id λz=>aJ rfl (z.2 t)) (.fz s4) .nil (λb hb=>by simp at hb);have hw:(Sl.ow t).wth (setP t p (.fz d))=.ow (setP t p (.fz d)):=rfl;rw[hw]at r2
  -- a slot whose whole is frozen becomes a plain one
  cases hs:setP t p (.fz d)with
 |fz d' =>
   rw[hs]at r2 hN;obtain⟨x',t'',b1,b2,b3,b4,b5⟩:=r2.rt i _ (xC (by
    rcases wT i U.length with z|z
    ·exact z
    ·rw[wA z]at q;cases q)) rfl
   cases b2;obtain⟨d2,hd2,hi⟩:=za01 (Q:=λz=>z=d') b3 rfl;subst hd2
   ·have r3:=r2.setS (i:=i) hi;rw[List.set_set]at r3;have eY:Y.set i (some x')=Y:=by
     apply xZ;intro j;rw[xQ];by_cases hij:i=j
     ·subst hij;have hlt:i < Y.length:=by
       rw[r.len];rcases wT i U.length with z|z
       ·exact z
       ·rw[wA z]at q;cases q
      simp[hlt];have:=zya (F:=F) (H:=H) (U:=U) b1;rw[u6 hlt]at this;exact(wV.inj this).symm
     ·simp[hij]
    rw[eY]at r3;exact⟨F2,_,fps2,r3,hN⟩
 |li _=>rw[hs]at r2 hN;exact⟨F2,_,fps2,r2,hN⟩
 |ls _=>rw[hs]at r2 hN;exact⟨F2,_,fps2,r2,hN⟩
 |ob _ _=>rw[hs]at r2 hN;exact⟨F2,_,fps2,r2,hN⟩
 |dk _=>rw[hs]at r2 hN;exact⟨F2,_,fps2,r2,hN⟩
 |dt _=>rw[hs]at r2 hN;exact⟨F2,_,fps2,r2,hN⟩
 |tp _=>rw[hs]at r2 hN;exact⟨F2,_,fps2,r2,hN⟩
 ·exact⟨F,U,fps,r,h⟩
 ·exact h.elim
theorem zgb(i:Nat)(p:Pth)(h:RfS K t d):RfS K t (dFrz i p d):=by
 intro B F H Y U fps E Z r hd k;obtain⟨F2,U2,fps2,r2,h2⟩:=r.frz hd;exact h r2 h2 k
end
set_option genInjectivity true in
inductive Arg where
|d (d:D)|b (t:T)|o (t:T)
inductive ArgP where
|d (d:D)|b (i:Nat) (p:Pth) (t:T)|o (i:Nat) (p:Pth) (t:T)
def ArgP.arg:ArgP->Arg
|.d x=>.d x
|.b _ _ x=>.b x
|.o _ _ x=>.o x
inductive ArgsR(K:Fg)(F H:Hp):List V->List Arg->List aE->Option (aE×List aE)->Prop
|nil:ArgsR K F H [] [] [] none
|d {v:V} {d:D} {vs:List V} {as:List Arg} {bf:List aE} {oo:Option (aE×List aE)}:Is K F v d->ArgsR K F H vs as bf oo->ArgsR K F H (v :: vs) (.d d :: as) bf oo
|b {v:V} {t:T} {fp:List aE} {vs:List V} {as:List Arg} {bf:List aE} {oo:Option (aE×List aE)}:Rt K F H v t fp->fp.Nodup->ArgsR K F H vs as bf oo->ArgsR K F H (v :: vs) (.b t :: as) (fp++bf) oo
|o {a:aE} {t:T} {fp:List aE} {vs:List V} {as:List Arg} {bf:List aE}:Rt K F H (.ref a) t fp->fp.Nodup->ArgsR K F H vs as bf none->ArgsR K F H (.ref a :: vs) (.o t :: as) bf (some (a,fp))
def ofp:Option (aE×List aE)->List aE
|none=>[]
|some x=>x.2
structure Post(K:Fg)(F H:Hp)(oo:Option (aE×List aE))(F' H':Hp)(v:V)(r:T)(fpr:List aE)(t':T)(fpo:List aE):Prop where
 hh:∀b o,b ∉ ofp oo->H b=some o->H' b=some o
 ff:Same F F'
 fh:Same F' H'
 nw:∀b,H b≠none->F b=none->F' b=none
 al:∀b,H b≠none->H' b≠none
 rt:Rt K F' H' v r fpr
 nd:fpr.Nodup
 fr:∀a∈fpr,H a=none
 io:∀a fp,oo=some (a,fp)->Rt K F' H' (.ref a) t' fpo/\fpo.Nodup/\(∀b∈fpo,b∈fp \/ H b=none)/\∀b∈fpo,b ∉ fpr
abbrev DSpT:=List Arg->(T->T->Prop)->Prop
def spT(K:Fg)(p:DSpT):Sp:=λvs H Q _=>∃F as bf oo Qd,Same F H/\ArgsR K F H vs as bf oo/\(∀b∈ofp oo,b ∉ bf)/\p as Qd/\∀r t',Qd r t'->∀v F' H' fpr fpo,Post K F H oo F' H' v r fpr t' fpo->Q v H'
section
variable {K:Fg}{te ta ti tv:TE}{de da di dk:DE}{dc:DC}{tt:TT}{dt:DT}{t u tb:TS}{d e db:DS}{tA:TA}{dA:DF}{g:TG}{dg:DG}{n:Nat}{dp:DP}{w:aQ}
inductive ArgsP(K:Fg)(F H:Hp)(Y:_2.St)(U:DSt):List V->List ArgP->Prop
|nil:ArgsP K F H Y U [] []
|d {v:V} {d:D} {vs:List V} {as:List ArgP}:Is K F v d->ArgsP K F H Y U vs as->ArgsP K F H Y U (v :: vs) (.d d :: as)
|b {v:V} {i:Nat} {p:Pth} {t:T} {vs:List V} {as:List ArgP}:AtS H Y U i p v t->ArgsP K F H Y U vs as->ArgsP K F H Y U (v :: vs) (.b i p t :: as)
|o {v:V} {i:Nat} {p:Pth} {t:T} {vs:List V} {as:List ArgP}:AtS H Y U i p v t->ArgsP K F H Y U vs as->ArgsP K F H Y U (v :: vs) (.o i p t :: as)
abbrev DAT:=DSt->(List ArgP->Prop)->Prop
def RfAT(K:Fg)(ta:TA)(da:DAT):Prop:=∀{F H:Hp}{Y:_2.St}{U:DSt}{Qd:List ArgP->Prop}{Q:List V->Hp->Prop},Same F H->RV K F H Y U->da U Qd->(∀as,Qd as->∀vs F' H',Ext F H F' H'->ArgsP K F' H' Y U vs as->Q vs H')->ta Y H Q
variable {dA':DAT}
def aNil:DAT:=λ_ Q=>Q []
def aD(de:DE)(dr:DAT):DAT:=λU Q=>de U λx=>dr U λas=>Q (.d x :: as)
def aB(dp:DP)(dr:DAT):DAT:=λU Q=>dp U λi p t=>dr U λas=>Q (.b i p t :: as)
def aO(dp:DP)(dr:DAT):DAT:=λU Q=>dp U λi p t=>dr U λas=>Q (.o i p t :: as)
theorem zw9:RfAT K tNil aNil:=λs rv h k=>k _ h _ _ _ (Ext.refl s) .nil
theorem at_d(ha:RfE K ta da)(hr:RfAT K tA dA'):RfAT K (zon ta tA) (aD da dA'):=by
 walk_at"1";refine ha s rv h λx hx v F1 H1 e1 i1=>hr e1.fh (rv.ext e1) hx λas has vs F2 H2 e2 i2=>?_;exact k _ has _ F2 H2 (e1.trans e2) (.d (i1.mono e2.f) i2)
theorem at_b(ha:RfP K ta dp)(hr:RfAT K tA dA'):RfAT K (zon ta tA) (aB dp dA'):=by
 walk_at"1";refine ha s rv h λi p t hx v F1 H1 e1 i1=>hr e1.fh (rv.ext e1) hx λas has vs F2 H2 e2 i2=>?_;exact k _ has _ F2 H2 (e1.trans e2) (.b (i1.mono e2.h) i2)
theorem at_o(ha:RfP K ta dp)(hr:RfAT K tA dA'):RfAT K (zon ta tA) (aO dp dA'):=by
 walk_at"1";refine ha s rv h λi p t hx v F1 H1 e1 i1=>hr e1.fh (rv.ext e1) hx λas has vs F2 H2 e2 i2=>?_;exact k _ has _ F2 H2 (e1.trans e2) (.o (i1.mono e2.h) i2)
def noO:List ArgP->Prop
|[]=>True
|.o _ _ _ :: _=>False
|.d _ :: r=>noO r
|.b _ _ _ :: r=>noO r
def noS(i:Nat):List ArgP->Prop
|[]=>True
|.b j _ _ :: r=>j≠i/\noS i r
|.d _ :: r=>noS i r
|.o _ _ _ :: r=>noS i r
def zdq:List ArgP->Option (Nat×Pth×T)
|[]=>none
|.o i p t :: _=>some (i,p,t)
|.d _ :: r=>zdq r
|.b _ _ _ :: r=>zdq r
def oneO(i:Nat):List ArgP->Prop
|[]=>False
|.o _ _ _ :: r=>noO r/\noS i r
|.d _ :: r=>oneO i r
|.b j _ _ :: r=>j≠i/\oneO i r
def zkz(U:DSt)(i:Nat):Prop:=match U[i]? with
|some (.ow _)=>True
|some (.io _ _)=>True
|_=>False
def zvs:T->Prop
|.fz _=>False
|_=>True
theorem zck{F H:Hp}{Y:_2.St}{U:DSt}{fps:Nat->List aE}(rt:∀{i:Nat}{p:Pth}{v:V}{u:T},AtS H Y U i p v u->∃fn,Rt K F H v u fn/\fn.Nodup/\∀a∈fn,a∈fps i/\∃s,U[i]?=some s/\s.has=true):∀{vs:List V}{as:List ArgP},ArgsP K F H Y U vs as->noO as->∃bf,ArgsR K F H vs (as.map ArgP.arg) bf none/\∀i,noS i as->∀b∈bf,∃j,j≠i/\b∈fps j/\∃s,U[j]?=some s/\s.has=true
|_,_,.nil,_=>⟨[],.nil,λi _ b hb=>by simp at hb⟩
|_,_,.d h r,hn=>by
  obtain⟨bf,h1,h2⟩:=zck rt r hn;exact⟨bf,.d h h1,h2⟩
|_,_,.b (i:=i') h r,hn=>by
  obtain⟨bf,h1,h2⟩:=zck rt r hn;obtain⟨fn,g1,g2,g3⟩:=rt h;refine⟨fn++bf,.b g1 g2 h1,λi hi b hb=>?_⟩;rcases vS.mp hb with z|z
  ·exact⟨i',hi.1,(g3 b z).1,(g3 b z).2⟩
  ·exact h2 i hi.2 b z
|_,_,.o h r,hn=>hn.elim
theorem zri{F H:Hp}{Y:_2.St}{U:DSt}{fps:Nat->List aE}(rt:∀{i:Nat}{p:Pth}{v:V}{u:T},AtS H Y U i p v u->∃fn,Rt K F H v u fn/\fn.Nodup/\∀a∈fn,a∈fps i/\∃s,U[i]?=some s/\s.has=true){i:Nat}{p:Pth}{u:T}:∀{vs:List V}{as:List ArgP},ArgsP K F H Y U vs as->zdq as=some (i,p,u)->oneO i as->zvs u ->
  ∃a,AtS H Y U i p (.ref a) u/\∀fn,Rt K F H (.ref a) u fn->fn.Nodup->∃bf,ArgsR K F H vs (as.map ArgP.arg) bf (some (a,fn))/\∀b∈bf,∃j,j≠i/\b∈fps j/\∃s,U[j]?=some s/\s.has=true
|_,_,.nil,e,_,_=>by cases e
|_,_,.d h r,e,hn,hf=>by
  obtain⟨a,h1,h2⟩:=zri rt r e hn hf;refine⟨a,h1,λfn g1 g2=>?_⟩;obtain⟨bf,k1,k2⟩:=h2 fn g1 g2;exact⟨bf,.d h k1,k2⟩
|_,_,.b (i:=i') h r,e,hn,hf=>by
  obtain⟨a,h1,h2⟩:=zri rt r e hn.2 hf;obtain⟨fb,g1,g2,g3⟩:=rt h;refine⟨a,h1,λfn k1 k2=>?_⟩;obtain⟨bf,m1,m2⟩:=h2 fn k1 k2;refine⟨fb++bf,.b g1 g2 m1,λb hb=>?_⟩;rcases vS.mp hb with z|z
  ·exact⟨i',hn.1,(g3 b z).1,(g3 b z).2⟩
  ·exact m2 b z
|_,_,.o h r,e,hn,hf=>by
  cases e;obtain⟨bf,m1,m2⟩:=zck rt r hn.1;obtain⟨fn0,g1,_,_⟩:=rt h;cases g1 with
 |fz _=>exact hf.elim
 |li _ _ _=>exact⟨_,h,λfn k1 k2=>⟨bf,.o k1 k2 m1,m2 i hn.2⟩⟩
 |ls _ _ _=>exact⟨_,h,λfn k1 k2=>⟨bf,.o k1 k2 m1,m2 i hn.2⟩⟩
 |ob _ _ _ _ _=>exact⟨_,h,λfn k1 k2=>⟨bf,.o k1 k2 m1,m2 i hn.2⟩⟩
 |dk _ _ _=>exact⟨_,h,λfn k1 k2=>⟨bf,.o k1 k2 m1,m2 i hn.2⟩⟩
 |dt _ _ _=>exact⟨_,h,λfn k1 k2=>⟨bf,.o k1 k2 m1,m2 i hn.2⟩⟩
 |tp _ _ _=>exact⟨_,h,λfn k1 k2=>⟨bf,.o k1 k2 m1,m2 i hn.2⟩⟩
theorem RS.rtS{B:Bs}{F H:Hp}(r:RS K B F H Y U fps){p:Pth}{v:V}{u:T}(h:AtS H Y U i p v u):∃fn,Rt K F H v u fn/\fn.Nodup/\∀a∈fn,a∈fps i/\∃s,U[i]?=some s/\s.has=true:=by
 obtain⟨s,t,x,h1,h2,h3,h4⟩:=h;by_cases hs:s.has=true
 ·obtain⟨x',t',a1,a2,a3,a4,a5⟩:=r.rt i s h1 hs;rw[h3]at a1;cases a1;rw[h2]at a2;cases a2;obtain⟨fn,g1,g2,g3,_⟩:=zc81 h4 a3 a5;exact⟨fn,g1,g3,λa ha=>⟨g2 a ha,s,h1,hs⟩⟩
 ·cases s with
 |sh d =>
   cases h2;obtain⟨y,b1,b2⟩:=r.sh i d h1;rw[h3]at b1;cases b1;cases h4;exact⟨[],.fz b2,.nil,λa ha=>by simp at ha⟩
 |un=>cases h2
 |ow _=>exact aJ rfl hs
 |bo _=>exact aJ rfl hs
 |io _ _=>exact aJ rfl hs
theorem zfx{p:Pth}{u t0:T}{s:Sl}(hi:U[i]?=some s)(ho:s.own=true)(ht:s.tree=some t0)(h:mutS U i p u N):N (U.set i (s.wth (setP t0 p u))):=by
 unfold mutS at h;rw[hi]at h;cases s with
|ow t=>cases ht;exact h
|io a t=>cases ht;exact h
|un=>cases ho
|sh _=>cases ho
|bo _=>cases ho
def zb11(p:DSpT)(U:DSt)(as:List ArgP)(Q:T->DSt->Prop):Prop:=match zdq as with
|some (i,q,t)=>zkz U i/\oneO i as/\zvs t/\p (as.map ArgP.arg) λr t2=>mutS U i q t2 λU'=>Q r U'
|none=>noO as/\p (as.map ArgP.arg) λr _=>Q r U
theorem zgt{B:Bs}{F H:Hp}{p:DSpT}{as:List ArgP}{Qd:T->DSt->Prop}{Q:VK}(r:RS K B F H Y U fps)(ha:ArgsP K F H Y U vs as)(hc:zb11 p U as Qd)
  (k:∀r U',Qd r U'->∀v F' H' fps' fpr,Res K B F' H' Y U' fps' v r fpr->Q v H'):spT K p vs H Q E:=by
 unfold zb11 at hc;split at hc
 ·rename_i i q t0 eo
  obtain⟨ho,h1,hf,hp⟩:=hc;obtain⟨s,hs,hso⟩:∃s,U[i]?=some s/\s.own=true:=by
   unfold zkz at ho;split at ho
   ·rename_i q;exact⟨_,q,rfl⟩
   ·rename_i q;exact⟨_,q,rfl⟩
   ·exact ho.elim
  obtain⟨a,hat,hargs⟩:=zri (λh=>r.rtS h) ha eo h1 hf;obtain⟨fn,t1,g1,g2,g3,g4,back⟩:=r.put hs hso hat;obtain⟨bf,m1,m2⟩:=hargs fn g2 g3;refine⟨F,_,bf,some (a,fn),_,r.fh,m1,λb hb hbf=>?_,hp,λr2 t2 q2 v F' H' fpr fpo post=>?_⟩
  ·obtain⟨j,hj,hbj,sj,e1,hh⟩:=m2 b hbf;exact r.dj i j s sj (λz=>hj z.symm) hs e1 hso hh b (g4 b hb) hbj
  ·obtain⟨io1,io2,io3,io4⟩:=post.io a fn rfl;obtain⟨fps2,r2',e2,e3⟩:=back (F2:=F') (H2:=H') (u2:=t2) (fq:=fpo) post.hh post.ff post.fh (λb hb fb _=>post.nw b hb fb) post.al (λb hb f=>aJ (post.nw b (g2.dom b hb).1 (g2.dom b hb).2) f) io1 io2 (λb hb=>(io3 b hb).elim .inl λz=>.inr (r.newOk z));have qd:=zfx hs hso g1 q2;refine k _ _ qd v F' H' fps2 fpr ⟨r2',post.rt,post.nd,λb hb=>(r.newOk (post.fr b hb)).1,λj s' ej hs' b hb hbr=>?_⟩;have fresh:=post.fr b hbr;by_cases hji:j=i
   ·subst hji;rcases e3 b hb with z|z
    ·obtain⟨x',t',a1,a2,a3,a4,a5⟩:=r.rt j s hs (zh7 hso);exact(a3.dom b z).1 fresh
    ·exact io4 b z hbr
   ·rw[e2 j hji]at hb;rw[xK (λz=>hji z.symm)]at ej;exact(r.newOk fresh).2 j s' ej hs' hb
 ·rename_i eo
  obtain⟨hn,hp⟩:=hc;obtain⟨bf,m1,_⟩:=zck (λh=>r.rtS h) ha hn;refine⟨F,_,bf,none,_,r.fh,m1,λb hb=>by simp[ofp]at hb,hp,λr2 t2 q2 v F' H' fpr fpo post=>?_⟩;have ex:Ext F H F' H':=⟨λb o hb=>post.hh b o (by simp[ofp]) hb,post.ff,post.fh,post.nw⟩
  exact k _ _ q2 v F' H' fps fpr ⟨r.grow ex,post.rt,post.nd,λb hb=>(r.newOk (post.fr b hb)).1,λj s' ej hs' b hb hbr=>(r.newOk (post.fr b hbr)).2 j s' ej hs' hb⟩
def noM(m:Str)(u:T):Prop:=match u with
|.ob _ fs=>fs.lookup m=none
|_=>False
def zf51(o:Bool)(C:aE)(m:Str)(p:DSpT)(dp:DP)(da:DAT):DC:=λU Q=>dp U λi q u=>nCls C u/\noM m u/\da U λas=>zb11 p U ((if o then .o i q u else .b i q u) :: as) Q
theorem zlj{F H:Hp}{v:V}{u:T}(hr:Rt K F H v u fn)(hc:nCls C u)(hm:noM m u):∃a dx fs,v=.ref a/\H a=some (.ins C dx fs)/\fs.lookup m=none:=by
 cases hr with
|ob g1 g2 g3 g4 g5 =>
  cases (show _=C from hc);exact⟨_,_,_,rfl,g1,(g5.keys m).1 hm⟩
|fz _=>exact hc.elim
|li _ _ _=>exact hc.elim
|ls _ _ _=>exact hc.elim
|dk _ _ _=>exact hc.elim
|dt _ _ _=>exact hc.elim
|tp _ _ _=>exact hc.elim
theorem zpa{p:DSpT}(o:Bool)(hp:RfP K ta dp)(h:RfAT K tA dA'):RfC K (zjz C m (spT K p) [] E ta tA) (zf51 o C m p dp dA'):=by
 walk_at"15";refine hp r.fh r.rv hd λi q u hu v F1 H1 e1 at1=>?_;have r1:=r.grow e1;obtain⟨fn,hr⟩:=at1.rt r1.rv;obtain⟨a,dx,fs,rfl,h1,h2⟩:=zlj hr hu.1 hu.2.1;refine⟨a,dx,fs,rfl,h1,h2,h r1.fh r1.rv hu.2.2 λas has vs F2 H2 e2 i2=>?_⟩;rw[wN];have at2:=at1.mono e2.h;cases o with
|true=>exact zgt (r1.grow e2) (.o at2 i2) has k
|false=>exact zgt (r1.grow e2) (.b at2 i2) has k
def zez(p:DSpT)(as:List ArgP)(Q:T->Prop):Prop:=noO as/\p (as.map ArgP.arg) λr _=>Q r
theorem AtS.rtV{F H:Hp}(r:RV K F H Y U){p:Pth}{v:V}{u:T}(h:AtS H Y U i p v u):∃fn,Rt K F H v u fn/\fn.Nodup:=by
 obtain⟨s,t,x,h1,h2,h3,h4⟩:=h;obtain⟨y,fp,e,hr,nd⟩:=(r.sl i s h1).rt h2;rw[h3]at e;cases e;obtain⟨fn,g1,_,g3,_⟩:=zc81 h4 hr nd;exact⟨fn,g1,g3⟩
theorem znk{F H:Hp}{Y:_2.St}{U:DSt}(r:RV K F H Y U):∀{vs:List V}{as:List ArgP},ArgsP K F H Y U vs as->noO as->∃bf,ArgsR K F H vs (as.map ArgP.arg) bf none
|_,_,.nil,_=>⟨[],.nil⟩
|_,_,.d h q,hn=>by
  obtain⟨bf,h1⟩:=znk r q hn;exact⟨bf,.d h h1⟩
|_,_,.b h q,hn=>by
  obtain⟨bf,h1⟩:=znk r q hn;obtain⟨fn,g1,g2⟩:=h.rtV r;exact⟨fn++bf,.b g1 g2 h1⟩
|_,_,.o h r,hn=>hn.elim
theorem zhn{F H:Hp}{p:DSpT}{as:List ArgP}{Qd:T->Prop}{Q:VK}(s:Same F H)(r:RV K F H Y U)(ha:ArgsP K F H Y U vs as)(hc:zez p as Qd)
  (k:∀r,Qd r->∀v F' H' fp,Ext F H F' H'->Rt K F' H' v r fp->fp.Nodup->(∀a∈fp,H a=none)->Q v H'):spT K p vs H Q E:=by
 obtain⟨bf,m1⟩:=znk r ha hc.1;refine⟨F,_,bf,none,_,s,m1,λb hb=>by simp[ofp]at hb,hc.2,λr2 t2 q2 v F' H' fpr fpo post=>?_⟩;exact k _ q2 v F' H' fpr ⟨λb o hb=>post.hh b o (by simp[ofp]) hb,post.ff,post.fh,post.nw⟩ post.rt post.nd post.fr
def zf61(p:DSpT)(da:DAT):DN:=λU Q=>da U λas=>zez p as Q
def zda1(C:aE)(m:Str)(p:DSpT)(dp:DP)(da:DAT):DN:=λU Q=>dp U λi q u=>nCls C u/\noM m u/\da U λas=>zez p (.b i q u :: as) Q
theorem zk01{p:DSpT}(h:RfAT K tA dA'):RfN K (zuz (spT K p) [] E tA) (zf61 p dA'):=by
 walk_at"3";refine h s rv hd λas has vs F1 H1 e1 i1=>?_;rw[wN];exact zhn e1.fh (rv.ext e1) i1 has λr q v F' H' fp e2 h1 h2 h3=>k r q v F' H' fp (e1.trans e2) h1 h2 λa ha=>zb3 e1 (h3 a ha)
theorem zb21{p:DSpT}(hp:RfP K ta dp)(h:RfAT K tA dA'):RfN K (zjz C m (spT K p) [] E ta tA) (zda1 C m p dp dA'):=by
 walk_at"3";refine hp s rv hd λi q u hu v F1 H1 e1 at1=>?_;have rv1:=rv.ext e1;obtain⟨fn,hr⟩:=at1.rt rv1;obtain⟨a,dx,fs,rfl,h1,h2⟩:=zlj hr hu.1 hu.2.1;refine⟨a,dx,fs,rfl,h1,h2,h e1.fh rv1 hu.2.2 λas has vs F2 H2 e2 i2=>?_⟩;rw[wN];have e12:=e1.trans e2;exact zhn e2.fh (rv.ext e12) (.b (at1.mono e2.h) i2) has λr q v F' H' fp e3 h1 h2 h3=>k r q v F' H' fp (e12.trans e3) h1 h2 λa ha=>zb3 e12 (h3 a ha)
def eN(dn:DN):DE:=λU Q=>dn U λr=>fzT r Q
theorem RfN.ex{dn:DN}(h:RfN K te dn):RfE K te (eN dn):=λs rv hd k=>h s rv hd λr q v F' H' fp e1 h1 h2 h3=>by
 obtain⟨d,qd,i⟩:=za01 h1 q;exact k d qd v F' H' e1 i
def zm21(C:aE)(p:DSpT)(da:DAT):DN:=λU Q=>da U λas=>noO as/\p (.o (.ob C []) :: as.map ArgP.arg) λr t2=>(match r with|.fz .none=>True|_=>False)/\Q t2
theorem zdk{p:DSpT}(h:RfAT K tA dA'):RfN K (zb91 C (spT K p) [] E tA) (zm21 C p dA'):=by
 walk_at"3";refine h s rv hd λas has vs F1 H1 e1 i1=>?_;intro x dx hx hdx hne;obtain⟨bf,m1⟩:=znk (rv.ext e1) i1 has.1;have hH:∀b,b≠x->b≠dx->upd (upd H1 dx (.own x)) x (.ins C dx []) b=H1 b:=λb h1 h2=>by rw[ze1 h1,ze1 h2]
 have s2:Same H1 (upd (upd H1 dx (.own x)) x (.ins C dx [])):=λb o z=>by
  rw[hH b (λq=>by subst q;rw[hx]at z;cases z) (λq=>by subst q;rw[hdx]at z;cases z)];exact z
 have fx:F1 x=none:=by
  cases q:F1 x with
 |none=>rfl
 |some o=>rw[e1.fh x o q]at hx;cases hx
 have fdx:F1 dx=none:=by
  cases q:F1 dx with
 |none=>rfl
 |some o=>rw[e1.fh dx o q]at hdx;cases hdx
 have m2:ArgsR K F1 (upd (upd H1 dx (.own x)) x (.ins C dx [])) vs (as.map ArgP.arg) bf none/\∀b∈bf,H1 b≠none:=by
  have key:∀{vs:List V}{as:List Arg}{bf:List aE}{oo:Option (aE×List aE)},ArgsR K F1 H1 vs as bf oo->oo=none->ArgsR K F1 (upd (upd H1 dx (.own x)) x (.ins C dx [])) vs as bf none/\∀b∈bf,H1 b≠none:=λ{vs as bf oo} hh=>by
   induction hh with
  |nil=>intro _;exact⟨.nil,λb hb=>by simp at hb⟩
  |d h1 _ ih=>intro e;exact⟨.d h1 (ih e).1,(ih e).2⟩
  |b h1 h2 _ ih =>
    intro e;refine⟨.b (h1.frame (λ_ _ z=>z) λb hb=>⟨?_,(h1.dom b hb).2⟩) h2 (ih e).1,λb hb=>?_⟩
    ·exact hH b (λq=>by subst q;exact(h1.dom b hb).1 hx) (λq=>by subst q;exact(h1.dom b hb).1 hdx)
    ·rcases vS.mp hb with z|z
     ·exact(h1.dom b z).1
     ·exact(ih e).2 b z
  |o _ _ _ _=>intro e;cases e
  exact key m1 rfl
 refine⟨F1,_,bf,some (x,[x,dx]),_,e1.fh.trans s2,.o (.ob zt0 (by rw[ze1 hne,zt0]) fx fdx .nil) (by simp[Ne.symm hne]) (by rw[wN];exact m2.1),λb hb hbf=>?_,has.2,λr t2 q2 v F' H' fpr fpo post=>?_⟩
 ·have:=m2.2 b hbf;simp[ofp]at hb;rcases hb with z|z
  ·exact this (by rw[z];exact hx)
  ·exact this (by rw[z];exact hdx)
 ·obtain⟨q0,q1⟩:=q2;obtain⟨io1,io2,io3,io4⟩:=post.io x [x,dx] rfl;refine⟨?_,k _ q1 (.ref x) F' H' fpo (e1.trans ⟨λb o z=>?_,post.ff,post.fh,λb hb fb=>post.nw b (λz=>?_) fb⟩) io1 io2 λb hb=>zb3 e1 ?_⟩
  ·split at q0
   ·cases post.rt with
   |fz i=>exact i.non_inv
   ·exact q0.elim
  ·refine post.hh b o (λw=>?_) (s2 b o z);simp[ofp]at w;rcases w with w|w
   ·rw[w,hx]at z;cases z
   ·rw[w,hdx]at z;cases z
  ·cases q:H1 b with
  |none=>exact hb q
  |some o=>rw[s2 b o q]at z;cases z
  ·rcases io3 b hb with z|z
   ·simp at z;rcases z with z|z
    ·rw[z];exact hx
    ·rw[z];exact hdx
   ·cases q:H1 b with
   |none=>rfl
   |some o=>rw[s2 b o q]at z;cases z
end
section
variable {P:aN}{w:aQ}{K:Fg}{mg:Str->Option aC}{base:aT}
def zw61(a:aE):Arg->Sl
|.d x=>.sh x
|.b x=>.bo x
|.o x=>.io a x
def zal(N:List Str)(a:aE)(as:List Arg):DSt:=as.map (zw61 a)++vV (N.length - as.length) .un
def oIx:List Arg->Option Nat
|[]=>none
|.o _ :: _=>some 0
|.d _ :: r=>(oIx r).map (·+1)
|.b _ :: r=>(oIx r).map (·+1)
def exA(as:List Arg)(a:aE)(Qd:T->T->Prop)(r:T)(U:DSt):Prop:=match oIx as with
|none=>Qd r (.fz .none)
|some k=>∃t',U[k]?=some (.io a t')/\Qd r t'
def zd51(as:List Arg)(a:aE)(Qd:T->T->Prop):DEnds:={ nx:=exA as a Qd (.fz .none),rt:=exA as a Qd }
theorem zah{F H:Hp}:∀{vs:List V}{as:List Arg}{bf:List aE}{oo:Option (aE×List aE)},ArgsR K F H vs as bf oo->vs.length=as.length/\∃fl:Nat->List aE,
  (∀(k:Nat) x,as[k]?=some (.d x)->∃v,vs[k]?=some v/\Is K F v x) /\
  (∀(k:Nat) x,as[k]?=some (.b x)->∃v,vs[k]?=some v/\Rt K F H v x (fl k)/\(fl k).Nodup/\∀b∈fl k,b∈bf) /\
  (∀(k:Nat) x,as[k]?=some (.o x)->∃a,vs[k]?=some (.ref a)/\oo=some (a,fl k)/\Rt K F H (.ref a) x (fl k)/\(fl k).Nodup/\oIx as=some k)/\(oo=none->oIx as=none)/\(∀a fp,oo=some (a,fp)->∃k x,as[k]?=some (.o x)/\fl k=fp/\oIx as=some k)
|_,_,_,_,.nil=>⟨rfl,λ_=>[],λk x e=>by simp at e,λk x e=>by simp at e,λk x e=>by simp at e,λ_=>rfl,λa fp e=>by cases e⟩
|_,_,_,_,.d h r=>by
  obtain⟨hl,fl,h1,h2,h3,h4,h5⟩:=zah r;refine⟨by simp[hl],λk=>fl (k - 1),λk x e=>?_,λk x e=>?_,λk x e=>?_,λe=>?_,λa fp e=>?_⟩
  ·cases k with
  |zero=>simp at e;subst e;exact⟨_,rfl,h⟩
  |succ k=>obtain⟨v,g1,g2⟩:=h1 k x (by simpa using e);exact⟨v,by simpa using g1,g2⟩
  ·cases k with
  |zero=>simp at e
  |succ k=>obtain⟨v,g1,g2⟩:=h2 k x (by simpa using e);exact⟨v,by simpa using g1,g2⟩
  ·cases k with
  |zero=>simp at e
  |succ k=>obtain⟨v,g1,g2,g3,g4,g5⟩:=h3 k x (by simpa using e);exact⟨v,by simpa using g1,g2,g3,g4,by simp[oIx,g5]⟩
  ·simp[oIx,h4 e]
  ·obtain⟨k,x,g1,g2,g3⟩:=h5 a fp e;exact⟨k+1,x,by simpa using g1,g2,by simp[oIx,g3]⟩
|_,_,_,_,.b (fp:=fp) (bf:=bf) h nd r=>by
  obtain⟨hl,fl,h1,h2,h3,h4,h5⟩:=zah r;refine⟨by simp[hl],λk=>if k=0 then fp else fl (k - 1),λk x e=>?_,λk x e=>?_,λk x e=>?_,λe=>?_,λa fp' e=>?_⟩
  ·cases k with
  |zero=>simp at e
  |succ k=>obtain⟨v,g1,g2⟩:=h1 k x (by simpa using e);exact⟨v,by simpa using g1,g2⟩
  ·cases k with
  |zero=>simp at e;subst e;exact⟨_,rfl,h,nd,λb hb=>by simp at hb ⊢;exact .inl hb⟩
  |succ k=>obtain⟨v,g1,g2,g3,g4⟩:=h2 k x (by simpa using e);exact⟨v,by simpa using g1,g2,g3,λb hb=>by have:=g4 b (by simpa using hb);simp[this]⟩
  ·cases k with
  |zero=>simp at e
  |succ k=>obtain⟨v,g1,g2,g3,g4,g5⟩:=h3 k x (by simpa using e);exact⟨v,by simpa using g1,g2,g3,g4,by simp[oIx,g5]⟩
  ·simp[oIx,h4 e]
  ·obtain⟨k,x,g1,g2,g3⟩:=h5 a fp' e;exact⟨k+1,x,by simpa using g1,by simpa using g2,by simp[oIx,g3]⟩
|_,_,_,_,.o (a:=a) (fp:=fp) h nd r=>by
  obtain⟨hl,fl,h1,h2,h3,h4,h5⟩:=zah r;refine⟨by simp[hl],λk=>if k=0 then fp else fl (k - 1),λk x e=>?_,λk x e=>?_,λk x e=>?_,λe=>(by cases e),λa' fp' e=>?_⟩
  ·cases k with
  |zero=>simp at e
  |succ k=>obtain⟨v,g1,g2⟩:=h1 k x (by simpa using e);exact⟨v,by simpa using g1,g2⟩
  ·cases k with
  |zero=>simp at e
  |succ k=>obtain⟨v,g1,g2,g3,g4⟩:=h2 k x (by simpa using e);exact⟨v,by simpa using g1,g2,g3,λb hb=>g4 b (by simpa using hb)⟩
  ·cases k with
  |zero=>simp at e;subst e;exact⟨a,rfl,rfl,h,nd,rfl⟩
  |succ k =>
    obtain⟨v,g1,g2,g3,g4,g5⟩:=h3 k x (by simpa using e);cases g2
  ·cases e;exact⟨0,_,rfl,rfl,rfl⟩
theorem zc9{N:List Str}{k:Nat}{p:DSpT}
  (body:∀(f:aE)(cdv:aC)(A:bB)(outer:List Env)(s:aH)(H:Hp)(E:XK),Room k (A.deeper (cQ qual (zh0 st) s.heap.objs.size f cdv))->∃t d,PSs (cxOf CX0 P w K mg base N qual (zh0 st) f cdv A outer s H E).nox (zp3 st) t/\RfS K t d/\∀as Qd a,p as Qd->d (zd51 as a Qd) (zal N a as)) :
  zl9 P w K mg base qual st N k (spT K p):=by
 walk_at"19";obtain⟨F,as,bf,oo,Qd,sf,ha,hd,hp,hq⟩:=h;obtain⟨t,d,h1,h2,h3⟩:=body f cdv A outer s H E hr;obtain⟨hl,fl,a1,a2,a3,a4,a5⟩:=zah ha;obtain⟨a,haa⟩:∃a:aE,∀a' fp,oo=some (a',fp)->a'=a:=by
  cases oo with
 |none=>exact⟨0,λa' fp e=>by cases e⟩
 |some x=>exact⟨x.1,λa' fp e=>by cases e;rfl⟩
 have slot:∀(i:Nat) sl,(zal N a as)[i]?=some sl->(sl=.un/\as.length<=i) \/ ∃g,as[i]?=some g/\sl=zw61 a g:=λi sl e=>by
  unfold zal at e;by_cases hi:i < as.length
  ·rw[wO (by simpa using hi),u8]at e;obtain⟨g,h1,h2⟩:=wQ.mp e;exact .inr ⟨g,h1,h2.symm⟩
  ·rw[wL (by simpa using hi),xF]at e;split at e
   ·cases e;exact .inl ⟨rfl,by lia⟩
   ·cases e
 have val:∀(i:Nat) v,vs[i]?=some v->(_2.start N vs).getD i none=some v:=λi v e=>by
  have hi:i < vs.length:=by
   rcases wT i vs.length with z|z
   ·exact z
   ·rw[wA z]at e;cases e
  unfold _2.start;rw[v6,wO (by simpa using hi),u8,e];rfl
 have rs:RS K ⟨F,H,ofp oo⟩ F H (_2.start N vs) (zal N a as) fl:=by
  refine⟨λb o _ z=>z,λ_ _ z=>z,sf,λb _ z=>z,λb z=>z,by simp[_2.start,zal,hl],λi x e=>?_,λi sl e hs=>?_,λi sl e ho b hb=>?_,λi j sl sl' hij e1 e2 o1 o2 b hb hb2=>?_⟩
  ·rcases slot i _ e with⟨z,_⟩|⟨g,e1,e2⟩
   ·cases z
   ·cases g with
   |d x'=>cases e2;obtain⟨v,g1,g2⟩:=a1 i x e1;exact⟨v,val i v g1,g2⟩
   |b _=>cases e2
   |o _=>cases e2
  ·rcases slot i _ e with⟨z,_⟩|⟨g,e1,e2⟩
   ·rw[z]at hs;cases hs
   ·cases g with
   |d x'=>rw[e2]at hs;cases hs
   |b x' =>
     obtain⟨v,g1,g2,g3,g4⟩:=a2 i x' e1;rw[e2];exact⟨v,x',val i v g1,rfl,g2,λa u z=>(by cases z),g3⟩
   |o x' =>
     obtain⟨a',g1,g2,g3,g4,g5⟩:=a3 i x' e1;have:=haa a' _ g2;subst this;rw[e2];exact⟨_,x',val i _ g1,rfl,g3,λa u z=>(by cases z;rfl),g4⟩
  ·rcases slot i _ e with⟨z,_⟩|⟨g,e1,e2⟩
   ·rw[z]at ho;cases ho
   ·cases g with
   |d x'=>rw[e2]at ho;cases ho
   |b x'=>rw[e2]at ho;cases ho
   |o x' =>
     obtain⟨a',g1,g2,g3,g4,g5⟩:=a3 i x' e1;refine .inr ⟨?_,λt z=>?_⟩
     ·show b∈ofp oo;rw[g2];exact hb
     ·rw[e2]at z;cases z
  ·rcases slot i _ e1 with⟨z,_⟩|⟨g,f1,f2⟩
   ·rw[z]at o1;cases o1
   ·cases g with
   |d x'=>rw[f2]at o1;cases o1
   |b x'=>rw[f2]at o1;cases o1
   |o x' =>
     obtain⟨a',g1,g2,g3,g4,g5⟩:=a3 i x' f1;rcases slot j _ e2 with⟨z,_⟩|⟨g',f1',f2'⟩
     ·rw[z]at o2;cases o2
     ·cases g' with
     |d x''=>rw[f2']at o2;cases o2
     |b x'' =>
       obtain⟨v,k1,k2,k3,k4⟩:=a2 j x'' f1';exact hd b (by rw[g2];exact hb) (k4 b hb2)
     |o x'' =>
       obtain⟨a'',k1,k2,k3,k4,k5⟩:=a3 j x'' f1';rw[g5]at k5;exact hij (wV.inj k5)
 have fin:∀{F' H':Hp}{Y':_2.St}{U':DSt}{fps':Nat->List aE}{v:V}{r:T}{fpr:List aE},Res K ⟨F,H,ofp oo⟩ F' H' Y' U' fps' v r fpr->exA as a Qd r U'->Q v H':=λ{F' H' Y' U' fps' v r fpr} res ex=>by
  unfold exA at ex;split at ex
  ·rename_i eo
   refine hq r (.fz .none) ex v F' H' fpr [] ⟨res.rs.hh,res.rs.ff,res.rs.fh,res.rs.nw,res.rs.al,res.rt,res.nd,res.fr,λa' fp e=>?_⟩;obtain⟨k,x,g1,g2,g3⟩:=a5 a' fp e;rw[eo]at g3;cases g3
  ·rename_i ko eo
   obtain⟨t',et,qd⟩:=ex;obtain⟨x',t'',b1,b2,b3,b4,b5⟩:=res.rs.rt ko _ et rfl;cases b2;have:=b4 a t' rfl;subst this;refine hq r t' qd v F' H' fpr (fps' ko) ⟨res.rs.hh,res.rs.ff,res.rs.fh,res.rs.nw,res.rs.al,res.rt,res.nd,res.fr,λa' fp e=>?_⟩;have ea:=haa a' fp e;subst ea;refine⟨b3,b5,λb hb=>?_,λb hb=>res.dj ko _ et rfl b hb⟩;rcases res.rs.fr ko _ et rfl b hb with z|⟨z,_⟩
   ·exact .inr z
   ·have:b∈ofp oo:=z;rw[e]at this;exact .inl this
 refine⟨t,h1,h2 rs (h3 as Qd a hp) ⟨λr q=>fin ⟨r,.fz .non,.nil,λa ha=>by simp at ha,λ_ _ _ _ a _ ha=>by simp at ha⟩ q,λ_ z=>z.elim,λ_ z=>z.elim,λres q=>fin res q⟩⟩
theorem zgy{F H:Hp}{as:List Arg}{bf:List aE}{oo:Option (aE×List aE)}(h:ArgsR K F H vs as bf oo):vs.length=as.length:=(zah h).1
theorem zwh{p:DSpT}(h:∀as Qd,p as Qd->as.length=ps.length):∀vs H Q E,spT K p vs H Q E->vs.length=ps.length:=λvs H Q E z=>by
 obtain⟨F,as,bf,oo,Qd,_,ha,_,hp,_⟩:=z;rw[zgy ha];exact h as Qd hp
def zcf(N:List Str)(ds:List D):DSt:=ds.map Sl.sh++vV (N.length - ds.length) .un
def rD(Qd:D->Prop)(r:T)(_:DSt):Prop:=match r with
|.fz d=>Qd d
|.li ds=>Qd (.list ds)
|.ls ts=>∃d,toD (.ls ts)=some d/\Qd d
|_=>False
theorem zg01{Qd:D->Prop}{r:T}(h:rD Qd r U):∃d,toD r=some d/\Qd d:=by
 cases r with
|fz d=>exact⟨d,rfl,h⟩
|li ds=>exact⟨_,rfl,h⟩
|ls ts=>exact h
|ob _ _=>exact h.elim
|dk _=>exact h.elim
|dt _=>exact h.elim
|tp _=>exact h.elim
theorem zvl{F H:Hp}{N:List Str}{ds:List D}(s:Same F H)(h:IsAll K F vs ds):RS K ⟨F,H,[]⟩ F H (_2.start N vs) (zcf N ds) (λ_=>[]):=by
 have el:=h.dlen;have no:∀(i:Nat) sl,(zcf N ds)[i]?=some sl->sl.has=true->False:=λi sl e hs=>by
  unfold zcf at e;by_cases hi:i < ds.length
  ·rw[wO (by simpa using hi),u8]at e;obtain⟨x,_,z⟩:=wQ.mp e;subst z;cases hs
  ·rw[wL (by simpa using hi),xF]at e;split at e
   ·cases e;cases hs
   ·cases e
 refine⟨λb o _ z=>z,λ_ _ z=>z,s,λb _ z=>z,λb z=>z,by simp[_2.start,zcf,el],λi x e=>?_,λi sl e hs=>(no i sl e hs).elim,λi sl e ho=>(no i sl e (zh7 ho)).elim,λi j sl sl' _ e _ o _=>(no i sl e (zh7 o)).elim⟩;unfold zcf at e;unfold _2.start;by_cases hi:i < ds.length
 ·rw[wO (by simpa using hi),u8]at e;obtain⟨y,hx,z⟩:=wQ.mp e;cases z;obtain⟨v,hv,iv⟩:=h.dget hx;refine⟨v,?_,iv⟩;rw[v6,wO (by simp;lia),u8,hv];rfl
 ·rw[wL (by simpa using hi),xF]at e;split at e <;> cases e
theorem zya1{F0 H0 F H:Hp}{v:V}{r:T}{d:D}(res:Res K ⟨F0,H0,[]⟩ F H Y U fps v r fpr)(e:toD r=some d):∃F',Ext F0 H0 F' H/\Is K F' v d:=by
 obtain⟨F2,s1,s2,s3,s4⟩:=zcb1 res.rs.fh res.rt e res.nd;refine⟨F2,⟨λb o z=>res.rs.hh b o (by simp) z,res.rs.ff.trans s1,s2,λb hb fb=>?_⟩,s4⟩;have:b ∉ fpr:=λz=>hb (res.fr b z);rw[s3 b this];exact res.rs.nw b hb fb
theorem zg3{N:List Str}{k:Nat}{p:DSp}
  (body:∀(f:aE)(cdv:aC)(A:bB)(outer:List Env)(s:aH)(H:Hp)(E:XK),Room k (A.deeper (cQ qual (zh0 st) s.heap.objs.size f cdv))->∃t d,PSs (cxOf CX0 P w K mg base N qual (zh0 st) f cdv A outer s H E).nox (zp3 st) t/\RfS K t d/\∀ds Qd,p ds Qd->d { nx:=λ_=>Qd .none,rt:=rD Qd } (zcf N ds)) :
  zl9 P w K mg base qual st N k (spD K p):=by
 walk_at"19";obtain⟨F,ds,Qd,sf,i,hp,hq⟩:=h;obtain⟨t,d,h1,h2,h3⟩:=body f cdv A outer s H E hr;refine⟨t,h1,h2 (zvl sf i) (h3 ds Qd hp) ⟨λr q=>hq _ q _ _ _ ⟨λb o z=>r.hh b o (by simp) z,r.ff,r.fh,r.nw⟩ .non,λ_ z=>z.elim,λ_ z=>z.elim,λres q=>?_⟩⟩;obtain⟨d',e1,e2⟩:=zg01 (U:=[]) q;obtain⟨F',ex,is⟩:=zya1 res e1;exact hq _ e2 _ _ _ ex is
theorem zt01{F:Hp}{ds:List D}(h:IsAll K F vs ds):vs.length=ds.length:=h.dlen
theorem zwa{p:DSp}(h:∀ds Qd,p ds Qd->ds.length=ps.length):∀vs H Q E,spD K p vs H Q E->vs.length=ps.length:=λvs H Q E z=>by
 obtain⟨F,ds,Qd,_,i,hp,_⟩:=z;rw[zt01 i];exact h ds Qd hp
theorem zeu{F:Hp}:∀ns:List Int,IsAll K F (ns.map V.int) (ns.map vQ)
|[]=>.nil
|n :: r=>.cons (.int n) (zeu r)
theorem zkc1{N:List Str}{k:Nat}{fa:aE}(M:Md K mg)(T:TopDef K "law" st)(hfa:mg "law"=some (.ref fa))(S:FnScope N ["script"] (zh0 st))(hb:ztb "law" "law" st ["script"])
  (body:∀base:aT,K.In base->base.Ns aP mg->∀(f:aE)(cdv:aC)(A:bB)(outer:List Env)(s:aH)(H:Hp)(E:XK),Room k (A.deeper (cQ "law" (zh0 st) s.heap.objs.size f cdv)) ->
   ∃t d,PSs (cxOf CX0 P w K mg base N "law" (zh0 st) f cdv A outer s H E).nox (zp3 st) t/\RfS K t d/\∀(ns:List Int)(Qd:D->Prop),ns.length<=63->Qd (.bool true)->d { nx:=λ_=>Qd .none,rt:=rD Qd } (zcf N [.list (ns.map .int)])) :
  ∃fd:cH,(∀(s:aH)(v:aC),eK s fd ⟨[v],[]⟩ [("script",v)])/\∀base:aT,K.In base->base.Ns aP mg->FnOk P w K mg base CX0 (k+1) fa fd ["script"] (zy41 K):=by
 refine zq71 M T hfa S hb (λvs H Q E h=>by obtain⟨a,ns,rfl,_⟩:=h;rfl) λbase kb nb=>?_;walk_at"19";obtain⟨a,ns,rfl,hS,hl,hq⟩:=h;obtain⟨t,d,h1,h2,h3⟩:=body base kb nb f cdv A outer s H E hr;refine⟨t,h1,h2 (zvl (F:=H) (λ_ _ z=>z) (.cons (.lst hS (zeu ns)) .nil)) (h3 ns (λd=>d=.bool true) hl rfl) ⟨λr q=>(by cases q),λ_ z=>z.elim,λ_ z=>z.elim,λres q=>?_⟩⟩;obtain⟨d',e1,e2⟩:=zg01 (U:=[]) q;obtain⟨F',ex,is⟩:=zya1 res e1;subst e2;cases is;exact hq _
end
variable {E:DEnds}{U:DSt}{a b:DS}{de:DE}{dg:DG}{ix:List Nat}{n:Nat}
section
variable {K:Fg}{tA:TA}{dA:DF}
def zfz:List D->(D->Prop)->Prop
|[.int i,.int j],Q=>Q (.int (if j < i then j else i))
|_,_=>False
theorem zm91:CB K (λxs H Q=>∃i j,xs=[V.int i,V.int j]/\Q (V.int (if j < i then j else i)) H) zfz:=by
 walk_at"10";unfold zfz at h;split at h
 ·obtain⟨v,u,rfl,h1,h2⟩:=vw2 hv;cases h1.int;cases h2.int;exact⟨_,_,rfl,k _ h _ F H (Ext.refl s) (.int _)⟩
 ·exact h.elim
end
theorem e_dF(df:DF)(U:DSt)(Q:D->Prop):dF df U Q=( df U λds=>Q (.list ds)):=rfl
theorem e_dC(d:D)(x_0:DSt)(Q:D->Prop):dC d x_0 Q=( Q d):=rfl
theorem zt61(f:D->D->(D->Prop)->Prop)(da db:DE)(U:DSt)(Q:D->Prop):dOp f da db U Q=( da U λx=>db U λy=>f x y Q):=rfl
theorem zju(df:DF)(db:DE)(U:DSt)(Q:List D->Prop):dRep df db U Q=( df U λds=>db U λy=>fRep ds y Q):=rfl
theorem zh81(f:D->(D->Prop)->Prop)(da:DE)(U:DSt)(Q:D->Prop):dUn f da U Q=( da U λx=>f x Q):=rfl
theorem zql(da:DE)(U:DSt)(Q:D->Prop):ze91 da U Q=( da U λx=>fB x λb=>Q (.bool (!b))):=rfl
theorem zuo(da db:DE)(U:DSt)(Q:D->Prop):zh51 da db U Q=( da U λx=>fB x λb=>if b=true then db U Q else Q (.bool false)):=rfl
theorem zim(de:DE)(U:DSt)(Q:Bool->Prop):za2 de U Q=( de U λd=>fB d Q):=rfl
theorem zzu(de:DE)(U:DSt)(Q:Bool->Prop):dTru de U Q=( de U λd=>fTru d Q):=rfl
theorem zkw(dt du:DT)(U:DSt)(Q:Bool->Prop):dAnd dt du U Q=( dt U λb=>if b=true then du U Q else Q false):=rfl
theorem zr61(dt du:DT)(U:DSt)(Q:Bool->Prop):dOr dt du U Q=( dt U λb=>if b=true then Q true else du U Q):=rfl
theorem zyy(dt:DT)(U:DSt)(Q:Bool->Prop):dNot dt U Q=( dt U λb=>Q (!b)):=rfl
theorem znw(dt:DT)(da db:DE)(U:DSt)(Q:D->Prop):dIfE dt da db U Q=( dt U λb=>if b=true then da U Q else db U Q):=rfl
theorem zww(x_0:DSt)(Q:List D->Prop):dNil x_0 Q=( Q []):=rfl
theorem zen(da:DE)(dr:DF)(U:DSt)(Q:List D->Prop):zk0 da dr U Q=( da U λx=>dr U λxs=>Q (x :: xs)):=rfl
theorem zcx(dA:DF)(U:DSt)(Q:D->Prop):dTup dA U Q=( dA U λxs=>xs.length<=sizeLine/\Q (.tuple xs)):=rfl
theorem zyw(dA:DF)(U:DSt)(Q:List D->Prop):dLst dA U Q=( dA U λxs=>xs.length<=sizeLine/\Q xs):=rfl
theorem zlp(p:DSp)(dA:DF)(U:DSt)(Q:D->Prop):zd3 p dA U Q=( dA U λds=>p ds Q):=rfl
theorem zp71(f:List D->(D->Prop)->Prop)(dA:DF)(U:DSt)(Q:D->Prop):dCB f dA U Q=( dA U λds=>f ds Q):=rfl
theorem zi81(f:List D->(List D->Prop)->Prop)(dA:DF)(U:DSt)(Q:List D->Prop):dCF f dA U Q=( dA U λds=>f ds Q):=rfl
theorem zv61(T:String)(da:DE)(U:DSt)(Q:D->Prop):dIs T da U Q=( da U λd=>(∀kvs,d≠.dict kvs)/\Q (.bool (isT T d))):=rfl
theorem zff(x_0:DSt)(Q:Option Int->Prop):zxc x_0 Q=( Q none):=rfl
theorem zcp(de:DE)(U:DSt)(Q:Option Int->Prop):zvx de U Q=( de U λd=>match d with
|.int i=>Q (some i)
|_=>False):=rfl
theorem zg71(de:DE)(dl dh:DO)(U:DSt)(Q:D->Prop):dSl de dl dh U Q=( de U λd=>dl U λlo=>dh U λhi=>fSl d lo hi Q):=rfl
theorem zkv(de:DE)(dl dh dk:DO)(U:DSt)(Q:List D->Prop):dSl3 de dl dh dk U Q=( de U λd=>dl U λlo=>dh U λhi=>dk U λst=>match d with
|.list ds=>st≠some 0/\Q (zom ds lo hi st)
|_=>False):=rfl
theorem zq81(de:DE)(U:DSt)(Q:List D->Prop):dIt de U Q=( de U λd=>ziw d Q):=rfl
theorem zjp(dA:DF)(U:DSt)(Q:List D->Prop):zih dA U Q=( dA U λds=>match ds with
|[.int j]=>-(2 ^ 62)<=j/\j < 2 ^ 62/\Q (rngD 0 j.toNat)
|_=>False):=rfl
theorem zfm(dA:DF)(U:DSt)(Q:List D->Prop):zn81 dA U Q=( dA U λds=>match ds with
|[.int i,.int j]=>(-(2 ^ 62)<=i/\i < 2 ^ 62/\-(2 ^ 62)<=j/\j < 2 ^ 62)/\Q (rngD i (j - i).toNat)
|_=>False):=rfl
theorem zjw(dA:DF)(U:DSt)(Q:List D->Prop):dZip dA U Q=( dA U λds=>fZip ds Q):=rfl
theorem zrn(dA:DF)(U:DSt)(Q:List D->Prop):zyp dA U Q=( dA U λds=>match ds with
|[.list a]=>Q (ztq a)
|_=>False):=rfl
theorem e_gN(i:Nat)(d:D)(U:DSt)(G:DSt->Prop):gN i d U G=( G (U.set i (.sh d))):=rfl
theorem zmn(ds:List D)(U:DSt)(G:DSt->Prop):znl ds U G=( match ds with
|[]=>G U
|_=>False):=rfl
theorem zjj(g:DG)(gs:DGs)(ds:List D)(U:DSt)(G:DSt->Prop):zf5 g gs ds U G=( match ds with
|d :: r=>g d U λU'=>gs r U' G
|[]=>False):=rfl
theorem e_gT(n:Nat)(gs:DGs)(d:D)(U:DSt)(G:DSt->Prop):gT n gs d U G=( match d with
|.tuple ds=>ds.length=n/\gs ds U G
|_=>False):=rfl
theorem ztm(x_0:DSt)(Q:Bool->Prop):zmf x_0 Q=( Q true):=rfl
theorem zxy(C:aE)(f:Str)(dp:DP)(U:DSt)(Q:Nat->Pth->T->Prop):pFld C f dp U Q=( dp U λi p u=>nCls C u/\nFld f u λt=>Q i (p++[.fl f]) t):=rfl
theorem zs51(dp:DP)(di:DE)(U:DSt)(Q:Nat->Pth->T->Prop):pIx dp di U Q=( dp U λi p u=>di U λk=>nIx u k λj t=>Q i (p++[.ix j]) t):=rfl
theorem zg61(dp:DP)(U:DSt)(Q:D->Prop):dPV dp U Q=( dp U λ_ _ u=>vwT u Q):=rfl
theorem zz61(dp:DP)(U:DSt)(Q:D->Prop):dPE dp U Q=( dp U λ_ _ u=>fzT u Q):=rfl
theorem e_cE(de:DE)(U:DSt)(Q:T->DSt->Prop):cE de U Q=( de U λd=>Q (.fz d) U):=rfl
theorem e_cF(df:DF)(U:DSt)(Q:T->DSt->Prop):cF df U Q=( df U λds=>Q (.li ds) U):=rfl
theorem zmm(E:DEnds)(U:DSt):zz5 E U=( E.nx U):=rfl
theorem ztu(de:DE)(dg:DG)(E:DEnds)(U:DSt):dAsg de dg E U=( de U λd=>dg d U E.nx):=rfl
theorem zcv(i:Nat)(dc:DC)(E:DEnds)(U:DSt):dSet i dc E U=( dc U λr U'=>E.nx (U'.set i (slot r))):=rfl
theorem zxl(dc:DC)(E:DEnds)(U:DSt):zjh dc E U=( dc U λ_ U'=>E.nx U'):=rfl
theorem zkx(dc:DC)(E:DEnds)(U:DSt):dRet dc E U=( dc U E.rt):=rfl
theorem zxo(i:Nat)(E:DEnds)(U:DSt):zhp i E U=( match U[i]? with
|some (.ow t)=>E.rt t (U.set i .un)
|some (.sh d)=>E.rt (.fz d) U
|_=>False):=rfl
theorem zam(E:DEnds)(U:DSt):zw41 E U=( E.ct U):=rfl
theorem zc71(dt:DT)(d e:DS)(E:DEnds)(U:DSt):dIf dt d e E U=( dt U λb=>if b=true then d E U else e E U):=rfl
theorem zy51(ty:String)(f:FM)(dp:DP)(dA:DF)(U:DSt)(Q:T->DSt->Prop):cBM ty f dp dA U Q=( dp U λi p u=>tyN ty u/\dA U λds=>f u ds λu2 d=>mutS U i p u2 λU'=>Q (.fz d) U'):=rfl
theorem zxu(ty:String)(f:FM)(dp:DP)(U:DSt)(Q:T->DSt->Prop):cBM0 ty f dp U Q=( dp U λi p u=>tyN ty u/\f u [] λu2 d=>mutS U i p u2 λU'=>Q (.fz d) U'):=rfl
theorem znv(dp:DP)(dk de:DE)(E:DEnds)(U:DSt):dPut dp dk de E U=( de U λd=>dp U λi p u=>dk U λk=>fPut u k d λu2=>mutS U i p u2 E.nx):=rfl
theorem zdp(f:Int->Int->Int)(dp:DP)(dk de:DE)(E:DEnds)(U:DSt):zfq f dp dk de E U=( dp U λi p u=>dk U λk=>fGet u k λx=>de U λy=>fII f x y λz=>fPut u k z λu2=>mutS U i p u2 E.nx):=rfl
theorem zyx(i:Nat)(f:Int->Int->Int)(de:DE)(E:DEnds)(U:DSt):dAug i f de E U=( match U[i]? with
|some (.sh x)=>de U λy=>fII f x y λz=>E.nx (U.set i (.sh z))
|_=>False):=rfl
theorem zux(dp:DP)(dk:DE)(U:DSt)(Q:D->Prop):nGet dp dk U Q=( dp U λ_ _ u=>dk U λk=>fGet u k Q):=rfl
theorem zd81(neg:Bool)(dk:DE)(dp:DP)(U:DSt)(Q:D->Prop):nIn neg dk dp U Q=( dk U λk=>dp U λ_ _ u=>fHas neg u k Q):=rfl
theorem e_nF(df:DF)(U:DSt)(Q:T->Prop):nF df U Q=( df U λds=>Q (.li ds)):=rfl
theorem e_cN(dn:DN)(U:DSt)(Q:T->DSt->Prop):cN dn U Q=( dn U λr=>Q r U):=rfl
theorem zuu(C:aE)(f:Str)(dc:DC)(dp:DP)(E:DEnds)(U:DSt):dFld C f dc dp E U=( dc U λr U1=>dp U1 λi p u=>nCls C u/\nSet f u r λu2=>mutS U1 i p u2 E.nx):=rfl
theorem zmw(i:Nat)(p:Pth)(d:DS)(E:DEnds)(U:DSt):dFrz i p d E U=( fzS U i p λU'=>d E U'):=rfl
theorem zpy(x_0:DSt)(Q:List ArgP->Prop):aNil x_0 Q=( Q []):=rfl
theorem e_aD(de:DE)(dr:DAT)(U:DSt)(Q:List ArgP->Prop):aD de dr U Q=( de U λx=>dr U λas=>Q (.d x :: as)):=rfl
theorem e_aB(dp:DP)(dr:DAT)(U:DSt)(Q:List ArgP->Prop):aB dp dr U Q=( dp U λi p t=>dr U λas=>Q (.b i p t :: as)):=rfl
theorem e_aO(dp:DP)(dr:DAT)(U:DSt)(Q:List ArgP->Prop):aO dp dr U Q=( dp U λi p t=>dr U λas=>Q (.o i p t :: as)):=rfl
theorem zin(o:Bool)(C:aE)(m:Str)(p:DSpT)(dp:DP)(da:DAT)(U:DSt)(Q:T->DSt->Prop):zf51 o C m p dp da U Q=( dp U λi q u=>nCls C u/\noM m u/\da U λas=>zb11 p U ((if o then .o i q u else .b i q u) :: as) Q):=rfl
theorem zem(p:DSpT)(da:DAT)(U:DSt)(Q:T->Prop):zf61 p da U Q=( da U λas=>zez p as Q):=rfl
theorem zqp(C:aE)(m:Str)(p:DSpT)(dp:DP)(da:DAT)(U:DSt)(Q:T->Prop):zda1 C m p dp da U Q=( dp U λi q u=>nCls C u/\noM m u/\da U λas=>zez p (.b i q u :: as) Q):=rfl
theorem e_eN(dn:DN)(U:DSt)(Q:D->Prop):eN dn U Q=( dn U λr=>fzT r Q):=rfl
theorem zrl(C:aE)(p:DSpT)(da:DAT)(U:DSt)(Q:T->Prop):zm21 C p da U Q=( da U λas=>noO as/\p (.o (.ob C []) :: as.map ArgP.arg) λr t2=>(match r with|.fz .none=>True|_=>False)/\Q t2):=rfl
theorem zfv(i:Nat)(U:DSt)(Q:D->Prop):dVar i U Q=pAt U i λt=>fzT t Q:=rfl
theorem zgo(i:Nat)(U:DSt)(Q:D->Prop):zm0 i U Q=pAt U i λt=>vwT t Q:=rfl
theorem zty(i:Nat)(U:DSt)(Q:Nat->Pth->T->Prop):pVar i U Q=pAt U i λt=>Q i [] t:=rfl
theorem zhy(s:Sl)(U:DSt)(N:T->Prop):pAt (s :: U) 0 N=slT s N:=rfl
theorem zew(i:Nat)(s:Sl)(U:DSt)(N:T->Prop):pAt (s :: U) (i+1) N=pAt U i N:=rfl
theorem zow(U:DSt)(i:Nat)(p:Pth)(u:T)(N:DSt->Prop):mutS U i p u N=(match U[i]? with
|some (.ow t)=>N (U.set i (.ow (setP t p u)))
|some (.io a t)=>N (U.set i (.io a (setP t p u)))
|_=>False):=rfl
theorem zx51(U:DSt)(i:Nat)(p:Pth)(N:DSt->Prop):fzS U i p N=(match U[i]? with
|some (.ow t)=>∃u d,getP t p=some u/\toD u=some d/\N (U.set i (slot (setP t p (.fz d))))
|some (.sh _)=>N U
|_=>False):=rfl
theorem zgn(U:DSt)(i:Nat):zkz U i=(match U[i]? with
|some (.ow _)=>True
|some (.io _ _)=>True
|_=>False):=rfl
theorem zet(t u:T):setP t [] u=u:=by cases t <;> rfl
theorem zf31(ds:List D):tyN "list" (.li ds)=True:=by simp[tyN]
theorem zu01(ds:List T):tyN "list" (.ls ds)=True:=by simp[tyN]
theorem zd21(ds:List (Key×D)):tyN "dict" (.dk ds)=True:=by simp[tyN]
theorem zm01(ds:List (List Key×D)):tyN "dict" (.dt ds)=True:=by simp[tyN]
theorem zw51(Qd:D->Prop)(d:D)(U:DSt):rD Qd (.fz d) U=Qd d:=rfl
theorem zd91(Qd:D->Prop)(d:List D)(U:DSt):rD Qd (.li d) U=Qd (.list d):=rfl
theorem zm71(Qd:D->Prop)(d:List T)(U:DSt):rD Qd (.ls d) U=∃e,toD (.ls d)=some e/\Qd e:=rfl
theorem zym(p:DSpT)(U:DSt)(as:List ArgP)(Q:T->DSt->Prop):zb11 p U as Q=(match zdq as with
|some (i,q,t)=>zkz U i/\oneO i as/\zvs t/\p (as.map ArgP.arg) λr t2=>mutS U i q t2 λU'=>Q r U'
|none=>noO as/\p (as.map ArgP.arg) λr _=>Q r U):=rfl
theorem zsm(p:DSpT)(as:List ArgP)(Q:T->Prop):zez p as Q=(noO as/\p (as.map ArgP.arg) λr _=>Q r):=rfl
def zs31(items:List D)(n:Nat)(ix:List Nat)(dg:DG)(dn:DN)(U:DSt)(Q:T->Prop):Prop:=items.length<=sizeLine/\∃R:Nat->T->Prop,
 (∀i d,items[i]?=some d->dg d (cST n ix U) λU'=>dn U' λr=>R i r)/\∀rs:List T,rs.length=items.length->(∀(j:Nat) r,rs[j]?=some r->R j r)->Q (.ls rs)
theorem zmo(di:DF)(n:Nat)(ix:List Nat)(dg:DG)(dn:DN)(U:DSt)(Q:T->Prop):zoa1 di n ix dg dn U Q=di U λitems=>zs31 items n ix dg dn U Q:=rfl
theorem zn31{α:Type}{xs:List α}{enc:α->D}(f:α->T){dn:DN}{Q:T->Prop}(hz:xs.length<=sizeLine)
  (h:∀x∈xs,dg (enc x) (cST n ix U) λU'=>dn U' λr=>r=f x) (q:Q (.ls (xs.map f))):zs31 (xs.map enc) n ix dg dn U Q:=by
 refine⟨by rw[u5];exact hz,λi r=>∀x,xs[i]?=some x->r=f x,λi d e=>?_,λrs hl hR=>?_⟩
 ·rw[u8]at e;obtain⟨x,hx,rfl⟩:=wQ.mp e;have e1:(λr=>∀y,xs[i]?=some y->r=f y)=λr=>r=f x:=by funext r;rw[hx];simp
  show dg (enc x) (cST n ix U) λU'=>dn U' λr=>∀y,xs[i]?=some y->r=f y;rw[e1];exact h x (wI hx)
 ·rw[u5]at hl;have:rs=xs.map f:=by
   apply xZ;intro i;rw[u8];by_cases hi:i < rs.length
   ·have e1:rs[i]?=some rs[i]:=u6 hi;have e2:xs[i]?=some (xs[i]'(by lia)):=u6 _;rw[e1,e2,hR i _ e1 _ e2];rfl
   ·rw[wA (by lia),wA (by lia)];rfl
  rw[this];exact q
def zk51(items:List D)(n:Nat)(ix:List Nat)(dg:DG)(dt:DT)(de:DE)(U:DSt)(Q:List D->Prop):Prop:=items.length<=sizeLine/\∃R:Nat->Option D->Prop,
 (∀i d,items[i]?=some d->dg d (cST n ix U) λU'=>dt U' λb=>if b=true then de U' λr=>R i (some r)else R i none) /\
 ∀os:List (Option D),os.length=items.length->(∀(j:Nat) o,os[j]?=some o->R j o)->Q (os.filterMap id)
theorem zvy(di:DF)(n:Nat)(ix:List Nat)(dg:DG)(dt:DT)(de:DE)(U:DSt)(Q:List D->Prop):zbd di n ix dg dt de U Q=di U λitems=>zk51 items n ix dg dt de U Q:=rfl
def ForB(items:List D)(dg:DG)(db:DS)(E:DEnds)(U:DSt):Prop:=∃W:Nat->DSt->Prop,W 0 U /\
 (∀i d U',items[i]?=some d->W i U'->dg d U' λU2=>db { E with nx:=W (i+1),ct:=W (i+1),bk:=E.nx } U2)/\∀U',W items.length U'->E.nx U'
theorem ze71(di:DF)(dg:DG)(db:DS)(E:DEnds)(U:DSt):dFor di dg db E U=di U λitems=>ForB items dg db E U:=rfl
theorem zpq{b:DS}{U:DSt}(h:a { E with nx:=b E } U):dSeq a b E U:=⟨b E,h,λ_ z=>z⟩
theorem za6{b:DS}{U:DSt}(J:DSt->Prop)(h:a { E with nx:=J } U)(hj:∀U',J U'->b E U'):dSeq a b E U:=⟨J,h,hj⟩
theorem zf0{U:DSt}(h:∀J:DSt->Prop,(∀U',b E U'->J U')->a { E with nx:=J } U):dSeq a b E U:=⟨b E,h (b E) λ_ z=>z,λ_ z=>z⟩
theorem zv91{α:Type}{f:α->Option D}:∀{xs:List α}{os:List (Option D)},os.length=xs.length->(∀(j:Nat) o x,os[j]?=some o->xs[j]?=some x->o=f x)->os.filterMap id=xs.filterMap f
|[],[],_,_=>rfl
|x :: xs,o :: os,hl,h=>by
  have e:o=f x:=h 0 o x rfl rfl;have ih:=zv91 (f:=f) (xs:=xs) (os:=os) (by simpa using hl) λj o' x' h1 h2=>h (j+1) o' x' (by simpa using h1) (by simpa using h2);rw[xB,xB,e,ih];rfl
theorem zgz{α:Type}{xs:List α}{enc:α->D}(f:α->Option D){dt:DT}{Q:List D->Prop}(hz:xs.length<=sizeLine)
  (h:∀x∈xs,dg (enc x) (cST n ix U) λU'=>dt U' λb=>if b=true then de U' λr=>some r=f x else none=f x) (q:Q (xs.filterMap f)):zk51 (xs.map enc) n ix dg dt de U Q:=by
 refine⟨by rw[u5];exact hz,λi o=>∀x,xs[i]?=some x->o=f x,λi d e=>?_,λos hl hR=>?_⟩
 ·rw[u8]at e;obtain⟨x,hx,rfl⟩:=wQ.mp e;have:=h x (wI hx);have e1:(λr=>∀y,xs[i]?=some y->some r=f y)=λr=>some r=f x:=by
   funext r;rw[hx];simp
  have e2:(∀y,xs[i]?=some y->(none:Option D)=f y)=(none=f x):=by rw[hx];simp
  show dg (enc x) (cST n ix U) λU'=>dt U' λb=>if b=true then de U' λr=>∀y,xs[i]?=some y->some r=f y else ∀y,xs[i]?=some y->(none:Option D)=f y
  rw[e1,e2];exact this
 ·rw[u5]at hl;rw[zv91 hl λj o x h1 h2=>hR j o h1 x h2];exact q
theorem zgk{α:Type}{xs:List α}{enc:α->D}(g:α->D){Q:List D->Prop}(hz:xs.length<=sizeLine)
  (h:∀x∈xs,dg (enc x) (cST n ix U) λU'=>de U' λr=>r=g x) (q:Q (xs.map g)):zk51 (xs.map enc) n ix dg zmf de U Q:=by
 refine zgz (λx=>some (g x)) hz (λx hx=>?_) ?_
 ·have:=h x hx;have e:(λr=>some r=some (g x))=λr=>r=g x:=by funext r;simp
  show dg (enc x) (cST n ix U) λU'=>if true=true then de U' λr=>some r=some (g x)else none=some (g x)
  rw[e];simp only[if_true];exact this
 ·rw[show xs.filterMap (λx=>some (g x))=xs.map g from congrFun List.filterMap_eq_map' xs];exact q
theorem zb2{α:Type}{xs:List α}{enc:α->D}(W:Nat->DSt->Prop){db:DS}(h0:W 0 U)
  (hs:∀(i:Nat) x U',xs[i]?=some x->W i U'->dg (enc x) U' λU2=>db { E with nx:=W (i+1),ct:=W (i+1),bk:=E.nx } U2) (he:∀U',W xs.length U'->E.nx U'):ForB (xs.map enc) dg db E U:=by
 refine⟨W,h0,λi d U' e w=>?_,λU' w=>he U' (by rw[u5]at w;exact w)⟩;rw[u8]at e;obtain⟨x,hx,rfl⟩:=wQ.mp e;exact hs i x U' hx w
theorem two{c:Prop}[Decidable c]{A B:Prop}(h1:c->A)(h2:¬c->B):if c then A else B:=by
 by_cases h:c
 ·rw[aF h];exact h1 h
 ·rw[aA h];exact h2 h
def cutG{α:Type}(xs:List α)(lo hi:Option Int):List α:=(xs.drop (HT.sIx xs.length 0 lo)).take (HT.sIx xs.length xs.length hi - HT.sIx xs.length 0 lo)
theorem zqb{α:Type}(f:α->D)(xs:List α)(lo hi:Option Int):cutD (xs.map f) lo hi=(cutG xs lo hi).map f:=by
 unfold cutD cutG;rw[u5,List.map_take,List.map_drop]
theorem zgv{α β:Type}(f:α->D)(g:β->D)(xs:List α)(ys:List β):zipD (xs.map f) (ys.map g)=(xs.zip ys).map λp=>.tuple [f p.1,g p.2]:=by
 unfold zipD;rw[List.zipWith_map,List.zip_eq_zipWith,List.map_zipWith]
theorem zm6{α:Type}(f:α->D)(xs:List α):ztq (xs.map f)=(xs.mapIdx λi x=>(i,x)).map λp=>.tuple [.int (p.1:Nat),f p.2]:=by
 unfold ztq;apply xZ;intro i;rw[xN,u8,u8,xN];cases xs[i]? <;> rfl
theorem zre{α:Type}{xs:List α}{i:Int}{x:α}(h0:0<=i)(h:xs[i.toNat]?=some x):atI xs i=some x:=by
 have e:((i.toNat:Nat):Int)=i:=by lia
 have:=zys (xs:=xs) (j:=i.toNat) (v:=x) h
 rwa [e]at this
section
variable (K:Fg)
def RfH(te:TE)(de:DE):Prop:=∀{F H:Hp}{Y:_2.St}{U:DSt}{Qd:D->Prop}{Q:VK},Same F H->RV K F H Y U->de U Qd->(∀d,Qd d->∀v F' H',Ext F H F' H'->Is K H' v d->Q v H')->te Y H Q
def RfAH(ta:TA)(da:DF):Prop:=∀{F H:Hp}{Y:_2.St}{U:DSt}{Qd:List D->Prop}{Q:List V->Hp->Prop},Same F H->RV K F H Y U->da U Qd->(∀ds,Qd ds->∀vs F' H',Ext F H F' H'->IsAll K H' vs ds->Q vs H')->ta Y H Q
end
section
variable {K:Fg}{te ta tb:TE}{de da db:DE}{tA:TA}{dA:DF}
theorem RfV.h(h:RfV K te de):RfH K te de:=λs r d k=>h s r d λx q v F' H' e i=>k x q v F' H' e (i.is e.fh)
theorem zyn:RfAH K tNil dNil:=λs rv h k=>k _ h _ _ _ (Ext.refl s) .nil
theorem zde(ha:RfH K ta da)(hr:RfAH K tA dA):RfAH K (zon ta tA) (zk0 da dA):=by
 walk_at"1";refine ha s rv h λx hx v F1 H1 e1 i1=>hr e1.fh (rv.ext e1) hx λxs hxs vs F2 H2 e2 i2=>?_;exact k _ hxs _ F2 H2 (e1.trans e2) (.cons (i1.mono e2.h) i2)
theorem zum{F H:Hp}{p:aE}{o:HO}(s:Same F H)(hn:H p=none):Ext F H F (upd H p o) :=
 ⟨zw1 hn _,λ_ _ z=>z,λb o z=>zw1 hn _ b o (s b o z),λ_ _ z=>z⟩
theorem zku(h:RfAH K tA dA):RfH K (zv81 tA) (dTup dA):=by
 walk_at"3";refine h s rv hd λxs hx vs F1 H1 e1 i1=>⟨by rw[i1.dlen];exact hx.1,λp hp=>?_⟩
 exact k _ hx.2 _ _ _ (e1.trans (zum e1.fh hp)) (.tup zt0 (i1.mono (zw1 hp _)))
theorem zp21(h:RfAH K tA dA):RfH K (zl81 tA) (dF (dLst dA)):=by
 walk_at"3";refine h s rv hd λxs hx vs F1 H1 e1 i1=>⟨by rw[i1.dlen];exact hx.1,λp hp=>?_⟩
 exact k _ hx.2 _ _ _ (e1.trans (zum e1.fh hp)) (.lst (SqL.of zt0) (i1.mono (zw1 hp _)))
def R2H(K:Fg)(r:R2)(f:D->D->(D->Prop)->Prop):Prop:=∀{F H:Hp}{x y:V}{d e:D}{Qd:D->Prop}{Q:VK},Same F H->Is K H x d->Is K H y e->f d e Qd->(∀z,Qd z->∀v F' H',Ext F H F' H'->Is K F' v z->Q v H')->r x y H Q
theorem zv1{r:R2}{f:D->D->(D->Prop)->Prop}(hr:R2H K r f)(ha:RfH K ta da)(hb:RfH K tb db):RfE K (tOp r ta tb) (dOp f da db):=by
 walk_at"1";refine ha s rv h λx hx v F1 H1 e1 i1=>hb e1.fh (rv.ext e1) hx λy hy u F2 H2 e2 i2=>?_;exact hr e2.fh (i1.mono e2.h) i2 hy λz hz w F3 H3 e3 i3=>k z hz w F3 H3 ((e1.trans e2).trans e3) i3
theorem q_eq:R2H K (rEqU K) fEq:=by
 walk_at"4";unfold fEq at h;split at h
 ·cases hx.int_inv;cases hy.int_inv;refine .inl ⟨rfl,k _ h _ F H (Ext.refl s) ?_⟩;rw[zuf];exact .bl _
 ·cases hx.str_inv;cases hy.str_inv;refine .inl ⟨rfl,k _ h _ F H (Ext.refl s) ?_⟩;rw[zeg];exact .bl _
 ·cases hx.bl_inv;cases hy.bl_inv;refine .inl ⟨rfl,k _ h _ F H (Ext.refl s) ?_⟩;rw[zln];exact .bl _
 ·exact .inr ⟨_,_,hx,hy,h.1,h.2.1,k _ h.2.2 _ F H (Ext.refl s) (.bl _)⟩
theorem q_ne:R2H K (rNeU K) fNe:=by
 walk_at"4";unfold fNe at h;split at h
 ·cases hx.int_inv;cases hy.int_inv;refine .inl ⟨rfl,k _ h _ F H (Ext.refl s) ?_⟩;rw[zuf];exact .bl _
 ·cases hx.str_inv;cases hy.str_inv;refine .inl ⟨rfl,k _ h _ F H (Ext.refl s) ?_⟩;rw[zeg];exact .bl _
 ·cases hx.bl_inv;cases hy.bl_inv;refine .inl ⟨rfl,k _ h _ F H (Ext.refl s) ?_⟩;rw[zln];exact .bl _
 ·exact .inr ⟨_,_,hx,hy,h.1,h.2.1,k _ h.2.2 _ F H (Ext.refl s) (.bl _)⟩
end
theorem zlv(i:Int):isT "int" (.int i)=true:=rfl
theorem zi21(i:Int):isT "bool" (.int i)=false:=by simp[isT,tyD]
theorem zru(i:List D):isT "list" (.list i)=true:=rfl
theorem zrw(i:List D):isT "tuple" (.tuple i)=true:=rfl
theorem zly(i:Str):isT "str" (.str i)=true:=rfl
theorem zr01(i:Int):(∀kvs,vQ i≠.dict kvs)=True:=by simp
theorem zgu(i:List D):(∀kvs,yX i≠.dict kvs)=True:=by simp
theorem za21(i:List D):(∀kvs,PyData.tuple i≠.dict kvs)=True:=by simp
theorem zy11(i:Str):(∀kvs,PyData.str i≠.dict kvs)=True:=by simp
theorem zeb1(i:Bool):(∀kvs,PyData.bool i≠.dict kvs)=True:=by simp
theorem zj11:(∀kvs,PyData.none≠.dict kvs)=True:=by simp
theorem zr41{α:Type}{xs:List α}{f:α->D}(h:∀x∈xs,Fit n (f x)):Fit (n+1) (.list (xs.map f)):=Fit.lst λd hd=>by
 obtain⟨x,hx,rfl⟩:=vU.mp hd;exact h x hx
theorem za11(ds:List D):xD (.list ds) (.list [])=ds.isEmpty:=by cases ds <;> simp[xD,PyData.eqvAll]
end _4
namespace _3
open PySem PySem.Spec PyProof.Rows _2
section
variable {X:Cx}
theorem zxq{C:aE}{m:Str}{k:Nat}{ps:List Str}{sp:Sp}{o:aX}{ta:TE}{apos pos:Pos}{pl:Sem Bool}(d:MethD X.prog X.w X.K X.mg X.base C m k ps sp)(hr:Room k X.A)(he:PE X o ta)
  (ht:a8 (.Call (.Attribute o m apos) [] [] pos) X.env=(do
   let ov <- a8 o X.env
   eD apos.atName
   let (f,first) <- cX [ov] (dU ov m pl)
   f7 pos f first (bS pos (aS [] X.env)) (eM pos (cZ [] X.env))):=by rfl) :
  PE X (.Call (.Attribute o m apos) [] [] pos) (zjz C m sp [] E0 ta tNil):=by
 obtain⟨f,fd,c,M,F,b⟩:=d;exact zzy he c M F hr b .nil znz ht
def zgb1(K:Fg)(le:Int->Int->Prop):List V->Hp->VK->Prop:=λvs H Q=>∃(a:aE)(ns:List Int),vs=[.ref a]/\SqL K H a (ns.map V.int)/\ns≠[]/\∀M∈ns,(∀x∈ns,le M x)->Q (.int M) H
theorem zpr{K:Fg}(h:X.K=K)(hc:X.calm=true):CallR X (.builtin "min") (zgb1 K λM x=>M<=x):=by
 subst h;walk_at"7";obtain⟨a,ns,rfl,hx,hne,q⟩:=h;obtain⟨u,rfl,r1⟩:=zxs r;cases r1;obtain⟨its,rv,p,hz⟩:=I.list hx;have hi:cY its ns:=zyb rv;obtain⟨ys,hy⟩:=hi.allInts.items;have hl:s.heap.IsList a (intItems ys):=hy ▸ p.isList;have e1:ns=ys.toList.map (·.1):=by
  rw[<- nums_intItems,<- hy];exact(show numsOf its.toArray.toList=ns from hi.numsOf).symm
 have hsz:0 < ys.size:=by
  rcases uaR ys.size with z|z
  ·exact aJ (by rw[e1];exact List.map_eq_nil_iff.mpr (uaB (by simpa using z))) hne
  ·exact z
 refine min_intList (I.ok.hd hc) hl hsz λv h' tk hv hk=>?_;obtain⟨t,rfl⟩:=intItems_at hv;obtain⟨h1,h2⟩:=argBest_lt (numAt ys) (ys.size - 1);refine⟨.int _,H,I.kept hk,⟨_,rfl⟩,q _ ?_ λx hx'=>?_⟩
 ·rw[numAt_eq,e1];exact getD_mem (by rw[u5,yI];lia)
 ·rw[e1]at hx';obtain⟨j,hj,rfl⟩:=mem_getD hx';rw[u5,yI]at hj;rw[<- numAt_eq];exact h2 j (by lia)
end
end _3
namespace _4
open PySem PySem.Spec PyProof.Rows _2 _3
section
variable {K:Fg}{te ta ti tv tk tb:TE}{de da di dk db:DE}{dc:DC}{tA:TA}{dA:DF}
abbrev fXor:=fI0 λi j=>.int (eP i j)
theorem zs91:R2E K (rI0 λi j=>V.int (eP i j)) fXor:=r_I0 λ_ _ _=>.int _
theorem zxt(x:Int):eP x 1=x+1 - 2 * (x % 2):=by
 rw[i6,i8]
def zcz:List D->(D->Prop)->Prop
|[.list ds],Q=>∃ns,zcq ds=some ns/\ns≠[]/\∀M∈ns,(∀x∈ns,M<=x)->Q (.int M)
|_,_=>False
theorem zo61:CB K (zgb1 K λM x=>M<=x) zcz:=by
 walk_at"10";unfold zcz at h;split at h
 ·obtain⟨v,rfl,hw⟩:=vw1 hv;obtain⟨p,xs,rfl,h1,i1⟩:=hw.list s;obtain⟨ns,e,hne,q⟩:=h;have:=zyh i1 e;subst this;exact⟨p,ns,rfl,h1,hne,λM hM hx=>k _ (q M hM hx) _ F H (Ext.refl s) (.int _)⟩
 ·exact h.elim
def cDK1(dk de:DE):DC:=λU Q=>dk U λk=>de U λv=>∃key,keyD k=some key/\Q (.dk [(key,v)]) U
theorem zdx(dk de:DE)(U:DSt)(Q:T->DSt->Prop):cDK1 dk de U Q=(dk U λk=>de U λv=>∃key,keyD k=some key/\Q (.dk [(key,v)]) U):=rfl
theorem zr81(hk:RfE K tk dk)(he:RfE K tv de):RfC K (zua1 [(tk,tv)]) (cDK1 dk de):=by
 intro B F H Y U fps Qd Q r hd k p hp;have r1:=r.grow (zkn (o:=.dK []) r.fh hp);have fp:F p=none:=by
  cases e:F p with
 |none=>rfl
 |some o=>rw[r.fh p o e]at hp;cases hp
 show tk Y _ _;refine hk r1.fh r1.rv hd λkd hkd kv F1 H1 e1 i1=>he e1.fh (r1.grow e1).rv hkd λv hv vv F2 H2 e2 i2=>?_;obtain⟨key,ek,q⟩:=hv;have:=zuk i1 ek;subst this;have e12:=e1.trans e2;have hp2:H2 p=some (.dK []):=e12.h _ _ zt0;have fp2:F2 p=none:=e12.nw p (by rw[zt0];simp) fp;refine⟨hp2,[(key,vv)],rfl,by simp,?_⟩;have ex:Ext F H F2 (upd H2 p (.dK (zuh [] [(key,vv)]))):=by
  have e0:=(zkn (o:=.dK []) r.fh hp).trans e12;refine⟨λb o z=>?_,e0.f,λb o z=>?_,e0.nw⟩
  ·have:b≠p:=λy=>by subst y;rw[hp]at z;cases z
   rw[ze1 this];exact e0.h b o z
  ·have:b≠p:=λy=>by subst y;rw[fp2]at z;cases z
   rw[ze1 this];exact e0.fh b o z
 have hm:zuh [] [(key,vv)]=[(key,vv)]:=rfl;rw[hm]at ex ⊢;refine k _ _ q (.ref p) F2 _ fps [p] ⟨r.grow ex,.dk zt0 fp2 (.cons i2 .nil),by simp,λb hb=>?_,λj s ej hs b hb hb2=>?_⟩
 ·simp at hb;subst hb;exact(r.newOk hp).1
 ·simp at hb2;subst hb2;exact(r.newOk hp).2 j s ej hs hb
def zr71(de:DE)(f:D->D->(D->Prop)->Prop)(dc:DC)(db:DE):DC:=λU Q=>de U λx=>dc U λr U1=>fzT r λy=>db U1 λz=>f y z λw=>fIx x w λd=>Q (.fz d) U1
theorem zpo(de:DE)(f:D->D->(D->Prop)->Prop)(dc:DC)(db:DE)(U:DSt)(Q:T->DSt->Prop):zr71 de f dc db U Q=(de U λx=>dc U λr U1=>fzT r λy=>db U1 λz=>f y z λw=>fIx x w λd=>Q (.fz d) U1):=rfl
theorem zl01{w:aQ}{r:R2}{f:D->D->(D->Prop)->Prop}(he:RfE K te de)(hr:R2E K r f)(hc:RfC K ta dc)(hb:RfE K tb db):RfC K (tOp (rIxV w K) te (tOp r ta tb)) (zr71 de f dc db):=by
 walk_at"22";refine he rs.fh rs.rv hd λx hx xv F1 H1 e1 i1=>?_;have r1:=rs.grow e1
 -- what is frozen stays: the base remembers F1
 have s0:=r1.ff;have n0:=r1.nw;refine hc (r1.rem s0 (λ_ _ z=>z)) hx λt U1 ht yv F2 H2 fps2 fpr res=>?_;obtain⟨y,hy,iy⟩:=za01 res.rt ht;refine hb res.rs.fh res.rs.rv hy λz hz zv F3 H3 e3 i3=>?_;refine hr e3.fh (.inl (iy.mono e3.f)) (.inl i3) hz λwd hw wv F4 H4 e4 i4=>?_;have e34:=e3.trans e4;have sF:Same F1 F4:=(show Same F1 F2 from res.rs.ff).trans e34.f;refine r_ix (w:=w) e4.fh (.inl (i1.mono sF)) (.inl i4) hw λd hd' v F5 H5 e5 i5=>?_;refine k _ _ hd' v F5 H5 fps2 [] ⟨((res.rs.grow (e34.trans e5)).unrem s0 n0),.fz i5,.nil,λa ha=>by simp at ha,λ_ _ _ _ a _ ha=>by simp at ha⟩
end
end _4
namespace _3
open PySem PySem.Spec PyProof.Rows _2
section
variable {X:Cx}
def zzt(K:Fg):List V->Hp->VK->Prop:=λvs H Q=>∃(a:aE)(ns:List Int),vs=[.ref a]/\(SqL K H a (ns.map V.int) \/ ∃kvs:List (Key×V),H a=some (.dK kvs)/\kvs.map (·.1)=ns.map wU)/\ns.length < 64 /\
 ∀ns':List Int,ns'.Perm ns->ns'.Pairwise (·<=·)->∀l,H l=none->Q (.ref l) (upd H l (.lst (ns'.map V.int)))
theorem zze{P:aN}{w:aQ}{i:Int}{v:aC}(h:(zu2 P w).is (.inl i) v=true):∃t,v=.int i t:=by
 have h:y4 i v=true:=h;cases v <;> first
 |(simp[y4]at h;subst h;exact⟨_,rfl⟩)
 |(simp[y4]at h)
theorem zrg:∀{vs:List aC}{ns:List Int},vs.length=ns.length->(∀(j:Nat) v i,vs[j]?=some v->ns[j]?=some i->∃t,v=.int i t)->cY vs ns
|[],[],_,_=>.nil
|[],_ :: _,h,_=>by simp at h
|_ :: _,[],h,_=>by simp at h
|v :: vs,i :: ns,h,q=>by
  obtain⟨t,rfl⟩:=q 0 v i rfl rfl;exact .cons i t (zrg (by simpa using h) λj v i a b=>q (j+1) v i (by simpa using a) (by simpa using b))
theorem zej{K:Fg}(h:X.K=K)(hc:X.calm=true):CallR X (.builtin "sorted") (zzt K):=by
 subst h;walk_at"7";obtain⟨a,ns,rfl,hx,hz,q⟩:=h;obtain⟨u,rfl,r1⟩:=zxs r;cases r1;rcases hx with hx|⟨kvs,hx,hk⟩
 ·obtain⟨its,rv,p,hz'⟩:=I.list hx;have hi:cY its ns:=zyb rv;refine sorted_ints p.isList hi (by rw[rv.length.symm,u5];exact hz) λout ns' a1 a2 a3=>?_;obtain⟨e,he⟩:=sortedAll_at s.heap its out;refine⟨.ref _,upd H (s.heap.objs.size+1) (.lst (ns'.map V.int)),I.laid (a:=s.heap.objs.size+1) (t':=s.toks) (λb o=>sortedAll_old) (zJ _) ?_,rfl,q ns' a2 a3 _ (I.hok.fresh (zJ _))⟩;refine⟨by rw[u5,a2.length_eq,aW];lia,out.toList,e,zpb a1,?_⟩
  simpa[seqObj]using he
 ·obtain⟨z,hd,vs0,r0,dd⟩:=zn51 I.hok hx;obtain⟨ep,hat⟩:=dd.dictAt;have hlen:vs0.length=ns.length:=by
   have h1:=r0.length;have h2:=congrArg kP hk;rw[u5,u5]at h2;lia
  refine Calls.call_function_entry kind_sorted plain_sorted entry_sorted (args_sorted1 _) ?_;unfold Builtin.«sorted»;refine aG (m:=checkCount "sorted" 1 1 _) (aK ?_);refine aG (PySem.W.kdu_collect (A:=X.A.in1) (PySem.W.kdl_dict (knd:=zu2 X.prog X.w) (kvs:=vs0) (ep:=ep) hd) (I.ok.hd hc) hat (by rw[aW];lia) λh' tk acc hk' hacc=>?_);have hl:acc.toList.length=vs0.length:=by rw[yI];exact hacc.1
  have hI:cY acc.toList ns:=zrg (by rw[hl,hlen]) λj v i e1 e2=>by
   obtain⟨k,x,e3,e4⟩:=hacc.2 j v (by rw[<- k6];exact e1);have:k=.inl i:=by
    have e5:(kvs.map (·.1))[j]?=some k:=by
     have kk:∀{l:List (Key×V)}{m:List (Key×aC)}{j:Nat}{k x},KV l m->m[j]?=some (k,x)->(l.map (·.1))[j]?=some k:=by
      intro l m j k x r;unfold KV at r
      induction r generalizing j with
     |nil=>intro e;simp at e
     |cons h t ih =>
       intro e;cases j with
      |zero=>simp at e;simp[h.1,e]
      |succ j=>simp at e ⊢;simpa using ih e
     exact kk r0 e3
    rw[hk,u8,e2]at e5
    simpa using e5.symm
   subst this;exact zze e4
  refine aG (wpAny_newList ?_ (by rw[hl,aW];lia));have hoL:(h'.push { cls:=.type "list",data:=.seq acc.toList.toArray }).get? h'.objs.size=some (seqObj "list" acc.toList.toArray 0):=wF _ rfl;refine aG (cK (cI slot_list_sort ⟨_,hoL,rfl⟩ entry_list_sort (list_sort_tree hoL hI (by rw[hl];lia) λout ns' a1 a2 a3=>⟨_,rfl,?_⟩) (args_list_sort _)));refine aK ⟨_,rfl,?_⟩;obtain⟨e,he⟩:=sortedHeap_at (out:=out) hoL;have I2:=I.kept (t':=tk) hk';refine⟨.ref _,upd H h'.objs.size (.lst (ns'.map V.int)),I2.laid (a:=h'.objs.size) (t':=tk) (λb o ho=>?_) (u7 _) ?_,rfl,q ns' a2 a3 _ (I2.hok.fresh (u7 _))⟩
  ·have hlt:=vY ho;rw[sortedHeap_old (wJ hlt) (by rw[size_push'];exact zM hlt)];exact vT _ ho
  ·refine⟨by rw[u5,a2.length_eq,aW];lia,out.toList,e,zpb a1,?_⟩
   simpa[seqObj]using he
end
end _3
namespace _4
open PySem PySem.Spec PyProof.Rows _2 _3
section
variable {K:Fg}{te ta ti tv tk tb:TE}{de da di dk db:DE}{dc:DC}{dp:DP}{tA:TA}{dA:DF}
theorem zdu{F:Hp}:∀(ns:List Int),IsAll K F (ns.map V.int) (ns.map vQ)
|[]=>.nil
|n :: r=>.cons (.int n) (zdu r)
theorem KvIs.keys{F:Hp}:∀{kvs:List (Key×V)}{ds:List (Key×D)},KvIs K F kvs ds->kvs.map (·.1)=ds.map (·.1):=by
 intro kvs ds h
 induction h with
|nil=>rfl
|cons a r ih=>simp_all
def zzx(u:T)(Q:List D->Prop):Prop:=match u with
|.dk kvs=>∃ns:List Int,kvs.map (·.1)=ns.map wU/\ns.length < 64/\∀ns':List Int,ns'.Perm ns->ns'.Pairwise (·<=·)->Q (ns'.map .int)
|_=>False
def zl21(dp:DP):DF:=λU Q=>dp U λ_ _ u=>zzx u Q
theorem ziv(hp:RfP K ta dp):RfF K (tCB (zzt K) (zon ta tNil)) (zl21 dp):=by
 walk_at"1";refine hp s rv h λi p u hu v F2 H2 e2 at2=>?_;obtain⟨fn,hr⟩:=at2.rt (rv.ext e2);cases hr with
|dk h1 h2 h3 =>
  obtain⟨ns,ek,hz,q⟩:=hu;refine⟨_,ns,rfl,.inr ⟨_,h1,by rw[<- ek];exact h3.keys⟩,hz,λns' p1 p2 l hl=>?_⟩;obtain⟨ex,fn⟩:=zo8 (xs:=ns'.map V.int) e2.fh hl;have hn:H l=none:=by
   cases z:H l with
  |none=>rfl
  |some o=>rw[e2.h l o z]at hl;cases hl
  exact k _ (q ns' p1 p2) l _ F2 _ (e2.trans ex) hn zt0 fn (zdu ns')
|fz _=>exact hu.elim
|li _ _ _=>exact hu.elim
|ls _ _ _=>exact hu.elim
|ob _ _ _ _ _=>exact hu.elim
|dt _ _ _=>exact hu.elim
|tp _ _ _=>exact hu.elim
theorem zph(dp:DP)(U:DSt)(Q:List D->Prop):zl21 dp U Q=(dp U λ_ _ u=>zzx u Q):=rfl
theorem zsh(kvs:List (Key×D))(Q:List D->Prop):zzx (.dk kvs) Q=∃ns:List Int,kvs.map (·.1)=ns.map wU/\ns.length < 64/\∀ns':List Int,ns'.Perm ns->ns'.Pairwise (·<=·)->Q (ns'.map .int):=rfl
end
end _4
namespace _3
open PySem PySem.Spec PyProof.Rows _2
variable {K:Fg}{ps:List Str}{sp:Sp}{st:cO}{x:Str}
structure TopDefN(K:Fg)(x:Str)(st:cO):Prop where
 ex:∃(f T:aE)(oc:aC)(od:Option aE)(kV doc pm:aC)(an:Option aE)(cdv ct:aC)(osl:Array (Option aC))(o:Obj)(n:Nat),aZ K aP x=some (some (.ref f)) /\
  K.lookup f=some ⟨oc,od,.func (bO x x (zw8 st) (zp3 st) (zh0 st) (.ref T) kV doc pm an cdv ct),osl⟩/\cG K cdv x=true/\bH K (.ref f)=true/\K.lookup T=some o/\o.data=.seq #[.none] n
theorem zqo{f T:aE}{oc:aC}{od an:Option aE}{osl:Array (Option aC)}{kV doc pm cdv ct:aC}{o:Obj}{n:Nat}(a:aZ K aP x=some (some (.ref f)))
  (l:K.lookup f=some ⟨oc,od,.func (bO x x (zw8 st) (zp3 st) (zh0 st) (.ref T) kV doc pm an cdv ct),osl⟩) (c:cG K cdv x=true) (k:bH K (.ref f)=true) (lt:K.lookup T=some o) (hd:o.data=.seq #[.none] n):TopDefN K x st :=
 ⟨f,T,oc,od,kV,doc,pm,an,cdv,ct,osl,o,n,a,l,c,k,lt,hd⟩
def DefN(P:aN)(w:aQ)(K:Fg)(mg:Str->Option aC)(base:aT)(x:Str)(k:Nat)(ps:List Str)(sp:Sp):Prop :=
 ∃f fd,FnOk P w K mg base CX0 k f fd ps sp/\Binds K fd ps []/\Binds K fd ps [.none]/\bH K (.ref f)=true/\mg x=some (.ref f)
theorem DefN.d{P:aN}{w:aQ}{mg:Str->Option aC}{base:aT}{k:Nat}(h:DefN P w K mg base x k ps sp):Def P w K mg base x k ps sp:=by
 obtain⟨f,fd,F,b,_,kp,m⟩:=h;exact⟨f,fd,F,b,kp,m⟩
abbrev zrj(x:Str)(st:cO)(ps:List Str)(ds:List aC)(qs:List Str):Prop :=
 ∀(T:aE)(kV doc pm:aC)(an:Option aE)(cdv ct:aC)(us:List aC),us.length=qs.length->∃k:Option (Array aC)->Sem (List (Str×aC)),gX (bO x x (zw8 st) (zp3 st) (zh0 st) (.ref T) kV doc pm an cdv ct) ⟨us,[]⟩=iS (.ref T) >>= k/\k (some #[.none])=pure (ps.zip (us++ds))
section
variable {P:aN}{w:aQ}{K:Fg}{mg:Str->Option aC}{base:aT}
theorem zq31{N:List Str}{k:Nat}(M:Md K mg)(T:TopDefN K x st)(S:FnScope N ps (zh0 st)){qs:List Str}(hq:ps.length=qs.length+1)(hb:zrj x st ps [] ps)(hn:zrj x st ps [.none] qs)(len:∀vs H Q E,sp vs H Q E->vs.length=ps.length)
  (body:zl9 P w K mg base x st N k sp):DefN P w K mg base x (k+1) ps sp:=by
 obtain⟨f,t,oc,od,kV,doc,pm,an,cdv,ct,osl,o,n,a,lk,hcd,kp,lt,hd⟩:=T.ex;refine⟨f,_,zaa1 lk hcd S len λA outer s H vs Q E hr hsp=>?_,λs us kin hl=>?_,λs us kin hl=>?_,kp,M.got a⟩
 ·obtain⟨t,h,q⟩:=body f cdv A outer s H vs Q E hr hsp;exact⟨t,PSs.nox h,q⟩
 ·obtain⟨kk,e1,e2⟩:=hb t kV doc pm an cdv ct us (by simpa using hl);exact iG kin rfl lt hd e1 e2
 ·obtain⟨kk,e1,e2⟩:=hn t kV doc pm an cdv ct us (by rw[vR]at hl;simp only[zC]at hl;lia);exact iG kin rfl lt hd e1 e2
end
section
variable {X:Cx}{k:Nat}{C:aE}{ps:List Str}{sp:Sp}{x m:Str}{p pos apos:Pos}{e o:aX}{es:List aX}{ta:TE}{t:TA}
theorem zbo(d:DefN X.prog X.w X.K X.mg X.base x k ps sp)(hr:Room k X.A)(hg:Gl X x)(ha:PA X (e :: es) t)(hdb:(x == ("__debug__":Str))=false:=by decide)
  (he:aS (e :: es) X.env=(false,a8 e X.env) :: aS es X.env:=by rfl) (hpl:(bS pos (aS es X.env)).any (·.1)=false:=by rfl):PE X (.Call (.Name x p) (e :: es) [] pos) (zuz sp [.non] E0 t):=by
 obtain⟨f,fd,F,_,b,kp,m⟩:=d;exact zzs F hr hg m kp b (.cons rfl .nil) znz ha hdb he hpl
end
end _3
namespace _4
open PySem PySem.Spec PyProof.Rows _2 _3
section
variable {K:Fg}{te ta ti tv tk tb:TE}{de da di dk db:DE}{dc:DC}{dp:DP}{tA:TA}{dA:DF}
def zqq(p:DSp)(dA:DF):DE:=λU Q=>dA U λds=>p (ds++[.none]) Q
theorem zk11{F:Hp}:∀{vs us:List V}{ds es:List D},IsAll K F vs ds->IsAll K F us es->IsAll K F (vs++us) (ds++es)
|_,_,_,_,.nil,h=>h
|_,_,_,_,.cons a r,h=>.cons a (zk11 r h)
theorem zfo{p:DSp}{E:XK}(h:RfA K tA dA):RfE K (zuz (spD K p) [.non] E tA) (zqq p dA):=by
 walk_at"3";refine h s rv hd λds hp vs F1 H1 e1 i1=>?_;exact⟨F1,ds++[.none],Qd,e1.fh,zk11 i1 (.cons .non .nil),hp,λd q v F' H' e2 i2=>k d q v F' H' (e1.trans e2) i2⟩
theorem zyi(p:DSp)(dA:DF)(U:DSt)(Q:D->Prop):zqq p dA U Q=(dA U λds=>p (ds++[.none]) Q):=rfl
end
end _4
namespace _5
open PySem PySem.Spec PyProof.Rows _2 _3 _4
theorem ar1{α:Type}{us:List α}(h:us.length=1):∃a,us=[a]:=by
 rcases us with _|⟨a,_|⟨b,us⟩⟩
 ·cases h
 ·exact⟨a,rfl⟩
 ·cases h
theorem ars{α:Type}{n:Nat}{us:List α}(h:us.length=n+1):∃a r,us=a :: r/\r.length=n:=by
 rcases us with _|⟨a,us⟩
 ·cases h
 ·exact⟨a,us,rfl,Nat.succ.inj h⟩
theorem ar2{α:Type}{us:List α}(h:us.length=2):∃a b,us=[a,b]:=by
 obtain⟨a,r,rfl,k⟩:=ars h;obtain⟨b,rfl⟩:=ar1 k;exact⟨a,b,rfl⟩
theorem ar3{α:Type}{us:List α}(h:us.length=3):∃a b c,us=[a,b,c]:=by
 obtain⟨a,r,rfl,k⟩:=ars h;obtain⟨b,c,rfl⟩:=ar2 k;exact⟨a,b,c,rfl⟩
theorem ar4{α:Type}{us:List α}(h:us.length=4):∃a b c d,us=[a,b,c,d]:=by
 obtain⟨a,r,rfl,k⟩:=ars h;obtain⟨b,c,d,rfl⟩:=ar3 k;exact⟨a,b,c,d,rfl⟩
theorem ar5{α:Type}{us:List α}(h:us.length=5):∃a b c d e,us=[a,b,c,d,e]:=by
 obtain⟨a,r,rfl,k⟩:=ars h;obtain⟨b,c,d,e,rfl⟩:=ar4 k;exact⟨a,b,c,d,e,rfl⟩
def gL(n:Nat)(gs:DGs):DG:=λd U G=>match d with
|.list ds=>ds.length=n/\gs ds U G
|_=>False
theorem e_gL(n:Nat)(gs:DGs)(d:D)(U:DSt)(G:DSt->Prop):gL n gs d U G=(match d with
|.list ds=>ds.length=n/\gs ds U G
|_=>False):=rfl
section
variable {P:aN}{w:aQ}{K:Fg}{mg:Str->Option aC}{base:aT}{m:Str}{k:Nat}{ta:TE}{tA:TA}{dn:DN}{dA:DF}
abbrev Tab:=List (aE×DSpT)
def ztv(m:Str)(tab:Tab)(dn:DN)(dA:DF):DN:=λU Q=>dn U λu=>match u with
|.ob C fs=>noM m (.ob C fs)/\∃p,(C,p)∈tab/\dA U λds=>p (.b (.ob C fs) :: ds.map .d) λr _=>Q r
|_=>False
theorem zmi(m:Str)(tab:Tab)(dn:DN)(dA:DF)(U:DSt)(Q:T->Prop):ztv m tab dn dA U Q=(dn U λu=>match u with
|.ob C fs=>noM m (.ob C fs)/\∃p,(C,p)∈tab/\dA U λds=>p (.b (.ob C fs) :: ds.map .d) λr _=>Q r
|_=>False):=rfl
theorem zd31{F H:Hp}:∀{vs:List V}{ds:List D},IsAll K F vs ds->ArgsR K F H vs (ds.map .d) [] none
|_,_,.nil=>.nil
|_,_,.cons h r=>.d h (zd31 r)
theorem zuv{tab:Tab}(ht:∀C p,(C,p)∈tab->∃ps,MethD P w K mg base C m k ps (spT K p))(h1:RfN K ta dn)(h2:RfA K tA dA):RfN K (zv31 P w K mg base m k ta tA) (ztv m tab dn dA):=by
 intro F H Y U Qd Q s rv hd kk;refine h1 s rv hd λu hu v F1 H1 fp e1 r1 nd1 fr1=>?_;cases r1 with
|ob g1 g2 g3 g4 g5 =>
  rename_i a C dx kvs fs fp'
  obtain⟨nm,p,hp,hq⟩:=hu;obtain⟨ps,md⟩:=ht C p hp;refine⟨a,C,dx,kvs,ps,_,rfl,g1,(g5.keys m).1 nm,md,h2 e1.fh (rv.ext e1) hq λds hds vs F2 H2 e2 i2=>?_⟩;have r2:Rt K F2 H2 (.ref a) (.ob C fs) (a :: dx :: fp'):=(Rt.ob g1 g2 g3 g4 g5).ext e2;have e12:=e1.trans e2;refine⟨F2,_,_,none,_,e2.fh,.b r2 nd1 (zd31 i2),(λb hb=>by simp[ofp]at hb),hds,λr2 t2 q2 v F' H' fpr fpo post=>?_⟩;exact kk _ q2 v F' H' fpr (e12.trans ⟨λb o hb=>post.hh b o (by simp[ofp]) hb,post.ff,post.fh,post.nw⟩) post.rt post.nd λb hb=>zb3 e12 (post.fr b hb)
|fz _=>exact hu.elim
|li _ _ _=>exact hu.elim
|ls _ _ _=>exact hu.elim
|dk _ _ _=>exact hu.elim
|dt _ _ _=>exact hu.elim
|tp _ _ _=>exact hu.elim
theorem tab3{C1 C2 C3:aE}{p1 p2 p3:DSpT}(h1:∃ps,MethD P w K mg base C1 m k ps (spT K p1))(h2:∃ps,MethD P w K mg base C2 m k ps (spT K p2))(h3:∃ps,MethD P w K mg base C3 m k ps (spT K p3)) :
  ∀C p,(C,p)∈[(C1,p1),(C2,p2),(C3,p3)]->∃ps,MethD P w K mg base C m k ps (spT K p):=λC p h=>by
 rcases vW.mp h with e|h
 ·cases e;exact h1
 rcases vW.mp h with e|h
 ·cases e;exact h2
 rcases vW.mp h with e|h
 ·cases e;exact h3
 ·simp at h
end
end _5
namespace _4
open PySem PySem.Spec PyProof.Rows _2 _3
section
variable {K:Fg}{ta:TE}{dp:DP}
def kD:Key->D
|.inl i=>.int i
|.inr x=>.str x
end
end _4
namespace _5
variable {E:List Nat}{L:List Int}{S:List (List Nat)}{a m:Nat}{lv:List (Nat×Nat)}
def xr(s:Nat):Nat:=if s % 2=0 then s+1 else s - 1
theorem zl91(s:Nat):xr (xr s)=s:=by unfold xr;split <;> split <;> lia
theorem zc51{s:Nat}(h:s < 2 * m):xr s < 2 * m:=by unfold xr;split <;> lia
theorem zn61(s:Nat):xr s≠s:=by unfold xr;split <;> lia
def hd(E:List Nat)(s:Nat):Nat:=E.getD s 0
def tl(E:List Nat)(s:Nat):Nat:=hd E (xr s)
theorem zl51(E:List Nat)(s:Nat):tl E (xr s)=hd E s:=by unfold tl;rw[zl91]
theorem zu11(E:List Nat)(s:Nat):hd E (xr s)=tl E s:=rfl
def lf(L:List Int)(s:Nat):Int:=L.getD s 0
structure Net(n m:Nat)(E:List Nat)(S:List (List Nat)):Prop where
 lE:E.length=2 * m
 bE:∀s,s < 2 * m->hd E s < n
 lS:S.length=n
 s1:∀(v:Nat) l,S[v]?=some l->∀s∈l,s < 2 * m/\tl E s=v
 s2:∀s,s < 2 * m->∃l,S[tl E s]?=some l/\s∈l
def lkp(lv:List (Nat×Nat))(v:Nat):Option Nat:=(lv.find? λp=>decide (p.1=v)).map (·.2)
theorem ztd{u v:Nat}:lkp (lv++[(u,a)]) v=match lkp lv v with
 |some b=>some b
 |none=>if u=v then some a else none:=by
 unfold lkp;rw[List.find?_append];cases h:lv.find? λp=>decide (p.1=v)with
|some x=>simp
|none =>
  by_cases e:u=v
  ·simp[e]
  ·simp[e]
theorem zdo{v:Nat}(h:lkp lv v=some a):(v,a)∈lv:=by
 unfold lkp at h;obtain⟨p,hp,e⟩:=wQ.mp h;have h1:=List.mem_of_find?_eq_some hp;have h2:=List.find?_some hp;simp at h2;obtain⟨p1,p2⟩:=p;simp at h2 e;subst h2 e;exact h1
theorem znh{v:Nat}(h:lkp lv v=none):v ∉ lv.map (·.1):=by
 unfold lkp at h;rw[Option.map_eq_none_iff,List.find?_eq_none]at h;intro hm;obtain⟨p,hp,e⟩:=vU.mp hm;have:=h p hp;simp[e]at this
theorem zj1:∀(n:Nat)(l:List Nat),l.Nodup->(∀x∈l,x < n)->l.length<=n
|0,[],_,_=>u7 _
|0,x :: r,_,h=>aJ (h x (by simp)) (by lia)
|n+1,l,nd,h=>by
  by_cases hm:n∈l
  ·have h1:(l.erase n).length=l.length - 1:=List.length_erase_of_mem hm;have h2:(l.erase n).Nodup:=nd.erase n;have h3:∀x∈l.erase n,x < n:=λx hx=>by
    have hx1:=(List.Nodup.mem_erase_iff nd).mp hx;have:=h x hx1.2;lia
   have:=zj1 n _ h2 h3;lia
  ·have h3:∀x∈l,x < n:=λx hx=>by
    have:=h x hx;have:x≠n:=λe=>hm (e ▸ hx);lia
   have:=zj1 n l nd h3;lia
structure Lev(n m:Nat)(E:List Nat)(L:List Int)(src:Nat)(lv:List (Nat×Nat)):Prop where
 nd:(lv.map (·.1)).Nodup
 bd:∀p∈lv,p.1 < n
 l0:lkp lv src=some 0
 z0:∀v,lkp lv v=some 0->v=src
 cl:∀s,s < 2 * m->0 < lf L s->(lkp lv (tl E s)).isSome=true->(lkp lv (hd E s)).isSome=true
 pr:∀v a,lkp lv v=some (a+1)->∃s,s < 2 * m/\0 < lf L s/\hd E s=v/\lkp lv (tl E s)=some a
def Adm(E:List Nat)(L:List Int)(lv:List (Nat×Nat))(s:Nat):Prop:=0 < lf L s/\∃a,lkp lv (tl E s)=some a/\lkp lv (hd E s)=some (a+1)
inductive Rch(m:Nat)(E:List Nat)(L:List Int)(lv:List (Nat×Nat))(t:Nat):Nat->Prop
|here:Rch m E L lv t t
|step {s:Nat}:s < 2 * m->Adm E L lv s->Rch m E L lv t (hd E s)->Rch m E L lv t (tl E s)
theorem zfh{n m:Nat}{E:List Nat}{L:List Int}{src:Nat}{lv:List (Nat×Nat)}(h:Lev n m E L src lv){t:Nat}:∀(a v:Nat),lkp lv v=some a->Rch m E L lv t v->Rch m E L lv t src
|0,v,e,r=>by rw[<- h.z0 v e];exact r
|a+1,v,e,r=>by
  obtain⟨s,h1,h2,h3,h4⟩:=h.pr v a e;refine zfh h a (tl E s) h4 (.step h1 ⟨h2,a,h4,by rw[h3];exact e⟩ (by rw[h3];exact r))
theorem Rch.mono{L':List Int}{t v:Nat}(h:∀s,s < 2 * m->Adm E L' lv s->Adm E L lv s)(r:Rch m E L' lv t v):Rch m E L lv t v:=by
 induction r with
|here=>exact .here
|step h1 h2 _ ih=>exact .step h1 (h _ h1 h2) ih
structure Tri(m:Nat)(E:List Nat)(S:List (List Nat))(L:List Int)(lv:List (Nat×Nat))(t:Nat)(TT:List (List Nat)):Prop where
 len:TT.length=S.length
 pre:∀(v:Nat) l,TT[v]?=some l->∃k,S[v]?=some k/\l <+: k
 vain:∀(v:Nat) l k,TT[v]?=some l->S[v]?=some k->∀(j:Nat) s,l.length<=j->k[j]?=some s->¬(Adm E L lv s/\Rch m E L lv t (hd E s))
theorem Tri.mono{m:Nat}{E:List Nat}{S:List (List Nat)}{L L':List Int}{lv:List (Nat×Nat)}{t:Nat}{TT:List (List Nat)}(h:∀s,s < 2 * m->Adm E L' lv s->Adm E L lv s)(hS:∀(v:Nat) k,S[v]?=some k->∀s∈k,s < 2 * m)(r:Tri m E S L lv t TT):Tri m E S L' lv t TT :=
 ⟨r.len,r.pre,λv l k h1 h2 j s hj hs z=>r.vain v l k h1 h2 j s hj hs ⟨h s (hS v k h2 s (wI hs)) z.1,z.2.mono h⟩⟩
theorem Tri.all{t:Nat}:Tri m E S L lv t S :=
 ⟨rfl,λv l h=>⟨l,h,List.prefix_refl _⟩,λv l k h1 h2 j s hj hs=>by
  rw[h1]at h2;cases h2;rw[wA hj]at hs;cases hs⟩
theorem Tri.dead{n:Nat}{t:Nat}{TT:List (List Nat)}(N:Net n m E S)(r:Tri m E S L lv t TT){v:Nat}(h:TT[v]?=some [])(hv:v≠t):¬Rch m E L lv t v:=by
 intro z;cases z with
|here=>exact hv rfl
|step h1 h2 h3 =>
  obtain⟨l,hl,hm⟩:=N.s2 _ h1;obtain⟨j,hj,e⟩:=uaC hm;exact r.vain _ [] l h hl j _ (wX _) (by rw[<- e];exact u6 hj) ⟨h2,h3⟩
theorem Tri.cut{t:Nat}{TT:List (List Nat)}(r:Tri m E S L lv t TT){v:Nat}{l:List Nat}(h:TT[v]?=some l){k:Nat}(hk:k<=l.length)
  (hv:∀(j:Nat) s,k<=j->l[j]?=some s->¬(Adm E L lv s/\Rch m E L lv t (hd E s))):Tri m E S L lv t (TT.set v (l.take k)):=by
 have hlt:v < TT.length:=by
  rcases wT v TT.length with z|z
  ·exact z
  ·rw[wA z]at h;cases h
 have key:∀(u:Nat) x,(TT.set v (l.take k))[u]?=some x->(u=v/\x=l.take k) \/ (u≠v/\TT[u]?=some x):=λu x e=>by
  rw[xQ]at e;by_cases z:v=u
  ·subst z;simp[hlt]at e;exact .inl ⟨rfl,e.symm⟩
  ·simp[z]at e;exact .inr ⟨λy=>z y.symm,e⟩
 refine⟨by rw[wK];exact r.len,λu x e=>?_,λu x y e e2 j s hj hs=>?_⟩
 ·rcases key u x e with⟨rfl,rfl⟩|⟨_,e'⟩
  ·obtain⟨kk,h1,h2⟩:=r.pre u l h;exact⟨kk,h1,(List.take_prefix _ _).trans h2⟩
  ·exact r.pre u x e'
 ·rcases key u x e with⟨rfl,rfl⟩|⟨_,e'⟩
  ·by_cases hjl:j < l.length
   ·obtain⟨kk,h1,h2⟩:=r.pre u l h;rw[h1]at e2;cases e2;have hs':l[j]?=some s:=by
     rw[<- hs];exact(List.prefix_iff_getElem?.mp h2 j hjl) ▸ u6 hjl
    refine hv j s ?_ hs';rw[wS]at hj;lia
   ·exact r.vain u l y h e2 j s (by lia) hs
  ·exact r.vain u x y e' e2 j s hj hs
def Way(m:Nat)(E:List Nat)(L:List Int)(lv:List (Nat×Nat)):Nat->List Nat->Nat->Prop
|v,[],t=>v=t
|v,s :: p,t=>s < 2 * m/\tl E s=v/\Adm E L lv s/\Way m E L lv (hd E s) p t
theorem Way.snoc{m:Nat}{E:List Nat}{L:List Int}{lv:List (Nat×Nat)}:∀{v:Nat}{p:List Nat}{u s:Nat},Way m E L lv v p u->s < 2 * m->tl E s=u->Adm E L lv s->Way m E L lv v (p++[s]) (hd E s)
|v,[],u,s,h,h1,h2,h3=>⟨h1,by rw[h2];exact h.symm,h3,rfl⟩
|v,x :: p,u,s,h,h1,h2,h3=>⟨h.1,h.2.1,h.2.2.1,Way.snoc h.2.2.2 h1 h2 h3⟩
theorem Way.unsnoc{m:Nat}{E:List Nat}{L:List Int}{lv:List (Nat×Nat)}:∀{v:Nat}{p:List Nat}{u s:Nat},Way m E L lv v (p++[s]) u->Way m E L lv v p (tl E s)/\hd E s=u/\s < 2 * m/\Adm E L lv s
|v,[],u,s,h=>⟨h.2.1.symm,h.2.2.2,h.1,h.2.2.1⟩
|v,x :: p,u,s,h=>by
  obtain⟨a,b,c,d⟩:=Way.unsnoc h.2.2.2;exact⟨⟨h.1,h.2.1,h.2.2.1,a⟩,b,c,d⟩
theorem Way.level{m:Nat}{E:List Nat}{L:List Int}{lv:List (Nat×Nat)}:∀{v:Nat}{p:List Nat}{u a:Nat},Way m E L lv v p u->lkp lv v=some a->lkp lv u=some (a+p.length)
|v,[],u,a,h,e=>by rw[show v=u from h]at e;exact e
|v,x :: p,u,a,h,e=>by
  obtain⟨h1,h2,⟨_,b,h3,h4⟩,h5⟩:=h;rw[h2,e]at h3;cases h3;have:=Way.level h5 h4;rw[this];congr 1;simp;lia
theorem Way.tails{m:Nat}{E:List Nat}{L:List Int}{lv:List (Nat×Nat)}:∀{v:Nat}{p:List Nat}{u a:Nat},Way m E L lv v p u->lkp lv v=some a->∀s∈p,∃b,a<=b/\lkp lv (tl E s)=some b/\lkp lv (hd E s)=some (b+1)
|v,[],u,a,_,_,s,hs=>by simp at hs
|v,x :: p,u,a,h,e,s,hs=>by
  obtain⟨h1,h2,⟨_,b,h3,h4⟩,h5⟩:=h;rw[h2,e]at h3;cases h3;rcases vW.mp hs with z|z
  ·subst z;exact⟨a,u7 _,by rw[h2];exact e,h4⟩
  ·obtain⟨c,k1,k2,k3⟩:=Way.tails h5 h4 s z;exact⟨c,by lia,k2,k3⟩
theorem Way.nodup{m:Nat}{E:List Nat}{L:List Int}{lv:List (Nat×Nat)}:∀{v:Nat}{p:List Nat}{u a:Nat},Way m E L lv v p u->lkp lv v=some a->p.Nodup/\∀s∈p,xr s ∉ p
|v,[],u,a,_,_=>⟨.nil,λs hs=>by simp at hs⟩
|v,x :: p,u,a,h,e=>by
  obtain⟨h1,h2,⟨_,b,h3,h4⟩,h5⟩:=h;rw[h2,e]at h3;cases h3;obtain⟨n1,n2⟩:=Way.nodup h5 h4;have tx:lkp lv (tl E x)=some a:=by rw[h2];exact e
  refine⟨v7.mpr ⟨λz=>?_,n1⟩,λs hs hx=>?_⟩
  ·obtain⟨c,k1,k2,_⟩:=Way.tails h5 h4 x z;rw[tx]at k2;cases k2;lia
  ·rcases vW.mp hs with z|z
   ·subst z;rcases vW.mp hx with y|y
    ·exact zn61 _ y
    ·obtain⟨c,k1,k2,k3⟩:=Way.tails h5 h4 _ y;rw[zl51,h4]at k2;cases k2;rw[zu11,tx]at k3;injection k3 with k3;lia
   ·rcases vW.mp hx with y|y
    ·obtain⟨c,k1,k2,k3⟩:=Way.tails h5 h4 s z;have e1:x=xr s:=y.symm;subst e1;rw[zu11,k2]at h4;cases h4;rw[zl51,k3]at tx;injection tx with tx;lia
    ·exact n2 s z y
variable {E p:List Nat}{L:List Int}{a:Int}{a0 m s:Nat}{lv:List (Nat×Nat)}
def zoh(L:List Int)(s:Nat)(a:Int):List Int:=(L.set s (lf L s - a)).set (xr s) (lf L (xr s)+a)
def zy3(L:List Int)(p:List Nat)(a:Int):List Int:=p.foldl (λL s=>zoh L s a) L
theorem zof(L:List Int)(s:Nat)(a:Int):(zoh L s a).length=L.length:=by simp[zoh]
theorem zub(a:Int):∀(p:List Nat)(L:List Int),(zy3 L p a).length=L.length
|[],L=>rfl
|s :: p,L=>by show(zy3 (zoh L s a) p a).length=_;rw[zub a p,zof]
theorem zwy{i j:Nat}{x:Int}(h:i < L.length):lf (L.set i x) j=if i=j then x else lf L j:=by
 unfold lf;rw[v6,v6,xQ];by_cases e:i=j
 ·subst e;simp[h]
 ·simp[e]
theorem zlk{j:Nat}(hl:L.length=2 * m)(hs:s < 2 * m):lf (zoh L s a) j=if j=s then lf L s - a else if j=xr s then lf L (xr s)+a else lf L j:=by
 unfold zoh;rw[zwy (by rw[wK,hl];exact zc51 hs),zwy (by lia)];by_cases e1:j=s
 ·subst e1;rw[aA (zn61 j),aF rfl,aF rfl]
 ·rw[aA e1];by_cases e2:j=xr s
  ·rw[aF e2.symm,aF e2]
  ·rw[aA (λz=>e2 z.symm),aA e2,aA (λz=>e1 z.symm)]
theorem zuc{m:Nat}{a:Int}:∀{p:List Nat}{L:List Int}{j:Nat},L.length=2 * m->(∀s∈p,s < 2 * m)->p.Nodup->(∀s∈p,xr s ∉ p)->lf (zy3 L p a) j=if j∈p then lf L j - a else if xr j∈p then lf L j+a else lf L j
|[],L,j,_,_,_,_=>by simp[zy3]
|s :: p,L,j,hl,hb,nd,nx=>by
  have hs:=hb s (by simp);have nd':=v7.mp nd;have xsp:xr s ∉ p:=λz=>nx s (by simp) (by simp[z]);have ih:=zuc (a:=a) (p:=p) (L:=zoh L s a) (j:=j) (by rw[zof];exact hl) (λt ht=>hb t (by simp[ht])) nd'.2 (λt ht z=>nx t (by simp[ht]) (by simp[z]));show lf (zy3 (zoh L s a) p a) j=_;rw[ih,zlk hl hs];by_cases e1:j=s
  ·subst e1;rw[aA nd'.1,aF rfl,aA xsp,aF (by simp)]
  ·by_cases e2:j=xr s
   ·subst e2;have n1:xr s ∉ s :: p:=nx s (by simp);rw[aA xsp,zl91,aA nd'.1,aA e1,aF rfl,aA n1,aF (by simp)]
   ·have e3:xr j≠s:=λz=>e2 (by rw[<- z,zl91]);simp only[vW,e1,e2,e3,if_false,false_or]
def term(E:List Nat)(L:List Int)(v k:Nat):Int:=(if hd E (2 * k)=v then lf L (2 * k+1)else 0) - (if hd E (2 * k+1)=v then lf L (2 * k+1)else 0)
def bal(m:Nat)(E:List Nat)(L:List Int)(v:Nat):Int:=((u4 m).map (term E L v)).sum
theorem zdg{f g:Nat->Int}{d:Int}{k0:Nat}:∀(m:Nat),k0 < m->(∀k,k≠k0->g k=f k)->g k0=f k0+d->((u4 m).map g).sum=((u4 m).map f).sum+d
|0,h,_,_=>by lia
|m+1,h,h1,h2=>by
  rw[wY,v9,v9,yY,yY];by_cases e:k0=m
  ·subst e;have:(u4 k0).map g=(u4 k0).map f:=x6 λk hk=>h1 k (by have:=u9.mp hk;lia);rw[this];simp[h2];lia
  ·have ih:=zdg m (by lia) h1 h2;rw[ih];simp[h1 m (λz=>e z.symm)];lia
theorem zqv{v:Nat}(hl:L.length=2 * m)(hs:s < 2 * m):bal m E (zoh L s a) v=bal m E L v+((if hd E s=v then a else 0) - (if tl E s=v then a else 0)):=by
 unfold bal;refine zdg (k0:=s / 2) m (by lia) (λk hk=>?_) ?_
 ·unfold term;have:lf (zoh L s a) (2 * k+1)=lf L (2 * k+1):=by
   rw[zlk hl hs,aA (by lia),aA (by unfold xr;split <;> lia)]
  rw[this]
 ·unfold term;by_cases e:s % 2=0
  ·have e1:2 * (s / 2)=s:=by lia
   have e2:xr s=s+1:=by unfold xr;rw[aF e]
   have h1:lf (zoh L s a) (2 * (s / 2)+1)=lf L (2 * (s / 2)+1)+a:=by
    rw[zlk hl hs,e1,aA (by lia),aF e2.symm,e2]
   rw[h1,e1];have e3:tl E s=hd E (s+1):=by unfold tl;rw[e2]
   rw[e3];split <;> split <;> lia
  ·have e1:2 * (s / 2)+1=s:=by lia
   have e2:xr s=2 * (s / 2):=by unfold xr;rw[aA e];lia
   have h1:lf (zoh L s a) (2 * (s / 2)+1)=lf L (2 * (s / 2)+1) - a:=by
    rw[zlk hl hs,e1,aF rfl]
   rw[h1,e1];have e3:tl E s=hd E (2 * (s / 2)):=by unfold tl;rw[e2]
   rw[e3];split <;> split <;> lia
theorem zt9{m:Nat}{E:List Nat}{LA:List Int}{lv:List (Nat×Nat)}{a:Int}{w:Nat}:∀{p:List Nat}{L:List Int}{v t:Nat},L.length=2 * m->Way m E LA lv v p t->bal m E (zy3 L p a) w=bal m E L w+((if t=w then a else 0) - (if v=w then a else 0))
|[],L,v,t,_,h=>by
  rw[show v=t from h];show bal m E L w=_;lia
|s :: p,L,v,t,hl,h=>by
  have ih:=zt9 (a:=a) (w:=w) (p:=p) (L:=zoh L s a) (by rw[zof];exact hl) h.2.2.2;show bal m E (zy3 (zoh L s a) p a) w=_;rw[ih,zqv hl h.1,h.2.1];lia
structure Cap(m:Nat)(most:Nat->Int)(L:List Int):Prop where
 len:L.length=2 * m
 nn:∀s,s < 2 * m->0<=lf L s
 sm:∀k,k < m->lf L (2 * k)+lf L (2 * k+1)=most k
theorem Cap.carry{most:Nat->Int}{v t:Nat}(c:Cap m most L)(h:Way m E L lv v p t)(hv:lkp lv v=some a0)(ha:0<=a)(hm:∀s∈p,a<=lf L s):Cap m most (zy3 L p a):=by
 obtain⟨nd,nx⟩:=h.nodup hv;have hb:∀{v p t},Way m E L lv v p t->∀s∈p,s < 2 * m:=λ{v p t} h=>by
  induction p generalizing v with
 |nil=>intro s hs;simp at hs
 |cons x p ih =>
   intro s hs;rcases vW.mp hs with z|z
   ·subst z;exact h.1
   ·exact ih h.2.2.2 s z
 have hb:=hb h;have lc:∀j,lf (zy3 L p a) j=if j∈p then lf L j - a else if xr j∈p then lf L j+a else lf L j:=λj=>zuc c.len hb nd nx
 refine⟨by rw[zub];exact c.len,λs hs=>?_,λk hk=>?_⟩
 ·rw[lc];have:=c.nn s hs;split
  ·rename_i z;have:=hm s z;lia
  ·split <;> lia
 ·rw[lc,lc];have e1:xr (2 * k)=2 * k+1:=by unfold xr;rw[aF (by lia)]
  have e2:xr (2 * k+1)=2 * k:=by unfold xr;rw[aA (by lia)];lia
  rw[e1,e2];have:=c.sm k hk;by_cases h1:2 * k∈p
  ·have h2:2 * k+1 ∉ p:=λz=>nx _ h1 (by rw[e1];exact z);rw[aF h1,aA h2,aF h1];lia
  ·by_cases h2:2 * k+1∈p
   ·rw[aA h1,aF h2,aF h2];lia
   ·rw[aA h1,aA h2,aA h2,aA h1];lia
theorem zjq{v t:Nat}(hl:L.length=2 * m)(h:Way m E L lv v p t)(hv:lkp lv v=some a0)(ha:0<=a):∀s,s < 2 * m->Adm E (zy3 L p a) lv s->Adm E L lv s:=by
 intro s hs ⟨h1,b,h2,h3⟩;refine⟨?_,b,h2,h3⟩;obtain⟨nd,nx⟩:=h.nodup hv;have hb:∀{v p t},Way m E L lv v p t->∀s∈p,s < 2 * m:=λ{v p t} h=>by
  induction p generalizing v with
 |nil=>intro s hs;simp at hs
 |cons x p ih =>
   intro s hs;rcases vW.mp hs with z|z
   ·subst z;exact h.1
   ·exact ih h.2.2.2 s z
 rw[zuc hl (hb h) nd nx]at h1;by_cases e1:s∈p
 ·rw[aF e1]at h1;lia
 ·rw[aA e1]at h1;by_cases e2:xr s∈p
  ·-- the step against one of the way leads down
   obtain⟨c,k1,k2,k3⟩:=h.tails hv (xr s) e2;rw[zl51,h3]at k2;rw[zu11,h2]at k3;injection k2 with k2;injection k3 with k3;lia
  ·rw[aA e2]at h1;exact h1
theorem zgs{v t:Nat}(hl:L.length=2 * m)(h:Way m E L lv v p t)(hv:lkp lv v=some a0)
  (cl:∀s,s < 2 * m->0 < lf L s->(lkp lv (tl E s)).isSome=true->(lkp lv (hd E s)).isSome=true) (ha:0<=a):∀s,s < 2 * m->0 < lf (zy3 L p a) s->(lkp lv (tl E s)).isSome=true->(lkp lv (hd E s)).isSome=true:=by
 intro s hs h1 h2;obtain⟨nd,nx⟩:=h.nodup hv;have hb:∀{v p t},Way m E L lv v p t->∀s∈p,s < 2 * m:=λ{v p t} h=>by
  induction p generalizing v with
 |nil=>intro s hs;simp at hs
 |cons x p ih =>
   intro s hs;rcases vW.mp hs with z|z
   ·subst z;exact h.1
   ·exact ih h.2.2.2 s z
 rw[zuc hl (hb h) nd nx]at h1;by_cases e1:s∈p
 ·rw[aF e1]at h1;exact cl s hs (by lia) h2
 ·rw[aA e1]at h1;by_cases e2:xr s∈p
  ·obtain⟨c,k1,k2,k3⟩:=h.tails hv (xr s) e2;rw[zu11]at k3;rw[zl51]at k2;rw[k2];rfl
  ·rw[aA e2]at h1;exact cl s hs h1 h2
def tot(m:Nat)(most:Nat->Int):Int:=((u4 m).map most).sum
theorem zs01{most:Nat->Int}(c:Cap m most L)(v:Nat):bal m E L v<=tot m most:=by
 unfold bal tot;have:∀j,j<=m->((u4 j).map (term E L v)).sum<=((u4 j).map most).sum:=λj=>by
  induction j with
 |zero=>intro _;simp
 |succ j ih =>
   intro hj;have:=ih (by lia);rw[wY,v9,v9,yY,yY];have h1:=c.nn (2 * j) (by lia);have h2:=c.nn (2 * j+1) (by lia);have h3:=c.sm j (by lia);have h4:term E L v j<=most j:=by unfold term;split <;> split <;> lia
   simp;lia
 exact this m (u7 _)
open PySem
abbrev nB(a b:String):Prop:=(xG a==xG b)=false
abbrev nE(a b:String):Prop:=(xG a=xG b)=False
theorem nN{a b:String}(h:nB a b):nE a b:=eq_false (beq_eq_false_iff_ne.mp h)
theorem zr6:nB "ends" "left":=by decide +kernel
theorem zq4:nB "ends" "steps":=by decide +kernel
theorem zd6:nB "left" "ends":=by decide +kernel
theorem zp4:nB "left" "steps":=by decide +kernel
theorem zs4:nB "steps" "ends":=by decide +kernel
theorem zn4:nB "steps" "left":=by decide +kernel
theorem zl5:nB "amounts" "ends":=by decide +kernel
theorem za5:nB "amounts" "left":=by decide +kernel
theorem zs3:nB "amounts" "steps":=by decide +kernel
theorem zi6:nB "levels" "ends":=by decide +kernel
theorem zg6:nB "levels" "left":=by decide +kernel
theorem zj5:nB "levels" "steps":=by decide +kernel
theorem zy2:nB "row_behind" "ends":=by decide +kernel
theorem zw2:nB "row_behind" "left":=by decide +kernel
theorem zq2:nB "row_behind" "steps":=by decide +kernel
theorem zx4:nB "push_up" "ends":=by decide +kernel
theorem zg5:nB "push_up" "left":=by decide +kernel
theorem zd4:nB "push_up" "steps":=by decide +kernel
theorem zp6:nB "way_up" "ends":=by decide +kernel
theorem zj6:nB "way_up" "left":=by decide +kernel
theorem zb5:nB "way_up" "steps":=by decide +kernel
theorem zi5:nB "step_up" "ends":=by decide +kernel
theorem zz4:nB "step_up" "left":=by decide +kernel
theorem zw3:nB "step_up" "steps":=by decide +kernel
theorem zu7:nB "carry" "ends":=by decide +kernel
theorem zg7:nB "carry" "left":=by decide +kernel
theorem zh6:nB "carry" "steps":=by decide +kernel
theorem zf9:nE "ends" "left":=nN zr6
theorem zq7:nE "ends" "steps":=nN zq4
theorem ze9:nE "left" "ends":=nN zd6
theorem zy7:nE "left" "steps":=nN zp4
theorem za8:nE "steps" "ends":=nN zs4
theorem zd7:nE "steps" "left":=nN zn4
theorem zt4:nB "wide" "since":=by decide +kernel
theorem zr4:nB "wide" "other":=by decide +kernel
theorem zc6:nB "wide" "turn":=by decide +kernel
theorem ze7:nB "since" "wide":=by decide +kernel
theorem zl7:nB "other" "wide":=by decide +kernel
theorem zv4:nB "other" "turn":=by decide +kernel
theorem zg9:nB "turn" "wide":=by decide +kernel
theorem zc8:nB "turn" "other":=by decide +kernel
theorem zc4:nB "width_at" "wide":=by decide +kernel
theorem zk3:nB "width_at" "since":=by decide +kernel
theorem zo3:nB "width_at" "other":=by decide +kernel
theorem ze4:nB "width_at" "turn":=by decide +kernel
theorem zt7:nE "wide" "since":=nN zt4
theorem zm7:nE "wide" "other":=nN zr4
theorem zh9:nE "wide" "turn":=nN zc6
theorem zb8:nE "other" "turn":=nN zv4
open PySem.Spec PyProof.Rows _2 _3 _4
variable {m s:Nat}
def nI(x:Nat):D:=.int (x:Int)
abbrev dSt(S:List (List Nat)):D:=.list (S.map λl=>.list (l.map nI))
abbrev oS(C:aE)(E:List Nat)(L:List Int)(S:List (List Nat)):T:=.ob C [("ends",.fz (.list (E.map nI))),("left",.li (L.map .int)),("steps",.fz (dSt S))]
def kN(lv:List (Nat×Nat)):List (Key×D):=lv.map λp=>(.inl (p.1:Int),nI p.2)
theorem zy21(p v:Nat):((wU (p:Int):Key)=wU (v:Int))=(p=v):=by
 apply propext;constructor
 ·intro z;injection z with z;exact_mod_cast z
 ·intro z;rw[z]
theorem zvd(lv:List (Nat×Nat))(v:Nat):getA (kN lv) (.inl (v:Int))=(lkp lv v).map nI:=by
 unfold getA kN lkp
 induction lv with
|nil=>rfl
|cons p r ih =>
  by_cases e:p.1=v
  ·simp[e]
  ·have e2:¬(wU (p.1:Int):Key)=wU (v:Int):=by rw[zy21];exact e
   simp only[v4,xX];simp only[e,e2,decide_false];exact ih
theorem zr21{lv:List (Nat×Nat)}{v a:Nat}(h:lkp lv v=none):putD (kN lv) (.inl (v:Int)) (nI a)=kN (lv++[(v,a)]):=by
 unfold putD;have:((kN lv).any λkv=>decide (kv.1=(wU (v:Int):Key)))=false:=by
  rw[List.any_eq_false];intro kv hk;unfold kN at hk;obtain⟨p,hp,rfl⟩:=vU.mp hk;have h1:=znh h;have:p.1≠v:=λe=>h1 (by rw[<- e];exact zR hp);simp only[decide_eq_true_eq];rw[zy21];exact this
 rw[this];simp[kN]
theorem zhb1{l:List Nat}{i:Nat}(h:l[i]?=some s):atI (l.map nI) (i:Int)=some (nI s):=zre (by lia) (by rw[vZ,u8,h];rfl)
theorem zo51{E:List Nat}(hl:E.length=2 * m)(hs:s < 2 * m):atI (E.map nI) (s:Int)=some (nI (hd E s)):=by
 refine zhb1 ?_;unfold hd;rw[v6,u6 (by lia)];rfl
theorem zp81{L:List Int}(hl:L.length=2 * m)(hs:s < 2 * m):atI (L.map vQ) (s:Int)=some (.int (lf L s)):=by
 refine zre (by lia) ?_;rw[vZ,u8];unfold lf;rw[v6,u6 (by lia)];rfl
theorem zec1{S:List (List Nat)}{v:Nat}{l:List Nat}(h:S[v]?=some l):atI (S.map λl=>(yX (l.map nI))) (v:Int)=some (.list (l.map nI)):=zre (by lia) (by rw[vZ,u8,h];rfl)
theorem ze01(s:Nat):(s:Int)+1 - 2 * ((s:Int) % 2)=((xr s:Nat):Int):=by unfold xr;split <;> lia
variable {E beh row:List Nat}{L:List Int}{lv lv1:List (Nat×Nat)}{m n src:Nat}
structure Bfs(n m:Nat)(E:List Nat)(L:List Int)(src:Nat)(lv:List (Nat×Nat))(row:List Nat)(lev:Nat):Prop where
 nd:(lv.map (·.1)).Nodup
 bd:∀p∈lv,p.1 < n
 l0:lkp lv src=some 0
 z0:∀v,lkp lv v=some 0->v=src
 ro:∀v∈row,lkp lv v=some lev
 le:∀v b,lkp lv v=some b->b<=lev/\(b=lev->v∈row)
 cl:∀v b,lkp lv v=some b->b < lev->∀s,s < 2 * m->tl E s=v->0 < lf L s->(lkp lv (hd E s)).isSome=true
 pr:∀v a,lkp lv v=some (a+1)->∃s,s < 2 * m/\0 < lf L s/\hd E s=v/\lkp lv (tl E s)=some a
theorem Bfs.start(h:src < n):Bfs n m E L src [(src,0)] [src] 0:=by
 have e:∀v,lkp [(src,0)] v=if src=v then some 0 else none:=λv=>by
  by_cases z:src=v
  ·simp[lkp,z]
  ·simp[lkp,z]
 refine⟨by simp,λp hp=>?_,by rw[e];simp,λv hv=>?_,λv hv=>?_,λv b hv=>?_,λv b _ hb=>by lia,λv a hv=>?_⟩
 ·simp at hp;subst hp;exact h
 ·rw[e]at hv;split at hv
  ·rename_i z;exact z.symm
  ·cases hv
 ·simp at hv;subst hv;rw[e];simp
 ·rw[e]at hv;split at hv
  ·rename_i z;cases hv;exact⟨u7 _,λ_=>by simp[z]⟩
  ·cases hv
 ·rw[e]at hv;split at hv <;> cases hv
theorem Bfs.lev{n m:Nat}{E:List Nat}{L:List Int}{src:Nat}{lv:List (Nat×Nat)}{lev:Nat}(h:Bfs n m E L src lv [] lev):Lev n m E L src lv:=by
 refine⟨h.nd,h.bd,h.l0,h.z0,λs hs hp ht=>?_,h.pr⟩;obtain⟨b,hb⟩:=xM.mp ht;have:=h.le _ b hb;have hlt:b < lev:=by
  rcases wT b lev with z|z
  ·exact z
  ·have:=this.2 (by lia);simp at this
 exact h.cl _ b hb hlt s hs rfl hp
structure Mid(n m:Nat)(E:List Nat)(L:List Int)(lv:List (Nat×Nat))(lev:Nat)(lv1:List (Nat×Nat))(beh:List Nat):Prop where
 nd:(lv1.map (·.1)).Nodup
 bd:∀p∈lv1,p.1 < n
 old:∀v b,lkp lv v=some b->lkp lv1 v=some b
 new:∀v b,lkp lv1 v=some b->lkp lv v=some b \/ (b=lev+1/\v∈beh)
 ro:∀v∈beh,lkp lv1 v=some (lev+1)
 pr:∀v a,lkp lv1 v=some (a+1)->∃s,s < 2 * m/\0 < lf L s/\hd E s=v/\lkp lv1 (tl E s)=some a
 len:lv1.length=lv.length+beh.length
theorem Mid.start{lev:Nat}(h:Bfs n m E L src lv row lev):Mid n m E L lv lev lv [] :=
 ⟨h.nd,h.bd,λ_ _ z=>z,λ_ _ z=>.inl z,λv hv=>by simp at hv,h.pr,by simp⟩
theorem Mid.put{lev:Nat}{s:Nat}(h:Mid n m E L lv lev lv1 beh)(hs:s < 2 * m)(hp:0 < lf L s)(ht:lkp lv1 (tl E s)=some lev)(hn:hd E s < n)(hg:lkp lv1 (hd E s)=none):Mid n m E L lv lev (lv1++[(hd E s,lev+1)]) (beh++[hd E s]):=by
 have keep:∀v b,lkp lv1 v=some b->lkp (lv1++[(hd E s,lev+1)]) v=some b:=λv b e=>by rw[ztd,e]
 have me:lkp (lv1++[(hd E s,lev+1)]) (hd E s)=some (lev+1):=by rw[ztd,hg];simp
 have back:∀v b,lkp (lv1++[(hd E s,lev+1)]) v=some b->lkp lv1 v=some b \/ (v=hd E s/\b=lev+1):=λv b e=>by
  rw[ztd]at e;cases q:lkp lv1 v with
 |some c=>rw[q]at e;exact .inl e
 |none =>
   rw[q]at e;simp only at e;split at e
   ·rename_i z;cases e;exact .inr ⟨z.symm,rfl⟩
   ·cases e
 refine⟨?_,λp hp'=>?_,λv b e=>keep v b (h.old v b e),λv b e=>?_,λv hv=>?_,λv a e=>?_,by simp[h.len];lia⟩
 ·rw[v9];refine wM.mpr ⟨h.nd,by simp,λx hx y hy z=>?_⟩;simp at hy;subst hy;subst z;exact znh hg hx
 ·rcases vS.mp hp' with z|z
  ·exact h.bd p z
  ·simp at z;subst z;exact hn
 ·rcases back v b e with z|⟨z1,z2⟩
  ·rcases h.new v b z with y|⟨y1,y2⟩
   ·exact .inl y
   ·exact .inr ⟨y1,by simp[y2]⟩
  ·exact .inr ⟨z2,by simp[z1]⟩
 ·rcases vS.mp hv with z|z
  ·exact keep v _ (h.ro v z)
  ·simp at z;rw[z];exact me
 ·rcases back v (a+1) e with z|⟨z1,z2⟩
  ·obtain⟨s',k1,k2,k3,k4⟩:=h.pr v a z;exact⟨s',k1,k2,k3,keep _ _ k4⟩
  ·have:a=lev:=by lia
   subst this;exact⟨s,hs,hp,z1.symm,keep _ _ ht⟩
theorem Mid.bfs{S:List (List Nat)}{lev:Nat}(N:Net n m E S)(h0:Bfs n m E L src lv row lev)(h:Mid n m E L lv lev lv1 beh)
  (cl:∀v∈row,∀l,S[v]?=some l->∀s∈l,0 < lf L s->(lkp lv1 (hd E s)).isSome=true):Bfs n m E L src lv1 beh (lev+1):=by
 refine⟨h.nd,h.bd,h.old _ _ h0.l0,λv hv=>?_,h.ro,λv b hv=>?_,λv b hv hb s hs ht hp=>?_,h.pr⟩
 ·rcases h.new v 0 hv with z|⟨z,_⟩
  ·exact h0.z0 v z
  ·lia
 ·rcases h.new v b hv with z|⟨z1,z2⟩
  ·have:=h0.le v b z;exact⟨by lia,λe=>by lia⟩
  ·exact⟨by lia,λ_=>z2⟩
 ·rcases h.new v b hv with z|⟨z1,_⟩
  ·have le:=h0.le v b z;by_cases e:b=lev
   ·have hr:=le.2 e;obtain⟨l,hl,hm⟩:=N.s2 s hs;rw[ht]at hl;exact cl v hr l hl s hm hp
   ·have:=h0.cl v b z (by lia) s hs ht hp;obtain⟨c,hc⟩:=xM.mp this;rw[h.old _ c hc];rfl
  ·lia
variable {E p:List Nat}{L:List Int}{S:List (List Nat)}{here m n s src:Nat}{lv:List (Nat×Nat)}
structure Go(m:Nat)(E:List Nat)(S:List (List Nat))(L:List Int)(lv:List (Nat×Nat))(t src:Nat)(p:List Nat)(here:Nat)(TT:List (List Nat)):Prop where
 tri:Tri m E S L lv t TT
 way:Way m E L lv src p here
 l0:lkp lv src=some 0
 last:∀s∈p,∃l,TT[tl E s]?=some (l++[s])
def szT(TT:List (List Nat)):Nat:=(TT.map kP).sum
theorem zac:∀{TT:List (List Nat)}{v:Nat}{l:List Nat}(k:List Nat),TT[v]?=some l->szT (TT.set v k)+l.length=szT TT+k.length
|[],v,l,k,h=>by simp at h
|x :: r,0,l,k,h=>by simp at h;subst h;simp[szT];lia
|x :: r,v+1,l,k,h=>by
  have:=zac (TT:=r) (v:=v) k (by simpa using h);simp[szT]at this ⊢;lia
theorem Go.lev{t:Nat}{TT:List (List Nat)}(g:Go m E S L lv t src p here TT):lkp lv here=some p.length:=by
 have:=g.way.level g.l0
 rwa [Nat.zero_add]at this
theorem Go.short{t:Nat}{TT:List (List Nat)}(g:Go m E S L lv t src p here TT)(hb:∀s∈p,s < 2 * m):p.length<=2 * m :=
 zj1 _ p (g.way.nodup g.l0).1 hb
theorem Way.lt{m:Nat}{E:List Nat}{L:List Int}{lv:List (Nat×Nat)}:∀{v:Nat}{p:List Nat}{t:Nat},Way m E L lv v p t->∀s∈p,s < 2 * m
|_,[],_,_,s,hs=>by simp at hs
|v,x :: p,t,h,s,hs=>by
  rcases vW.mp hs with z|z
  ·rw[z];exact h.1
  ·exact h.2.2.2.lt s z
theorem Go.tails{t:Nat}{TT:List (List Nat)}(g:Go m E S L lv t src p here TT):∀s∈p,tl E s≠here:=by
 have key:∀{v:Nat}{p:List Nat}{u a:Nat},Way m E L lv v p u->lkp lv v=some a->∀s∈p,∃b,b < a+p.length/\lkp lv (tl E s)=some b:=by
  intro v p
  induction p generalizing v with
 |nil=>intro u a _ _ s hs;simp at hs
 |cons x r ih =>
   intro u a h e s hs;obtain⟨h1,h2,⟨h3,b,h4,h5⟩,h6⟩:=h;have:b=a:=by rw[h2,e]at h4;injection h4 with h4;exact h4.symm
   subst this;rcases vW.mp hs with z|z
   ·subst z;exact⟨b,by simp,h4⟩
   ·obtain⟨c,c1,c2⟩:=ih h6 h5 s z;exact⟨c,by simp;lia,c2⟩
 intro s hs e;obtain⟨b,h1,h2⟩:=key g.way g.l0 s hs;rw[e,g.lev]at h2;injection h2 with h2;lia
theorem Go.vain{t:Nat}{TT:List (List Nat)}(N:Net n m E S)(g:Go m E S L lv t src p here TT){l:List Nat}{j:Nat}(h:TT[here]?=some l)
  (bad:∀(i:Nat) s,j<=i->l[i]?=some s->¬(0 < lf L s/\lkp lv (hd E s)=some (p.length+1))):∀(i:Nat) s,j<=i->l[i]?=some s->¬(Adm E L lv s/\Rch m E L lv t (hd E s)):=λi s hi e z=>by
 obtain⟨k,h1,h2⟩:=g.tri.pre here l h;obtain⟨_,hs⟩:=N.s1 here k h1 s (h2.subset (wI e));obtain⟨z1,a,z2,z3⟩:=z.1;rw[hs,g.lev]at z2;injection z2 with z2;subst z2;exact bad i s hi e ⟨z1,z3⟩
theorem Go.cut{m:Nat}{E:List Nat}{S:List (List Nat)}{L:List Int}{lv:List (Nat×Nat)}{t src:Nat}{p:List Nat}{here n:Nat}{TT:List (List Nat)}(N:Net n m E S)(g:Go m E S L lv t src p here TT){l:List Nat}{j:Nat}(h:TT[here]?=some l)(hj:j<=l.length)
  (bad:∀(i:Nat) s,j<=i->l[i]?=some s->¬(0 < lf L s/\lkp lv (hd E s)=some (p.length+1))):Go m E S L lv t src p here (TT.set here (l.take j)) :=
 ⟨g.tri.cut h hj (g.vain N h bad),g.way,g.l0,λs hs=>by
  obtain⟨k,hk⟩:=g.last s hs;refine⟨k,?_⟩;rw[xK (λz=>g.tails s hs z.symm)];exact hk⟩
theorem zjg{TT:List (List Nat)}{v:Nat}{l:List Nat}(h:TT[v]?=some l):v < TT.length:=by
 rcases wT v TT.length with z|z
 ·exact z
 ·rw[wA z]at h;cases h
theorem Go.fwd{t:Nat}{TT:List (List Nat)}(N:Net n m E S)(g:Go m E S L lv t src p here TT){l:List Nat}{j:Nat}(h:TT[here]?=some l)(h0:0 < j)(hj:j<=l.length)
  (bad:∀(i:Nat) s,j<=i->l[i]?=some s->¬(0 < lf L s/\lkp lv (hd E s)=some (p.length+1))) (hs:l[j - 1]?=some s) (hp:0 < lf L s) (hl:lkp lv (hd E s)=some (p.length+1)) :
  Go m E S L lv t src (p++[s]) (hd E s) (TT.set here (l.take j))/\szT (TT.set here (l.take j))<=szT TT/\s < 2 * m:=by
 have g1:=g.cut N h hj bad;obtain⟨k,k1,k2⟩:=g.tri.pre here l h;obtain⟨hsm,hst⟩:=N.s1 here k k1 s (k2.subset (wI hs));refine⟨⟨g1.tri,g.way.snoc hsm hst ⟨hp,_,by rw[hst];exact g.lev,hl⟩,g.l0,λx hx=>?_⟩,?_,hsm⟩
 ·rcases vS.mp hx with z|z
  ·exact g1.last x z
  ·simp at z;subst z;refine⟨l.take (j - 1),?_⟩;rw[hst,xC (zjg h)];congr 1;have:j=(j - 1)+1:=by lia
   rw[this,xR,zF,hs];rfl
 ·have:=zac (l.take j) h;rw[wS]at this;lia
theorem Go.back{t:Nat}{TT:List (List Nat)}(N:Net n m E S)(g:Go m E S L lv t src (p++[s]) here TT){l:List Nat}(h:TT[here]?=some l)(ht:here≠t)
  (bad:∀(i:Nat) s',0<=i->l[i]?=some s'->¬(0 < lf L s'/\lkp lv (hd E s')=some ((p++[s]).length+1))) :
  s < 2 * m/\∃k,(TT.set here [])[tl E s]?=some (k++[s])/\Go m E S L lv t src p (tl E s) ((TT.set here []).set (tl E s) k)/\szT ((TT.set here []).set (tl E s) k)+1<=szT TT:=by
 have g1:=g.cut (j:=0) N h (wX _) bad;rw[zG]at g1;obtain⟨k,hk⟩:=g1.last s (by simp);obtain⟨w1,w2,w3,w4⟩:=g.way.unsnoc;have dead:¬Rch m E L lv t here:=g1.tri.dead N (v:=here) (by rw[xC (zjg h)]) ht;have tri2:=g1.tri.cut hk (k:=k.length) (by simp) (λj x hj e z=>by
  have hjl:j < (k++[s]).length:=by
   rcases wT j (k++[s]).length with y|y
   ·exact y
   ·rw[wA y]at e;cases e
  have:j=k.length:=by rw[vR]at hjl;simp at hjl;lia
  subst this;rw[List.getElem?_concat_length]at e;injection e with e;subst e;rw[w2]at z;exact dead z.2)
 rw[List.take_left]at tri2;have sz1:=zac (TT:=TT) [] h;have sz2:=zac k hk;have g2:Go m E S L lv t src p (tl E s) (TT.set here []):=⟨g1.tri,w1,g.l0,λx hx=>g1.last x (by simp[hx])⟩
 refine⟨w3,k,hk,⟨tri2,w1,g.l0,λx hx=>?_⟩,?_⟩
 ·obtain⟨q,hq⟩:=g2.last x hx;refine⟨q,?_⟩;rw[xK (λz=>g2.tails x hx z.symm)];exact hq
 ·rw[vR]at sz2;simp at sz1 sz2;lia
theorem Go.dead{m:Nat}{E:List Nat}{S:List (List Nat)}{L:List Int}{lv:List (Nat×Nat)}{t src:Nat}{here n:Nat}{TT:List (List Nat)}(N:Net n m E S)(g:Go m E S L lv t src [] here TT){l:List Nat}(h:TT[here]?=some l)(ht:here≠t)
  (bad:∀(i:Nat) s',0<=i->l[i]?=some s'->¬(0 < lf L s'/\lkp lv (hd E s')=some (([]:List Nat).length+1))):¬Rch m E L lv t src:=by
 have g1:=g.cut (j:=0) N h (wX _) bad;have e:src=here:=g.way;rw[e];exact g1.tri.dead N (v:=here) (by rw[xC (zjg h)];rfl) ht
theorem zfk{j:Nat}(h:j < n):ixN n ((j:Nat):Int)=some j:=by
 unfold ixN;rw[aF (by lia),aF (by lia),vZ]
structure Up(m:Nat)(most:Nat->Int)(E:List Nat)(L L':List Int)(src snk:Nat):Prop where
 cap:Cap m most L'
 eqb:∀v,v≠src->v≠snk->bal m E L' v=bal m E L v
 out:∀k,k < m->hd E (2 * k+1)=src->lf L (2 * k+1)<=lf L' (2 * k+1)
 inn:∀k,k < m->hd E (2 * k)=snk->lf L (2 * k+1)<=lf L' (2 * k+1)
 bs:bal m E L' src<=bal m E L src
 bt:bal m E L snk<=bal m E L' snk
theorem Up.refl{m:Nat}{most:Nat->Int}{E:List Nat}{L:List Int}{src snk:Nat}(c:Cap m most L):Up m most E L L src snk :=
 ⟨c,λ_ _ _=>rfl,λ_ _ _=>wR _,λ_ _ _=>wR _,wR _,wR _⟩
theorem Up.trans{m:Nat}{most:Nat->Int}{E:List Nat}{L L' _2:List Int}{src snk:Nat}(h:Up m most E L L' src snk)(k:Up m most E L' _2 src snk):Up m most E L _2 src snk :=
 ⟨k.cap,λv a b=>(k.eqb v a b).trans (h.eqb v a b),λi a b=>yN (h.out i a b) (k.out i a b),λi a b=>yN (h.inn i a b) (k.inn i a b),yN k.bs h.bs,yN h.bt k.bt⟩
theorem Up.carry{m:Nat}{most:Nat->Int}{E:List Nat}{L:List Int}{lv:List (Nat×Nat)}{src snk:Nat}{p:List Nat}{a:Int}(c:Cap m most L)(h:Way m E L lv src p snk)(l0:lkp lv src=some 0)(ha:0<=a)(hm:∀s∈p,a<=lf L s):Up m most E L (zy3 L p a) src snk:=by
 obtain⟨nd,nx⟩:=h.nodup l0;have lev:=h.level l0;have ft:∀{v:Nat}{p:List Nat}{u a:Nat},Way m E L lv v p u->lkp lv v=some a->∀s∈p,∃b,b < a+p.length/\lkp lv (tl E s)=some b:=by
  intro v p
  induction p generalizing v with
 |nil=>intro u a _ _ s hs;simp at hs
 |cons x r ih =>
   intro u a h e s hs;obtain⟨h1,h2,⟨h3,b,h4,h5⟩,h6⟩:=h;have:b=a:=by rw[h2,e]at h4;injection h4 with h4;exact h4.symm
   subst this;rcases vW.mp hs with z|z
   ·subst z;exact⟨b,by simp,h4⟩
   ·obtain⟨c,c1,c2⟩:=ih h6 h5 s z;exact⟨c,by simp;lia,c2⟩
 have keep:∀j,j ∉ p->lf L j<=lf (zy3 L p a) j:=λj hj=>by
  rw[zuc c.len h.lt nd nx,aA hj];split <;> lia
 refine⟨c.carry h l0 ha hm,λv v1 v2=>?_,λk hk e=>keep _ λz=>?_,λk hk e=>keep _ λz=>?_,by rw[zt9 c.len h,aF rfl];split <;> lia,by rw[zt9 c.len h,aF rfl];split <;> lia⟩
 ·rw[zt9 c.len h,aA (λz=>v2 z.symm),aA (λz=>v1 z.symm)];lia
 ·obtain⟨b,_,_,z3⟩:=h.tails l0 _ z;rw[e,l0]at z3;injection z3 with z3;lia
 ·obtain⟨b,z1,z2⟩:=ft h l0 _ z;have:tl E (2 * k+1)=snk:=by
   unfold tl xr;rw[aA (by lia),zF];exact e
  rw[this,lev]at z2;injection z2 with z2;lia
variable {E S side:List Nat}{L f:List Int}{cap x:Nat->Int}{eu ev:Nat->Nat}{i m n s:Nat}{lv:List (Nat×Nat)}
abbrev Ar:=Nat×Nat×Int
def dAr(a:Ar):D:=.tuple [nI a.1,nI a.2.1,.int a.2.2]
def zc7(A:List Ar):List Nat:=A.flatMap λa=>[a.2.1,a.1]
def zsa(A:List Ar)(f:List Int):List Int:=(A.zip f).flatMap λx=>[x.1.2.2 - x.2,x.2]
theorem zto(A:List Ar)(a:Ar):zc7 (A++[a])=zc7 A++[a.2.1,a.1]:=by simp[zc7]
theorem zc21{X:List Nat}(h:s < E.length):hd (E++X) s=hd E s:=by
 unfold hd;rw[v6,v6,wO h]
theorem zmc1{x y:Nat}(h:E.length=2 * m):hd (E++[x,y]) (2 * m)=x/\hd (E++[x,y]) (2 * m+1)=y:=by
 unfold hd;constructor
 ·rw[v6,wL (by lia),h];simp
 ·rw[v6,wL (by lia),h];simp
theorem Net.nil(n:Nat):Net n 0 [] (vV n []):=⟨rfl,λs hs=>by lia,by simp,(λv l h s hs=>by
 rw[xF]at h;split at h
 ·cases h;simp at hs
 ·cases h),λs hs=>by lia⟩
theorem Net.push{S:List (List Nat)}{u v:Nat}{l1 l2:List Nat}(N:Net n m E S)(hu:u < n)(hv:v < n)(h1:S[u]?=some l1)(h2:(S.set u (l1++[2 * m]))[v]?=some l2) :
  Net n (m+1) (E++[v,u]) ((S.set u (l1++[2 * m])).set v (l2++[2 * m+1])):=by
 obtain⟨e1,e2⟩:=zmc1 (x:=v) (y:=u) N.lE;have x1:xr (2 * m)=2 * m+1:=by unfold xr;rw[aF (by lia)]
 have x2:xr (2 * m+1)=2 * m:=by unfold xr;rw[aA (by lia)];lia
 have old:∀s,s < 2 * m->tl (E++[v,u]) s=tl E s:=λs hs=>zc21 (by rw[N.lE];exact zc51 hs);have t1:tl (E++[v,u]) (2 * m)=u:=by unfold tl;rw[x1];exact e2
 have t2:tl (E++[v,u]) (2 * m+1)=v:=by unfold tl;rw[x2];exact e1
 have A1:∀(w:Nat) l,(S.set u (l1++[2 * m]))[w]?=some l->∀s∈l,(s < 2 * m/\tl E s=w) \/ (s=2 * m/\w=u):=λw l h s hs=>by
  by_cases z:u=w
  ·subst z;rw[xC (by rw[N.lS];exact hu)]at h;cases h;rcases vS.mp hs with y|y
   ·exact .inl (N.s1 u l1 h1 s y)
   ·simp at y;exact .inr ⟨y,rfl⟩
  ·rw[xK z]at h;exact .inl (N.s1 w l h s hs)
 have B1:∀s,s < 2 * m->∃l,(S.set u (l1++[2 * m]))[tl E s]?=some l/\s∈l:=λs hs=>by
  obtain⟨l,k1,k2⟩:=N.s2 s hs;by_cases z:u=tl E s
  ·rw[<- z]at k1 ⊢;rw[h1]at k1;cases k1;exact⟨_,xC (by rw[N.lS];exact hu),by simp[k2]⟩
  ·exact⟨l,by rw[xK z];exact k1,k2⟩
 have B2:∃l,(S.set u (l1++[2 * m]))[u]?=some l/\2 * m∈l:=⟨_,xC (by rw[N.lS];exact hu),by simp⟩
 have B3:∀(w s:Nat),(∃l,(S.set u (l1++[2 * m]))[w]?=some l/\s∈l)->∃l,((S.set u (l1++[2 * m])).set v (l2++[2 * m+1]))[w]?=some l/\s∈l:=λw s ⟨l,k1,k2⟩=>by
  by_cases z:v=w
  ·subst z;rw[h2]at k1;cases k1;exact⟨_,xC (by rw[wK,N.lS];exact hv),by simp[k2]⟩
  ·exact⟨l,by rw[xK z];exact k1,k2⟩
 refine⟨by rw[vR,N.lE];simp;lia,λs hs=>?_,by rw[wK,wK];exact N.lS,λw l h s hs=>?_,λs hs=>?_⟩
 ·by_cases z:s < 2 * m
  ·rw[zc21 (by rw[N.lE];exact z)];exact N.bE s z
  ·have:s=2 * m \/ s=2 * m+1:=by lia
   rcases this with y|y
   ·rw[y,e1];exact hv
   ·rw[y,e2];exact hu
 ·have key:(s < 2 * m/\tl E s=w) \/ (s=2 * m/\w=u) \/ (s=2 * m+1/\w=v):=by
   by_cases z:v=w
   ·subst z;rw[xC (by rw[wK,N.lS];exact hv)]at h;cases h;rcases vS.mp hs with y|y
    ·rcases A1 v l2 h2 s y with k|k
     ·exact .inl k
     ·exact .inr (.inl k)
    ·simp at y;exact .inr (.inr ⟨y,rfl⟩)
   ·rw[xK z]at h;rcases A1 w l h s hs with k|k
    ·exact .inl k
    ·exact .inr (.inl k)
  rcases key with⟨k1,k2⟩|⟨rfl,rfl⟩|⟨rfl,rfl⟩
  ·exact⟨by lia,by rw[old s k1];exact k2⟩
  ·exact⟨by lia,t1⟩
  ·exact⟨by lia,t2⟩
 ·by_cases z:s < 2 * m
  ·rw[old s z];exact B3 _ _ (B1 s z)
  ·have:s=2 * m \/ s=2 * m+1:=by lia
   rcases this with y|y
   ·subst y;rw[t1];exact B3 _ _ B2
   ·subst y;rw[t2];exact⟨_,xC (by rw[wK,N.lS];exact hv),by simp⟩
theorem zhf:∀{A:List Ar}{f:List Int},f.length=A.length->(zsa A f).length=2 * A.length
|[],f,h=>by simp[zsa]
|a :: r,[],h=>by simp at h
|a :: r,x :: f,h=>by have:=zhf (A:=r) (f:=f) (by simpa using h);simp[zsa]at this ⊢;lia
theorem zka:∀{A:List Ar}{f:List Int}{k:Nat}{a:Ar}{x:Int},A[k]?=some a->f[k]?=some x->lf (zsa A f) (2 * k)=a.2.2 - x/\lf (zsa A f) (2 * k+1)=x
|[],f,k,a,x,h,_=>by simp at h
|b :: r,[],k,a,x,_,h=>by simp at h
|b :: r,y :: f,0,a,x,h1,h2=>by simp at h1 h2;subst h1;subst h2;simp[zsa,lf]
|b :: r,y :: f,k+1,a,x,h1,h2=>by
  have:=zka (A:=r) (f:=f) (k:=k) (by simpa using h1) (by simpa using h2);rw[show 2 * (k+1)=2 * k+1+1 by lia];simp[zsa,lf]at this ⊢;exact this
theorem zlf:∀{A:List Ar}{k:Nat}{a:Ar},A[k]?=some a->hd (zc7 A) (2 * k)=a.2.1/\hd (zc7 A) (2 * k+1)=a.1
|[],k,a,h=>by simp at h
|b :: r,0,a,h=>by simp at h;subst h;simp[zc7,hd]
|b :: r,k+1,a,h=>by
  have:=zlf (A:=r) (k:=k) (by simpa using h);rw[show 2 * (k+1)=2 * k+1+1 by lia];simp[zc7,hd]at this ⊢;exact this
def zn9(A:List Ar)(k:Nat):Int:=((A[k]?).map λa=>a.2.2).getD 0
theorem zms{A:List Ar}(hl:f.length=A.length)(hf:∀(k:Nat) a x,A[k]?=some a->f[k]?=some x->0<=x/\x<=a.2.2):Cap A.length (zn9 A) (zsa A f):=by
 have get:∀k,k < A.length->∃a x,A[k]?=some a/\f[k]?=some x:=λk hk=>⟨A[k],f[k],u6 _,u6 _⟩
 refine⟨zhf hl,λs hs=>?_,λk hk=>?_⟩
 ·obtain⟨a,x,h1,h2⟩:=get (s / 2) (by lia);obtain⟨e1,e2⟩:=zka h1 h2;have:=hf _ a x h1 h2;rcases Nat.mod_two_eq_zero_or_one s with z|z
  ·rw[show s=2 * (s / 2) by lia,e1];lia
  ·rw[show s=2 * (s / 2)+1 by lia,e2];lia
 ·obtain⟨a,x,h1,h2⟩:=get k hk;obtain⟨e1,e2⟩:=zka h1 h2;rw[e1,e2,zn9,h1];simp
theorem zby(h:L.length=2 * m):zom (L.map vQ) (some 1) none (some 2)=(u4 m).map λk=>.int (lf L (2 * k+1)):=by
 unfold zom;rw[u5,h];have e1:bK (some 1) none (some 2) (2 * m)=(max 0 (min (1:Int) ((2 * m:Nat):Int)),((2 * m:Nat):Int),2):=by
  unfold bK;rfl
 rw[e1];show j8 _ (e9 (max 0 (min (1:Int) ((2 * m:Nat):Int))) ((2 * m:Nat):Int) 2)=_;have e2:e9 (max 0 (min (1:Int) ((2 * m:Nat):Int))) ((2 * m:Nat):Int) 2=(u4 m).map λk=>2 * k+1:=by
  unfold e9;cases m with
 |zero=>rfl
 |succ m =>
   have e3:max 0 (min (1:Int) ((2 * (m+1):Nat):Int))=1:=by lia
   rw[e3];have:(if(2:Int) > 0 then(if(1:Int) < ((2 * (m+1):Nat):Int)then(((2 * (m+1):Nat):Int) - 1+2 - 1) / 2 else 0)else(if(1:Int) > ((2 * (m+1):Nat):Int)then(1 - ((2 * (m+1):Nat):Int) - 2 - 1) / (-2)else 0))=((m+1:Nat):Int):=by
    rw[aF (by decide),aF (by lia)];lia
   simp only[this];rw[vZ];refine x6 λk hk=>?_;lia
 rw[e2,uaJ];have:∀l:List Nat,(∀k∈l,k < m)->j8 ((λx=>(L.map vQ)[x]?) ∘ λk=>2 * k+1) l=l.map λk=>vQ (lf L (2 * k+1)):=by
  intro l
  induction l with
 |nil=>intro _;rfl
 |cons k r ih =>
   intro hk;have hk0:=hk k (by simp);have e:(L.map vQ)[2 * k+1]?=some (.int (lf L (2 * k+1))):=by
    rw[u8];unfold lf;rw[v6,u6 (by lia)];rfl
   rw[xB];simp only[Function.comp];rw[e];simp only[v4];congr 1;exact ih λx hx=>hk x (by simp[hx])
 exact this _ λk hk=>u9.mp hk
theorem zc11{S:List (List Nat)}{v:Nat}{l:List Nat}(h:S[v]?=some l):l.length<=szT S:=by
 have:=zac [] h;simp at this;lia
theorem zt31(i:Nat):CMul 2 (i:Int):=by
 unfold CMul;exact .inl (by decide)
theorem zfp:∀{A:List Ar}{f:List Int}{a:Ar}{x:Int},f.length=A.length->zsa (A++[a]) (f++[x])=zsa A f++[a.2.2 - x,x]:=by
 intro A f a x h;unfold zsa;rw[yZ h.symm,zS];rfl
structure Best(n:Nat)(A:List Ar)(f:List Int)(src snk:Nat)(L:List Int)(side:List Nat):Prop where
 up:Up A.length (zn9 A) (zc7 A) (zsa A f) L src snk
 inn:src∈side
 out:snk ∉ side
 bd:∀v∈side,v < n
 ris:side.Pairwise (· < ·)
 cl:∀s,s < 2 * A.length->0 < lf L s->tl (zc7 A) s∈side->hd (zc7 A) s∈side
 rc:∃lv,Lev n A.length (zc7 A) L src lv/\∀v,v∈side ↔ (lkp lv v).isSome=true
theorem ze11{v:Nat}:(lkp lv v).isSome=true ↔ v∈lv.map (·.1):=by
 constructor
 ·intro h;obtain⟨b,hb⟩:=xM.mp h;exact zR (f:=(·.1)) (zdo hb)
 ·intro h;cases e:lkp lv v with
 |some b=>rfl
 |none=>exact aJ h (znh e)
theorem ze31{A:List Ar}{src snk:Nat}(up:Up A.length (zn9 A) (zc7 A) (zsa A f) L src snk)(hv:Lev n A.length (zc7 A) L src lv)(ht:(lkp lv snk).isSome=false)
  {ns:List Int} (hp:ns.Perm (lv.map λp=>((p.1:Nat):Int))) (hs:ns.Pairwise (·<=·)):∃side:List Nat,ns.map vQ=side.map nI/\Best n A f src snk L side:=by
 have hmem:∀x∈ns,∃p∈lv,x=((p.1:Nat):Int):=λx hx=>by
  obtain⟨p,h1,h2⟩:=vU.mp (hp.mem_iff.mp hx);exact⟨p,h1,h2.symm⟩
 refine⟨ns.map Int.toNat,?_,?_⟩
 ·rw[wD];refine x6 λx hx=>?_;obtain⟨p,_,rfl⟩:=hmem x hx;simp[nI]
 have iff:∀v,v∈ns.map Int.toNat ↔ (lkp lv v).isSome=true:=λv=>by
  rw[ze11];constructor
  ·intro h;obtain⟨x,hx,rfl⟩:=vU.mp h;obtain⟨p,hp',rfl⟩:=hmem x hx;rw[vZ];exact zR (f:=(·.1)) hp'
  ·intro h;obtain⟨p,hp',rfl⟩:=vU.mp h;refine vU.mpr ⟨((p.1:Nat):Int),hp.mem_iff.mpr (vU.mpr ⟨p,hp',rfl⟩),vZ _⟩
 have nd:ns.Nodup:=by
  refine hp.nodup_iff.mpr ?_;have h1:=hv.nd;have:(lv.map λp=>((p.1:Nat):Int))=(lv.map (·.1)).map λx=>((x:Nat):Int):=by rw[wD];rfl
  rw[this];exact h1.map (λx:Nat=>(x:Int)) (λa b hne z=>hne (by exact_mod_cast z))
 refine⟨up,(iff _).mpr (by rw[hv.l0];rfl),(λz=>by rw[(iff _).mp z]at ht;cases ht),λv hvm=>?_,?_,λs h1 h2 h3=>(iff _).mpr (hv.cl s h1 h2 ((iff _).mp h3)),lv,hv,iff⟩
 ·obtain⟨b,hb⟩:=xM.mp ((iff v).mp hvm);exact hv.bd _ (zdo hb)
 ·have key:∀(l:List Int),l.Pairwise (·<=·)->l.Nodup->(∀x∈l,0<=x)->(l.map Int.toNat).Pairwise (· < ·):=by
   intro l
   induction l with
  |nil=>intros;exact .nil
  |cons x r ih =>
    intro h1 h2 h3;obtain⟨a1,a2⟩:=uaS.mp h1;obtain⟨b1,b2⟩:=v7.mp h2;refine uaS.mpr ⟨λy hy=>?_,ih a2 b2 λz hz=>h3 z (by simp[hz])⟩;obtain⟨z,hz,rfl⟩:=vU.mp hy;have c1:=a1 z hz;have c2:x≠z:=λe=>b1 (e ▸ hz);have c3:=h3 x (by simp);lia
  exact key ns hs nd λx hx=>by obtain⟨p,_,rfl⟩:=hmem x hx;lia
def sm(m:Nat)(g:Nat->Int):Int:=((u4 m).map g).sum
theorem zo4(m:Nat)(g:Nat->Int):sm (m+1) g=sm m g+g m:=by
 unfold sm;rw[wY,v9,yY];simp
theorem zc1{g h:Nat->Int}(e:∀k,k < m->g k=h k):sm m g=sm m h:=by
 unfold sm;rw[x6 λk hk=>e k (u9.mp hk)]
theorem zor(g h:Nat->Int):∀m,sm m (λk=>g k+h k)=sm m g+sm m h
|0=>rfl
|m+1=>by rw[zo4,zo4,zo4,zor g h m];lia
theorem zsi(g h:Nat->Int):∀m,sm m (λk=>g k - h k)=sm m g - sm m h
|0=>rfl
|m+1=>by rw[zo4,zo4,zo4,zsi g h m];lia
theorem zv2:∀m,sm m (λ_=>0)=0
|0=>rfl
|m+1=>by rw[zo4,zv2 m];rfl
theorem zis{g h:Nat->Int}:∀{m:Nat},(∀k,k < m->g k<=h k)->sm m g<=sm m h
|0,_=>wR _
|m+1,e=>by
  rw[zo4,zo4];have:=zis (m:=m) λk hk=>e k (by lia);have:=e m (by lia);lia
theorem zmd{g h:Nat->Int}:∀{m:Nat},(∀k,k < m->g k<=h k)->sm m g=sm m h->∀k,k < m->g k=h k
|0,_,_,k,hk=>by lia
|m+1,e,q,k,hk=>by
  rw[zo4,zo4]at q;have a:=zis (m:=m) λk hk=>e k (by lia);have b:=e m (by lia);by_cases z:k=m
  ·subst z;lia
  ·exact zmd (m:=m) (λk hk=>e k (by lia)) (by lia) k (by lia)
theorem zhr{j:Nat}(d:Int):∀{m:Nat},j < m->sm m (λk=>if k=j then d else 0)=d
|0,h=>by lia
|m+1,h=>by
  rw[zo4];by_cases z:m=j
  ·subst z;rw[aF rfl,zc1 (h:=λ_=>0) λk hk=>aA (by lia),zv2];lia
  ·rw[zhr d (m:=m) (by lia),aA z];lia
def trm(u v:Nat)(x:Int)(w:Nat):Int:=(if v=w then x else 0) - (if u=w then x else 0)
def bl(m:Nat)(eu ev:Nat->Nat)(x:Nat->Int)(w:Nat):Int:=sm m λk=>trm (eu k) (ev k) (x k) w
def flux(m:Nat)(eu ev:Nat->Nat)(x:Nat->Int)(side:List Nat):Int:=sm m λk=>(if ev k∈side then x k else 0) - (if eu k∈side then x k else 0)
theorem zna(m:Nat)(eu ev:Nat->Nat)(x:Nat->Int):∀{side:List Nat},side.Nodup->flux m eu ev x side=(side.map (bl m eu ev x)).sum
|[],_=>by
  unfold flux;rw[zc1 (h:=λ_=>0) λk _=>by simp,zv2];rfl
|w :: r,h=>by
  obtain⟨h1,h2⟩:=v7.mp h;rw[v4,xS,<- zna m eu ev x h2];unfold bl flux;rw[<- zor];refine zc1 λk _=>?_;unfold trm;have a:∀z:Nat,(if z∈w :: r then x k else 0)=(if z=w then x k else 0)+(if z∈r then x k else 0):=λz=>by
   by_cases e:z=w
   ·subst e;simp[h1]
   ·simp[e]
  rw[a,a];lia
theorem zak{g:Nat->Int}{s:Nat}:∀{side:List Nat},side.Nodup->s∈side->(∀w∈side,w≠s->g w=0)->(side.map g).sum=g s
|[],_,h,_=>by simp at h
|w :: r,nd,h,z=>by
  obtain⟨h1,h2⟩:=v7.mp nd;rw[v4,xS];by_cases e:w=s
  ·subst e;have:∀l:List Nat,(∀y∈l,g y=0)->(l.map g).sum=0:=by
    intro l
    induction l with
   |nil=>intro _;rfl
   |cons y t ih=>intro k;rw[v4,xS,k y (by simp),ih λu hu=>k u (by simp[hu])];rfl
   rw[this r λy hy=>z y (by simp[hy]) λq=>h1 (q ▸ hy)];lia
  ·have hs:s∈r:=by
    rcases vW.mp h with q|q
    ·exact aJ q.symm e
    ·exact q
   rw[zak h2 hs λy hy=>z y (by simp[hy]),z w (by simp) e];lia
theorem zpm{t:Nat}(nd:side.Nodup)(hs:s∈side)(ht:t ∉ side)(h:∀w,w≠s->w≠t->bl m eu ev x w=0):bl m eu ev x s=flux m eu ev x side:=by
 rw[zna m eu ev x nd,zak nd hs λw hw hn=>h w hn λq=>ht (q ▸ hw)]
def tight(m:Nat)(eu ev:Nat->Nat)(cap x:Nat->Int)(side:List Nat):Prop:=∀k,k < m->(eu k∈side->ev k ∉ side->x k=cap k)/\(ev k∈side->eu k ∉ side->x k=0)
def within(m:Nat)(cap x:Nat->Int):Prop:=∀k,k < m->0<=x k/\x k<=cap k
theorem zqt{y:Nat->Int}(hx:tight m eu ev cap x side)(hy:within m cap y):flux m eu ev x side<=flux m eu ev y side:=by
 refine zis λk hk=>?_;obtain⟨a,b⟩:=hx k hk;obtain⟨c,d⟩:=hy k hk;by_cases h1:ev k∈side
 ·by_cases h2:eu k∈side
  ·simp only[aF h1,aF h2];lia
  ·simp only[aF h1,aA h2,b h1 h2];lia
 ·by_cases h2:eu k∈side
  ·simp only[aA h1,aF h2,a h2 h1];lia
  ·simp only[aA h1,aA h2];lia
theorem zso(hx:tight m eu ev cap x side):flux m eu ev x side=- sm m λk=>if eu k∈side/\ev k ∉ side then x k else 0:=by
 have:flux m eu ev x side=sm m λk=>0 - (if eu k∈side/\ev k ∉ side then x k else 0):=by
  refine zc1 λk hk=>?_;obtain⟨a,b⟩:=hx k hk;by_cases h1:ev k∈side
  ·by_cases h2:eu k∈side
   ·simp[h1,h2]
   ·simp[h1,h2,b h1 h2]
  ·by_cases h2:eu k∈side
   ·simp[h1,h2]
   ·simp[h1,h2]
 rw[this,zsi,zv2];lia
def aU(A:List Ar)(k:Nat):Nat:=((A[k]?).map λa=>a.1).getD 0
def aV(A:List Ar)(k:Nat):Nat:=((A[k]?).map λa=>a.2.1).getD 0
theorem znr{A:List Ar}(w:Nat):bal A.length (zc7 A) L w=bl A.length (aU A) (aV A) (λk=>lf L (2 * k+1)) w:=by
 show sm _ _=sm _ _;refine zc1 λk hk=>?_;have ga:A[k]?=some A[k]:=u6 hk;obtain⟨e1,e2⟩:=zlf ga;unfold term trm aU aV;rw[e1,e2,ga];rfl
theorem ze6{l:List Nat}(h:l.Pairwise (· < ·)):l.Nodup:=h.imp λh=>by lia
theorem Best.tight{n:Nat}{A:List Ar}{f L:List Int}{src snk:Nat}{side:List Nat}(b:Best n A f src snk L side):tight A.length (aU A) (aV A) (zn9 A) (λk=>lf L (2 * k+1)) side:=λk hk=>by
 have ga:A[k]?=some A[k]:=u6 hk;obtain⟨e1,e2⟩:=zlf ga;have s1:=b.up.cap.sm k hk;have n1:=b.up.cap.nn (2 * k) (by lia);have n2:=b.up.cap.nn (2 * k+1) (by lia);have x1:xr (2 * k)=2 * k+1:=by unfold xr;rw[aF (by lia)]
 have x2:xr (2 * k+1)=2 * k:=by unfold xr;rw[aA (by lia)];lia
 have u1:aU A k=A[k].1:=by unfold aU;rw[ga];rfl
 have v1:aV A k=A[k].2.1:=by unfold aV;rw[ga];rfl
 rw[u1,v1];refine⟨λh1 h2=>?_,λh1 h2=>?_⟩
 ·by_cases z:0 < lf L (2 * k)
  ·have:=b.cl (2 * k) (by lia) z (by unfold tl;rw[x1,e2];exact h1);rw[e1]at this;exact aJ this h2
  ·show lf L (2 * k+1)=_;lia
 ·by_cases z:0 < lf L (2 * k+1)
  ·have:=b.cl (2 * k+1) (by lia) z (by unfold tl;rw[x2,e1];exact h1);rw[e2]at this;exact aJ this h2
  ·show lf L (2 * k+1)=_;lia
theorem Best.within{n:Nat}{A:List Ar}{f L:List Int}{src snk:Nat}{side:List Nat}(b:Best n A f src snk L side):within A.length (zn9 A) (λk=>lf L (2 * k+1)):=λk hk=>by
 have s1:=b.up.cap.sm k hk;have n1:=b.up.cap.nn (2 * k) (by lia);have n2:=b.up.cap.nn (2 * k+1) (by lia);show 0<=lf L (2 * k+1)/\lf L (2 * k+1)<=_;lia
abbrev Pr:=Nat×Nat
def pU(P:List Pr)(k:Nat):Nat:=((P[k]?).map λa=>a.1).getD 0
def pV(P:List Pr)(k:Nat):Nat:=((P[k]?).map λa=>a.2).getD 0
def fx(f:List Int)(k:Nat):Int:=(f[k]?).getD 0
def nb(P:List Pr)(f:List Int)(w:Nat):Int:=bl P.length (pU P) (pV P) (fx f) w
theorem zwu(u v w:Nat):trm u v 0 w=0:=by unfold trm;simp
theorem zn6{κ:Type}[DecidableEq κ](p:κ×D)(r:List (κ×D))(k:κ):getA (p :: r) k=if p.1=k then some p.2 else getA r k:=by
 unfold getA;rw[xX];by_cases e:p.1=k
 ·simp[e]
 ·simp[e]
theorem zmz(h:∀x∈f,0<=x)(k:Nat):0<=fx f k:=by
 unfold fx;cases e:f[k]? with
|none=>exact wR _
|some x=>exact h x (wI e)
theorem zs21(v:Nat):∀l:List Nat,(l.map nI).any (λy=>eqF y (nI v))=decide (v∈l)
|[]=>rfl
|x :: r=>by
  rw[v4,xP,zs21 v r];have:eqF (nI x) (nI v)=decide (x=v):=by
   show decide ((x:Int)=(v:Int))=decide (x=v);exact decide_eq_decide.mpr (by lia)
  rw[this];by_cases h:x=v
  ·subst h;simp
  ·have:¬v=x:=λy=>h y.symm;simp[h,this]
theorem zaz(l:List Nat):(l.map nI).all zrf=true:=by
 rw[List.all_map];simp[zrf,nI]
theorem zao{α:Type}(p:α->Prop)[DecidablePred p](x:α->Int):∀l:List α,∃xs,zcq (l.filterMap λa=>if p a then some (.int (x a))else none)=some xs/\xs.sum=(l.map λa=>if p a then x a else 0).sum
|[]=>⟨[],rfl,rfl⟩
|a :: r=>by
  obtain⟨xs,h1,h2⟩:=zao p x r;rw[xB,v4,xS];by_cases h:p a
  ·simp only[aF h];refine⟨x a :: xs,?_,by rw[xS,h2]⟩;show(zcq _).map (x a :: ·)=_;rw[h1];rfl
  ·simp only[aA h];exact⟨xs,h1,by rw[h2];lia⟩
theorem zwn{A:List Ar}(h:f.length=A.length):A.zip f=(u4 A.length).map λk=>((aU A k,aV A k,zn9 A k),fx f k):=by
 refine yC (by rw[List.length_zip,u5,wE];lia) λj h1 h2=>?_;rw[List.length_zip]at h1;have ja:j < A.length:=by lia
 have jf:j < f.length:=by lia
 rw[List.getElem_zip,List.getElem_map,uaD];unfold aU aV zn9 fx;rw[u6 ja,u6 jf];rfl
theorem ziu(m:Nat)(eu ev:Nat->Nat)(x:Nat->Int)(w:Nat):bl m eu ev x w=sm m (λk=>if ev k=w then x k else 0) - sm m (λk=>if eu k=w then x k else 0):=by
 unfold bl trm;rw[zsi]
theorem zep{A:List Ar}(v:Nat):bal A.length (zc7 A) (zsa A (vV A.length 0)) v=0:=by
 rw[znr];unfold bl;rw[zc1 (h:=λ_=>0) λk hk=>?_,zv2];have e:=(zka (A:=A) (f:=vV A.length 0) (k:=k) (a:=A[k]) (x:=0) (u6 hk) (by rw[xF,aF hk])).2;show trm _ _ (lf (zsa A (vV A.length 0)) (2 * k+1)) v=0;rw[e,zwu]
theorem Best.bal{n:Nat}{A:List Ar}{f L:List Int}{src snk:Nat}{side:List Nat}(b:Best n A f src snk L side)(hf:f.length=A.length)(h:∀w,w≠src->w≠snk->_5.bl A.length (aU A) (aV A) (fx f) w=0):∀v,v≠src->v≠snk->_5.bal A.length (zc7 A) L v=0:=λv h1 h2=>by
 rw[b.up.eqb v h1 h2,znr];rw[show _5.bl A.length (aU A) (aV A) (λk=>lf (zsa A f) (2 * k+1)) v=_5.bl A.length (aU A) (aV A) (fx f) v from zc1 λk hk=>?_]
 ·exact h v h1 h2
 ·have ga:A[k]?=some A[k]:=u6 hk;have gf:f[k]?=some f[k]:=u6 (by lia);have e:=(zka ga gf).2;show trm _ _ (lf (zsa A f) (2 * k+1)) v=_;rw[e];unfold fx;rw[gf];rfl
theorem zx31{A:List Ar}(hf:f.length=A.length){k:Nat}(hk:k < A.length):lf (zsa A f) (2 * k+1)=fx f k:=by
 have ga:A[k]?=some A[k]:=u6 hk;have gf:f[k]?=some f[k]:=u6 (by lia);rw[(zka ga gf).2];unfold fx;rw[gf];rfl
theorem zci(g:Nat->Int)(a:Nat):∀b,sm (a+b) g=sm a g+sm b λj=>g (a+j)
|0=>by simp[sm]
|b+1=>by rw[<- zT,zo4,zo4,zci g a b];lia
def tA(fl:List Int)(ps:List (Nat×Nat))(ws:List Int)(W:Int):List Ar :=
 (u4 fl.length).map (λi=>(0,2+i,fx fl i))++ps.map (λp=>(2+p.1,2+p.2,W))++(u4 ws.length).map (λi=>(2+i,1,fx ws i))
theorem zjf(fl:List Int)(ps:List (Nat×Nat))(ws:List Int)(W:Int):(tA fl ps ws W).length=fl.length+ps.length+ws.length:=by simp[tA,zT]
section
variable {fl:List Int}{ps:List (Nat×Nat)}{ws:List Int}{W:Int}
theorem tA1(h:i < fl.length):(tA fl ps ws W)[i]?=some (0,2+i,fx fl i):=by
 unfold tA;rw[wC,wO (by simpa using h),u8,xA h];rfl
theorem tA2{j:Nat}{p:Nat×Nat}(h:ps[j]?=some p):(tA fl ps ws W)[fl.length+j]?=some (2+p.1,2+p.2,W):=by
 have hj:=(v8.mp h).1;unfold tA;rw[wC,wL (by simp),u5,wE,zU,wO (by simpa using hj),u8,h];rfl
theorem tA3(h:i < ws.length):(tA fl ps ws W)[fl.length+ps.length+i]?=some (2+i,1,fx ws i):=by
 unfold tA;rw[wL (by simp),vR,u5,wE,u5,zU,u8,xA h];rfl
theorem zhq{A:List Ar}{k:Nat}{a:Ar}(h:A[k]?=some a):aU A k=a.1/\aV A k=a.2.1/\zn9 A k=a.2.2:=by
 unfold aU aV zn9;rw[h];exact⟨rfl,rfl,rfl⟩
theorem zt91(hw:ws.length=fl.length)(φ:Nat->Nat->Nat->Int):sm (tA fl ps ws W).length (λk=>φ (aU (tA fl ps ws W) k) (aV (tA fl ps ws W) k) k) =
  sm fl.length (λi=>φ 0 (2+i) i)+sm ps.length (λj=>φ (2+pU ps j) (2+pV ps j) (fl.length+j))+sm fl.length (λi=>φ (2+i) 1 (fl.length+ps.length+i)):=by
 rw[zjf,zci,zci];congr 1
 ·congr 1
  ·refine zc1 λi hi=>?_;obtain⟨e1,e2,_⟩:=zhq (tA1 (ps:=ps) (ws:=ws) (W:=W) hi);rw[e1,e2]
  ·refine zc1 λj hj=>?_;obtain⟨e1,e2,_⟩:=zhq (tA2 (fl:=fl) (ws:=ws) (W:=W) (u6 hj));show φ _ _ _=_;rw[e1,e2];unfold pU pV;rw[u6 hj];rfl
 ·rw[hw];refine zc1 λi hi=>?_;obtain⟨e1,e2,_⟩:=zhq (tA3 (fl:=fl) (ps:=ps) (W:=W) (i:=i) (by lia:i < ws.length));show φ _ _ _=_;rw[e1,e2]
theorem znu(g:Nat->Int)(nd:S.Nodup)(hb:∀v∈S,v < n):sm n (λi=>if i∈S then g i else 0)=(S.map g).sum:=by
 induction S with
|nil=>simp[zv2]
|cons v r ih =>
  obtain⟨h1,h2⟩:=v7.mp nd;rw[v4,xS,<- ih h2 λu hu=>hb u (by simp[hu]),<- zhr (j:=v) (g v) (hb v (by simp)),<- zor];refine zc1 λi hi=>?_;by_cases e:i=v
  ·subst e;simp[h1]
  ·simp[e]
structure Cut(fl:List Int)(ps:List (Nat×Nat))(ws:List Int)(W:Int)(x:Nat->Int):Prop where
 lw:ws.length=fl.length
 bp:∀p∈ps,p.1 < fl.length/\p.2 < fl.length
 wi:within (tA fl ps ws W).length (zn9 (tA fl ps ws W)) x
 b0:∀w,w≠0->w≠1->bl (tA fl ps ws W).length (aU (tA fl ps ws W)) (aV (tA fl ps ws W)) x w=0
variable {x:Nat->Int}
theorem Cut.x1(c:Cut fl ps ws W x)(h:i < fl.length):0<=x i/\x i<=fx fl i:=by
 have:=c.wi i (by rw[zjf];lia);rw[(zhq (tA1 h)).2.2]at this;exact this
theorem Cut.x2(c:Cut fl ps ws W x){j:Nat}(h:j < ps.length):0<=x (fl.length+j)/\x (fl.length+j)<=W:=by
 have:=c.wi (fl.length+j) (by rw[zjf];lia);rw[(zhq (tA2 (u6 h))).2.2]at this;exact this
theorem Cut.x3(c:Cut fl ps ws W x)(h:i < fl.length):0<=x (fl.length+ps.length+i)/\x (fl.length+ps.length+i)<=fx ws i:=by
 have hl:=c.lw;have:=c.wi (fl.length+ps.length+i) (by rw[zjf];lia);rw[(zhq (tA3 (by lia:i < ws.length))).2.2]at this;exact this
theorem Cut.flx(c:Cut fl ps ws W x)(S:List Nat):flux (tA fl ps ws W).length (aU (tA fl ps ws W)) (aV (tA fl ps ws W)) x S =
  sm fl.length (λi=>(if 2+i∈S then x i else 0) - (if 0∈S then x i else 0))+sm ps.length (λj=>(if 2+pV ps j∈S then x (fl.length+j)else 0) - (if 2+pU ps j∈S then x (fl.length+j)else 0)) +
  sm fl.length (λi=>(if 1∈S then x (fl.length+ps.length+i)else 0) - (if 2+i∈S then x (fl.length+ps.length+i)else 0)):=zt91 c.lw λu v k=>(if v∈S then x k else 0) - (if u∈S then x k else 0)
theorem Cut.worth(c:Cut fl ps ws W x):bl (tA fl ps ws W).length (aU (tA fl ps ws W)) (aV (tA fl ps ws W)) x 0=- sm fl.length x/\bl (tA fl ps ws W).length (aU (tA fl ps ws W)) (aV (tA fl ps ws W)) x 0=- sm fl.length (λi=>x (fl.length+ps.length+i)):=by
 constructor
 ·have nd:[0].Nodup:=by simp
  rw[zpm (t:=1) nd (by simp) (by simp) c.b0,c.flx];rw[zc1 (m:=fl.length) (h:=λi=>0 - x i) λi _=>by simp,zc1 (m:=ps.length) (h:=λ_=>0) λi _=>by simp,zv2];rw[zc1 (m:=fl.length) (g:=λi=>(if 1∈[0]then x (fl.length+ps.length+i)else 0) - (if 2+i∈[0]then x (fl.length+ps.length+i)else 0)) (h:=λ_=>0) λi _=>by simp,zv2,zsi,zv2];lia
 ·have nd:(0 :: (u4 fl.length).map (2+·)).Nodup:=by
   refine v7.mpr ⟨by simp,?_⟩;exact y0.map (2+·) (λa b h z=>h (by lia))
  have m2:∀i,i < fl.length->2+i∈0 :: (u4 fl.length).map (2+·):=λi hi=>wB _ (vU.mpr ⟨i,u9.mpr hi,rfl⟩);have m0:0∈0 :: (u4 fl.length).map (2+·):=wP;have m1:1 ∉ 0 :: (u4 fl.length).map (2+·):=by simp;lia
  have mp:∀j,j < ps.length->pU ps j < fl.length/\pV ps j < fl.length:=λj hj=>by
   unfold pU pV;rw[u6 hj];exact c.bp _ (w6 hj)
  rw[zpm (t:=1) nd m0 m1 c.b0,c.flx];rw[zc1 (m:=fl.length) (h:=λ_=>0) λi hi=>by rw[aF (m2 i hi),aF m0];lia,zv2,zc1 (m:=ps.length) (h:=λ_=>0) λj hj=>by rw[aF (m2 _ (mp j hj).2),aF (m2 _ (mp j hj).1)];lia,zv2];rw[zc1 (m:=fl.length) (h:=λi=>0 - x (fl.length+ps.length+i)) λi hi=>by rw[aA m1,aF (m2 i hi)],zsi,zv2];lia
theorem zho(l:List Int):l.sum=sm l.length (fx l):=by
 have:l=(u4 l.length).map (fx l):=by
  apply xZ;intro j;rw[u8];by_cases h:j < l.length
  ·rw[xA h,u6 h];show some l[j]=some (fx l j);unfold fx;rw[u6 h];rfl
  ·rw[wA (by lia),wA (by simpa using h)];rfl
 unfold sm;rw[<- this]
theorem Cut.short(c:Cut fl ps ws W x)(full:- bl (tA fl ps ws W).length (aU (tA fl ps ws W)) (aV (tA fl ps ws W)) x 0=ws.sum)(nd:S.Nodup)(hb:∀v∈S,v < fl.length)(cl:∀p∈ps,p.2∈S->p.1∈S) :
  (S.map λv=>fx ws v - fx fl v).sum<=0:=by
 have hl:=c.lw;rw[c.worth.2,Int.neg_neg,zho,hl]at full;have eq:=zmd (m:=fl.length) (λi hi=>(c.x3 hi).2) full;have nd2:(S.map (2+·)).Nodup:=nd.map (2+·) (λa b h z=>h (by lia));have z:flux (tA fl ps ws W).length (aU (tA fl ps ws W)) (aV (tA fl ps ws W)) x (S.map (2+·))=0:=by
  rw[zna _ _ _ _ nd2];have:∀l:List Nat,(∀v∈l,bl (tA fl ps ws W).length (aU (tA fl ps ws W)) (aV (tA fl ps ws W)) x v=0)->(l.map (bl (tA fl ps ws W).length (aU (tA fl ps ws W)) (aV (tA fl ps ws W)) x)).sum=0:=by
   intro l
   induction l with
  |nil=>intro _;rfl
  |cons y r ih=>intro k;rw[v4,xS,k y (by simp),ih λu hu=>k u (by simp[hu])];rfl
  refine this _ λv hv=>?_;obtain⟨u,_,rfl⟩:=vU.mp hv;exact c.b0 _ (by lia) (by lia)
 have i2:∀v,(2+v∈S.map (2+·)) ↔ v∈S:=λv=>by
  constructor
  ·intro h;obtain⟨u,hu,e⟩:=vU.mp h;have:u=v:=by lia
   exact this ▸ hu
  ·intro h;exact vU.mpr ⟨v,h,rfl⟩
 have n0:(0:Nat) ∉ S.map (2+·):=λh=>by obtain⟨u,_,e⟩:=vU.mp h;lia
 have n1:(1:Nat) ∉ S.map (2+·):=λh=>by obtain⟨u,_,e⟩:=vU.mp h;lia
 rw[c.flx]at z;have e1:sm fl.length (λi=>(if 2+i∈S.map (2+·)then x i else 0) - (if(0:Nat)∈S.map (2+·)then x i else 0))<=sm fl.length (λi=>if i∈S then fx fl i else 0):=zis λi hi=>by
  have:=c.x1 hi;rw[aA n0];by_cases h:i∈S
  ·rw[aF ((i2 i).mpr h),aF h];lia
  ·rw[aA (λy=>h ((i2 i).mp y)),aA h];lia
 have e2:sm ps.length (λj=>(if 2+pV ps j∈S.map (2+·)then x (fl.length+j)else 0) - (if 2+pU ps j∈S.map (2+·)then x (fl.length+j)else 0))<=sm ps.length (λ_=>0):=zis λj hj=>by
  have:=c.x2 hj;have hc:=cl ps[j] (w6 hj);have eu:pU ps j=ps[j].1:=by unfold pU;rw[u6 hj];rfl
  have ev:pV ps j=ps[j].2:=by unfold pV;rw[u6 hj];rfl
  rw[eu,ev];by_cases h:ps[j].2∈S
  ·rw[aF ((i2 _).mpr h),aF ((i2 _).mpr (hc h))];lia
  ·rw[aA (λy=>h ((i2 _).mp y))];split <;> lia
 have e3:sm fl.length (λi=>(if(1:Nat)∈S.map (2+·)then x (fl.length+ps.length+i)else 0) - (if 2+i∈S.map (2+·)then x (fl.length+ps.length+i)else 0))=sm fl.length (λi=>0 - (if i∈S then fx ws i else 0)):=zc1 λi hi=>by
  have hq:=eq i hi;rw[aA n1];by_cases h:i∈S
  ·rw[aF ((i2 i).mpr h),aF h,hq]
  ·rw[aA (λy=>h ((i2 i).mp y)),aA h]
 rw[zv2]at e2;have e3:=e3.trans ((zsi (λ_=>0) (λi=>if i∈S then fx ws i else 0) fl.length).trans (by rw[zv2,znu _ nd hb]));rw[znu _ nd hb]at e1;have e4:(S.map λv=>fx ws v - fx fl v).sum=(S.map (fx ws)).sum - (S.map (fx fl)).sum:=by
  have:∀l:List Nat,(l.map λv=>fx ws v - fx fl v).sum=(l.map (fx ws)).sum - (l.map (fx fl)).sum:=by
   intro l
   induction l with
  |nil=>rfl
  |cons y r ih=>simp only[v4,xS,ih];lia
  exact this S
 lia
theorem Cut.beyond(c:Cut fl ps ws W x)(hW:fl.sum < W)(tg:tight (tA fl ps ws W).length (aU (tA fl ps ws W)) (aV (tA fl ps ws W)) (zn9 (tA fl ps ws W)) x side)(h0:0∈side)(h1:1 ∉ side)(nds:side.Nodup) :
  (∀p∈ps,2+p.1∈side->2+p.2∈side)/\(- bl (tA fl ps ws W).length (aU (tA fl ps ws W)) (aV (tA fl ps ws W)) x 0≠ws.sum->0 < (((u4 fl.length).filter λv=>decide (2+v ∉ side)).map λv=>fx ws v - fx fl v).sum):=by
 have hl:=c.lw;have w1:=c.worth.1;have w2:=c.worth.2;have le1:sm fl.length x<=fl.sum:=by rw[zho];exact zis λi hi=>(c.x1 hi).2
 have fc:=zso tg;rw[<- zpm nds h0 h1 c.b0]at fc;have cutSum:sm (tA fl ps ws W).length (λk=>if aU (tA fl ps ws W) k∈side/\aV (tA fl ps ws W) k ∉ side then x k else 0)=sm fl.length (λi=>if 2+i ∉ side then x i else 0)+sm ps.length (λj=>if 2+pU ps j∈side/\2+pV ps j ∉ side then x (fl.length+j)else 0)+sm fl.length (λi=>if 2+i∈side then x (fl.length+ps.length+i)else 0):=by
  rw[zt91 c.lw λu v k=>if u∈side/\v ∉ side then x k else 0];congr 1
  ·congr 1;exact zc1 λi hi=>by simp[h0]
  ·exact zc1 λi hi=>by simp[h1]
 rw[cutSum]at fc;have nnS:∀{g:Nat->Int}{m:Nat},(∀i,i < m->0<=g i)->0<=sm m g:=λ{g m} h=>by
  have:=zis (m:=m) (g:=λ_=>0) (h:=g) h;rw[zv2]at this;exact this
 have p1:0<=sm fl.length (λi=>if 2+i ∉ side then x i else 0):=nnS λi hi=>by have:=c.x1 hi;split <;> lia
 have p3:0<=sm fl.length (λi=>if 2+i∈side then x (fl.length+ps.length+i)else 0):=nnS λi hi=>by have:=c.x3 hi;split <;> lia
 have noP:∀j,j < ps.length->¬(2+pU ps j∈side/\2+pV ps j ∉ side):=λj hj h=>by
  have t:=tg (fl.length+j) (by rw[zjf];lia);obtain⟨a1,a2,a3⟩:=zhq (tA2 (fl:=fl) (ws:=ws) (W:=W) (u6 hj));rw[a1,a2,a3]at t;have eu:pU ps j=ps[j].1:=by unfold pU;rw[u6 hj];rfl
  have ev:pV ps j=ps[j].2:=by unfold pV;rw[u6 hj];rfl
  have hx:=t.1 (by rw[<- eu];exact h.1) (by rw[<- ev];exact h.2);have hx:x (fl.length+j)=W:=hx;have big:W<=sm ps.length (λj=>if 2+pU ps j∈side/\2+pV ps j ∉ side then x (fl.length+j)else 0):=by
   rw[<- zhr (j:=j) W hj];exact zis λi hi=>by
    have:=c.x2 hi;by_cases e:i=j
    ·subst e;rw[aF rfl,aF h,hx];lia
    ·rw[aA e];split <;> lia
  lia
 refine⟨λp hp hu=>?_,λne=>?_⟩
 ·obtain⟨j,hj,e⟩:=uaC hp;have:=noP j hj;have eu:pU ps j=p.1:=by unfold pU;rw[u6 hj,e];rfl
  have ev:pV ps j=p.2:=by unfold pV;rw[u6 hj,e];rfl
  rw[eu,ev]at this;exact Classical.byContradiction λh=>this ⟨hu,h⟩
 ·have z2:sm ps.length (λj=>if 2+pU ps j∈side/\2+pV ps j ∉ side then x (fl.length+j)else 0)=0:=by
   rw[zc1 (h:=λ_=>0) λj hj=>aA (noP j hj),zv2]
  have t1:sm fl.length (λi=>if 2+i ∉ side then x i else 0)=sm fl.length (λi=>if 2+i ∉ side then fx fl i else 0):=zc1 λi hi=>by
   by_cases h:2+i∈side
   ·simp[h]
   ·have t:=tg i (by rw[zjf];lia);obtain⟨a1,a2,a3⟩:=zhq (tA1 (ps:=ps) (ws:=ws) (W:=W) hi);rw[a1,a2,a3]at t;rw[aF h,aF h];exact t.1 h0 h
  have t3:sm fl.length (λi=>if 2+i∈side then x (fl.length+ps.length+i)else 0)=sm fl.length (λi=>if 2+i∈side then fx ws i else 0):=zc1 λi hi=>by
   by_cases h:2+i∈side
   ·have t:=tg (fl.length+ps.length+i) (by rw[zjf];lia);obtain⟨a1,a2,a3⟩:=zhq (tA3 (fl:=fl) (ps:=ps) (W:=W) (i:=i) (by lia:i < ws.length));rw[a1,a2,a3]at t;rw[aF h,aF h];exact t.1 h h1
   ·simp[h]
  have le3:sm fl.length (λi=>x (fl.length+ps.length+i))<=ws.sum:=by rw[zho,hl];exact zis λi hi=>(c.x3 hi).2
  have tot:ws.sum=sm fl.length (λi=>if 2+i∈side then fx ws i else 0)+sm fl.length (λi=>if 2+i ∉ side then fx ws i else 0):=by
   rw[zho,hl,<- zor];exact zc1 λi hi=>by by_cases h:2+i∈side <;> simp[h]
  have nd:((u4 fl.length).filter λv=>decide (2+v ∉ side)).Nodup:=y0.filter _;have hb:∀v∈(u4 fl.length).filter λv=>decide (2+v ∉ side),v < fl.length:=λv hv=>u9.mp (yG.mp hv).1;rw[<- znu _ nd hb];have:sm fl.length (λi=>if i∈(u4 fl.length).filter λv=>decide (2+v ∉ side)then fx ws i - fx fl i else 0)=sm fl.length (λi=>(if 2+i ∉ side then fx ws i else 0) - (if 2+i ∉ side then fx fl i else 0)):=zc1 λi hi=>by
   by_cases h:2+i∈side
   ·simp[h]
   ·simp[h,hi]
  rw[this,zsi];lia
end
end _5
namespace _4
open PySem PySem.Spec PyProof.Rows _2 _3
variable {U:DSt}{i:Nat}
section
variable {K:Fg}{g:TG}{dg:DG}{tb:TS}{db:DS}{n:Nat}
theorem RS.swap{B:Bs}{F H:Hp}{Y:_2.St}{fps:Nat->List aE}{s s2:Sl}{t:T}{a:aE}(r:RS K B F H Y U fps)(hi:U[i]?=some s)(hs:s.own=true)(ht:s.tree=some t)(hs2:s2.own=true)(ht2:s2.tree=some t)(hx:Y.getD i none=some (.ref a))(ha:∀a' u,s2=.io a' u->a'=a)
  (hn:∀b∈fps i,B.H0 b=none):RS K B F H Y (U.set i s2) fps:=by
 have hl:i < U.length:=(v8.mp hi).1;have key:∀(j:Nat) s',(U.set i s2)[j]?=some s'->(j=i/\s'=s2) \/ (j≠i/\U[j]?=some s'):=λj s' e=>by
  by_cases z:i=j
  ·subst z;rw[xC hl]at e;cases e;exact .inl ⟨rfl,rfl⟩
  ·rw[xK z]at e;exact .inr ⟨λy=>z y.symm,e⟩
 refine⟨r.hh,r.ff,r.fh,r.nw,r.al,by rw[wK];exact r.len,λj d e=>?_,λj s' e hs'=>?_,λj s' e ho c hc=>?_,λj k s' s'' hjk e1 e2 o1 o2 c hc=>?_⟩
 ·rcases key j _ e with⟨_,z⟩|⟨_,z⟩
  ·rw[<- z]at hs2;cases hs2
  ·exact r.sh j d z
 ·rcases key j _ e with⟨rfl,rfl⟩|⟨_,z⟩
  ·obtain⟨x,t',g1,g2,g3,g4,g5⟩:=r.rt j s hi (zh7 hs);rw[ht]at g2;cases g2;rw[hx]at g1;cases g1;exact⟨_,t,hx,ht2,g3,λa' u z=>by rw[ha a' u z],g5⟩
  ·exact r.rt j s' z hs'
 ·rcases key j _ e with⟨rfl,rfl⟩|⟨_,z⟩
  ·exact .inl (hn c hc)
  ·exact r.fr j s' z ho c hc
 ·rcases key j _ e1 with⟨rfl,rfl⟩|⟨_,z⟩
  ·rcases key k _ e2 with⟨rfl,_⟩|⟨_,z2⟩
   ·exact aJ rfl hjk
   ·exact r.dj j k s s'' hjk hi z2 hs o2 c hc
  ·rcases key k _ e2 with⟨rfl,rfl⟩|⟨_,z2⟩
   ·exact r.dj j k s' s hjk z hi o1 (zh7 hs) c hc
   ·exact r.dj j k s' s'' hjk z z2 o1 o2 c hc
def zz81(i:Nat)(dg:DG)(db:DS):DS:=λE U=>∃ds,U[i]?=some (.ow (.li ds))/\∀a,∃W:Nat->DSt->Prop,W 0 (U.set i (.io a (.li ds)))/\(∀j U',W j U'->U'[i]?=some (.io a (.li ds))) /\
 (∀j d U',ds[j]?=some d->W j U'->dg d U' λU2=>db { E with nx:=W (j+1),ct:=W (j+1),bk:=λ_=>False } U2)/\∀U',W ds.length U'->E.nx (U'.set i (.ow (.li ds)))
theorem zh41(hg:RfG K n g dg)(hb:RfS K tb db):RfS K (tFor (iW K (tVar i)) g tb) (zz81 i dg db):=by
 walk_at"5";obtain⟨ds,hi,h⟩:=h;obtain⟨x,t,g1,g2,g3,g4,g5⟩:=r.rt i _ hi rfl;cases g2;generalize hf:fps i=fp at g3;cases g3 with
|li a1 a2 a3 =>
  rename_i a xs
  have h0:B.H0 a=none:=by
   rcases r.fr i _ hi rfl a (by rw[hf];simp)with z|⟨_,z⟩
   ·exact z
   ·exact aJ rfl (z _)
  obtain⟨W,w0,wi,ws,we⟩:=h a;have r0:RS K B F H Y (U.set i (.io a (.li ds))) fps:=r.swap hi rfl rfl rfl rfl g1 (λa' u z=>by cases z;rfl) (λb hb=>by rw[hf]at hb;simp at hb;rw[hb];exact h0);refine⟨_,zya (F:=F) (H:=H) (U:=U) g1,.inl (.inl ⟨a,rfl,⟨xs,SqL.of a1⟩,?_⟩)⟩;refine⟨λj m Y' H'=>m=ds.length - j/\j<=ds.length/\∃F' U' fps',RS K B F' H' Y' U' fps'/\W j U',⟨ds.length,rfl,wX _,F,_,fps,r0,w0⟩,?_⟩;rintro j m Y' H' ⟨rfl,hj',F',U',fps',r',w'⟩;have hi':=wi j U' w';obtain⟨x',t',c1,c2,c3,c4,c5⟩:=r'.rt i _ hi' rfl;cases c2;have:=c4 a _ rfl;subst this;generalize hf':fps' i=fp' at c3;cases c3 with
 |li b1 b2 b3 =>
   have el:=b3.dlen;by_cases hlt:j < ds.length
   ·refine .inr ⟨⟨_,_,SqL.of b1,u6 (by lia)⟩,λY2 H2=>j+1<=ds.length/\∃F2 U2 fps2,RS K B F2 H2 Y2 U2 fps2/\W (j+1) U2,λY2 H2 p=>⟨_,by lia,rfl,p⟩,λy H2 hy=>?_⟩;obtain⟨rfl,hy⟩:=hy;have hit:ds[j]?=some ds[j]:=u6 hlt;obtain⟨y',d1,d2⟩:=b3.dget hit;have:=hy _ (SqL.of b1);rw[d1]at this;cases this;refine hg r'.fh d2 (ws j _ U' hit w') λY2 U2 hd2 u2=>?_;exact hb (r'.byUpd u2) hd2 ⟨λr3 q=>⟨hlt,_,_,_,r3,q⟩,λr3 q=>q.elim,λr3 q=>⟨hlt,_,_,_,r3,q⟩,λres q=>k.rt res q⟩
   ·have e:j=ds.length:=by lia
    subst e;refine .inl ⟨⟨_,SqL.of b1,by lia⟩,k.nx (r'.swap hi' rfl rfl rfl rfl c1 (λa' u z=>by cases z) (λb hb=>by rw[hf']at hb;simp at hb;rw[hb];exact h0)) (we _ w')⟩
theorem zsv{α:Type}{xs:List α}{enc:α->D}{E:DEnds}(hi:U[i]?=some (.ow (.li (xs.map enc))))(W:aE->Nat->DSt->Prop)(h0:∀a,W a 0 (U.set i (.io a (.li (xs.map enc)))))(hs:∀a j U',W a j U'->U'[i]?=some (.io a (.li (xs.map enc))))
  (hb:∀a (j:Nat) x U',xs[j]?=some x->W a j U'->dg (enc x) U' λU2=>db { E with nx:=W a (j+1),ct:=W a (j+1),bk:=λ_=>False } U2) (he:∀a U',W a xs.length U'->E.nx (U'.set i (.ow (.li (xs.map enc))))):zz81 i dg db E U:=by
 refine⟨_,hi,λa=>⟨W a,h0 a,hs a,λj d U' e w=>?_,λU' w=>he a U' (by rw[u5]at w;exact w)⟩⟩;rw[u8]at e;obtain⟨x,hx,rfl⟩:=wQ.mp e;exact hb a j x U' hx w
end
abbrev DX:=aE->DSt->Prop
section
variable {X:Cx}{x:Str}{pos pos':Pos}{e a b:aX}{te ta tb:TE}{k j:Nat}{K:Fg}
theorem pset(i:Nat)(hN:X.N.Nodup)(he:PE X e te)(hi:X.N[i]?=some x:=by rfl)(hx:Loc X.env.scope x:=by walk_at"vi")(hs:fM e (some (.Name x pos')) pos.line X.env=pure false:=by rfl)(hf:X.fn x=true \/ X.env.scope.names.lookup x=some .local:=by walk_at"vi"):PS X (.Assign [.Name x pos'] e pos) (tAsg te (zir i)):=zo71 hN hi hx he hs hf
theorem pgn(i:Nat)(hN:X.N.Nodup)(hi:X.N[i]?=some x:=by rfl)(hx:Loc X.env.scope x:=by walk_at"vi")(hf:X.fn x=true \/ X.env.scope.names.lookup x=some .local:=by walk_at"vi"):PG X (.Name x pos) (zir i):=zh11 hN hi hx hf
theorem pix(w:aQ)(K:Fg)(hr:Room k X.A)(ha:PE X a ta)(hb:PE X b tb)(hw:X.w=w:=by rfl)(hK:X.K=K:=by rfl)(hs:zot b:=by exact λ_ _=>rfl):PE X (.Subscript a b pos) (tOp (rIxV w K) ta tb):=zsb1 (ix_V (Room.units hr) hw hK) ha hb hs
theorem nds(l:List Str)(h:l.Nodup:=by decide +kernel):l.Nodup:=h
theorem rvi{i:Int}:RfV K (tC (.int i)) (dC (.int i)):=RfE.v zd1
theorem rgn(i:Nat)(hi:i < 100:=by decide):RfG K 100 (zir i) (gN i):=zn1 hi
theorem rmn{A:bB}(hr:Room k A)(h:j<=k:=by decide):Room j A:=Room.mono hr h
end
end _4
namespace _5
open PySem PySem.Spec PyProof.Rows _2 _3 _4
variable {n:Nat}{s:aH}
theorem zo31:a9 "dict"=some (.type "dict"):=by decide +kernel
theorem zth:typeLookup (.type "list") "keys"=pure none:=by rw[typeLookup_type,builtinLookup_eq_fast];kernel_rfl
theorem zie:entryFor table "dict.update.loop"=some Builtin.«dict.update.loop»:=entryFor_of_fast (by kernel_rfl)
theorem zd8:plainId "dict.update.loop"=true:=by decide +kernel
section
variable {prog:aN}{w:aQ}{A:bB}{E:aC->aH->Prop}
theorem zg41{l:aE}{ob:Obj}{ys:Array aC}{Q:Option aC->aH->Prop}(h1:s.heap.get? l=some ob)(h2:ob.cls=.type "list")(h3:ob.data=.seq ys n)(h4:ob.dict=none)(hA:A.handled=none)
  (k:∀g tk e,Heap.NewExcOf s.heap g e "AttributeError"->Q none { s with heap:=g,toks:=tk }):aI (aM prog w) A (getAttr? (.ref l) "keys") Q E s:=by
 obtain⟨c,dct,dat,sl⟩:=ob;simp only at h2 h3 h4;subst h2;subst h3;subst h4;obtain⟨hp,g,d,tk,os⟩:=s;have tyL:∀t',(⟨hp,g,d,t',os⟩:aH).TypeIs (.ref l) "list":=λ_=>⟨_,h1,rfl⟩
 have g1:=sub_AttributeError;have g3:=F.slot_list_getattribute.lookup;have g4:=F.slot_list_getattribute.bind (.ref l);have g5:=am_list_getattr_none;unfold getAttr? getAttrBy? getAttrBy
 repeat (any_goals (first|assumption|exact tyL _|((with_reducible show aI _ _ (call (Value.builtin "list.__getattribute__") _ _) _ _ _);refine d4 F.slot_list_getattribute (tyL _) am_entry_list_getattribute (F.args_list_getattribute_2 _ _) (meets_getattribute_miss_list l ys n sl "keys" _ zth (by decide +kernel)) ⟨h1,hA,λg' tk' e ne=>?_⟩)|wp_step))
 obtain⟨t',u',he⟩:=ne.there;show aI _ _ (gM _ _ _ _ _ _ _) _ _ _;unfold gM
 repeat (any_goals (first|assumption|wp_step))
 exact k _ _ _ ne.of
end
section
variable {X:Cx}{pins:List (aE×Obj)}{Y:_2.St}{A:bB}{E:aC->aH->Prop}
theorem zar{H H':Hp}{a:aE}{y v:V}{u r:aC}{Q:Unit->aH->Prop}(hu:A.units+1 < b7)(I:_2.Inv X pins Y H s)(g:DPut H a y v H')(ry:RelV y u)(rv:RelV v r)
  (k:∀g t,bD a s.heap g->_2.Inv X pins Y H' { s with heap:=g,toks:=t }->Q () { s with heap:=g,toks:=t }):aI (aM X.prog X.w) A.in1 (dictSet a u r) Q E s:=by
 rcases g with⟨kvs,c,e,ey,l,eH⟩|⟨kvs,c,b,e,ey,eb,l,eH⟩
 ·subst ey;subst eH;obtain⟨z,hd,vs,rel,dd⟩:=zn51 I.hok e;refine wpAny_dictSet_pairs (hsz:=by rw[<- rel.length];exact z) (zvv ry) dd λg dd' hs=>k g _ hs ?_;refine zug I (by rw[e];exact True.intro) hs ?_ (zcw (by have:=zr3 kvs c v;lia) hd (rel.put c rv) dd');obtain⟨q,_,_,hq,_⟩:=dd';exact⟨q,hq⟩
 ·subst ey;subst eH;cases (show u=vX b from ry);obtain⟨z,hd,xs,rel,dd⟩:=zha1 I.hok e;refine wpAny_dictSet_heap (hsz:=by rw[<- dR rel];exact z) (cM hu) (ztk I.hok eb) dd λg dd' hs=>k g _ hs ?_;obtain⟨q,es,ep,hq,p2,p3,p4,_,p5⟩:=dd';refine zug I (by rw[e];exact True.intro) hs ⟨q,hq⟩ ⟨by have:=zr3 kvs c v;lia,hd,_,(rel.put c eb rv).keeps λf ys ec=>?_,q,es,ep,hq,p2,p3,p4,p5⟩;rw[ze1 (zz91 ec e (λz=>nomatch z))];exact ec
theorem zlr(hA:A.handled=none)(hu:A.units+1 < b7){R:hV->aH->Prop}{p l it:aE}{ys:List V}{H:Hp}{G:Nat->HO}(hq:SqL X.K H p ys)(hl:H l=none)(nl:it≠l)(fo:FpOk X pins H it)
  (hG:∀(i:Nat) y,ys[i]?=some y->∃q k v,y=.ref q/\SqT X.K H q [k,v]/\DPut (upd H l (G i)) l k v (upd H l (G (i+1)))) (hR:∀s',_2.Inv X pins Y (upd H l (G ys.length)) s'->R (.ok (.ret .none)) s') :
  ∀(n i:Nat)(s:aH)(z:Int)(t:Tok),ys.length - i=n->i<=ys.length->_2.Inv X pins Y (upd H l (G i)) s->s.heap.IsListIter it p i->dH (aM X.prog X.w) A (.builtin "dict.update.loop" ⟨[.ref l,.ref it,.int z t,.none],[]⟩) R s:=by
 have hit:∀o,upd H l o it=none:=λo=>by rw[ze1 nl];exact fo.1
 have turn:∀{i:Nat}{s:aH}{g:aT},_2.Inv X pins Y (upd H l (G i)) s->(∀b o,b≠it->s.heap.get? b=some o->g.get? b=some o)->_2.Inv X pins Y (upd H l (G i)) { s with heap:=g }:=λI kp=>I.turned (t':=_) kp (hit _) fo.2.1 fo.2.2.2.1 fo.2.2.2.2.1 fo.2.2.2.2.2;intro n
 induction n with
|zero =>
  intro i s z t hn hi I hI;have ei:i=ys.length:=by lia
  subst ei;obtain⟨its,rv,pl,_⟩:=I.list ((zw1 hl (G ys.length)).seq hq);have hlen:=rv.length;refine iF zie ?_;rw[Around.under_plainId zd8 _];show aI _ A.in1 (fT (.ref it) >>= _) _ _ s;refine aG (fW hA hI pl.isList (by simp[hlen]) λg hx=>?_);show aI _ _ (Builtin.Dict.addKeywords l [] >>= _) _ _ _;exact aG (aK (aK (hR _ (turn I λb o hb e=>hx b o hb e))))
|succ n ih =>
  intro i s z t hn hi I hI;have hlt:i < ys.length:=by lia
  obtain⟨q,kk,v,ey,sq,dp⟩:=hG i ys[i] (u6 hlt);obtain⟨its,rv,pl,_⟩:=I.list ((zw1 hl (G i)).seq hq);have hlen:=rv.length;have hlt2:i < its.length:=by lia
  obtain⟨uq,gq,rq⟩:=rv.get (u6 hlt);rw[ey]at rq;cases (show uq=vX q from rq);refine iF zie ?_;rw[Around.under_plainId zd8 _];show aI _ A.in1 (fT (.ref it) >>= _) _ _ s;refine aG (fR hI pl.isList (x:=.ref q) (by simpa using gq) λg hI2 hs=>?_);have I2:=turn I λb o hb e=>(hs.2 b hb).trans e;obtain⟨tis,rt,tp,tz⟩:=I2.tuple (zml (zw1 hl (G i)) sq);obtain⟨u1,u2,rfl,r1,r2⟩:=zk21 rt;obtain⟨ob,o1,o2,o3,o4⟩:=tp;refine aG (cK ?_);refine aG (wpAny_tryCatch ?_);unfold Builtin.Dict.pairItems;refine aG (gG (T := "tuple") ⟨ob,o1,o2⟩ ?_);rw[aF (by decide)];refine aG (bU o1 o4 (aK ?_));refine cK (zar hu I2 dp r1 r2 λg2 t2 hs2 I3=>?_);refine aK ⟨plainId_quiet zd8 _,ih (i+1) _ _ _ (by lia) hlt I3 ?_⟩;obtain⟨oi,j1,j2⟩:=hI2;exact⟨oi,(hs2.2 it nl).trans j1,j2⟩
end
def zab1(K:Fg):List V->Hp->VK->Prop:=λxs H Q=>∃p ys,∃G:Nat->HO,xs=[.ref p]/\SqL K H p ys/\(G 0=.dK [] \/ G 0=.dT []) /\
 (∀l,H l=none->∀(i:Nat) y,ys[i]?=some y->∃q k v,y=.ref q/\SqT K H q [k,v]/\DPut (upd H l (G i)) l k v (upd H l (G (i+1))))/\∀l,H l=none->Q (.ref l) (upd H l (G ys.length))
theorem zxm{X:Cx}{K:Fg}(hK:X.K=K)(hc:X.calm=true)(hu:X.A.units+64 < b7):CallR X (.type "dict") (zab1 K):=by
 subst hK;intro pins s Y H xs us Q I r hw;obtain⟨p,ys,G,rfl,hq,h0,hG,q⟩:=hw;obtain⟨u,rfl,rx⟩:=zxs r;cases rx;have hl:H s.heap.objs.size=none:=I.hok.fresh (u7 _);have hA:=I.ok.hd hc;refine callType_codes (Q₁:=λob s'=>ob=.ref s.heap.objs.size/\s'={ s with heap:=s.heap.push { cls:=.type "dict",data:=.dict #[] } }) F.kt_called_dict (F.kt_typeCall_dict_1 _) F.entry_dict_init (kt_code_dict_new _ ⟨rfl,rfl⟩) ?_;rintro ob s' ⟨rfl,rfl⟩;have I1:_2.Inv X pins Y (upd H s.heap.objs.size (G 0)) { s with heap:=s.heap.push { cls:=.type "dict",data:=.dict #[] } }:=by
  rcases h0 with e|e
  ·rw[e];exact I.laid (t':=s.toks) (λ_ _ z=>vT _ z) (u7 _) (zvn s.heap I.big)
  ·rw[e];exact I.laid (t':=s.toks) (λ_ _ z=>vT _ z) (u7 _) (zmy s.heap I.big)
 have tyD:Shared.TypeIs { s with heap:=s.heap.push { cls:=.type "dict",data:=.dict #[] } } (.ref s.heap.objs.size) "dict":=⟨_,wF _ rfl,rfl⟩
 refine⟨tyD,F.args_dict_init_2 _ _,?_⟩;unfold Builtin.«dict.__init__»;refine aG ?_;unfold Builtin.Dict.selfAndRest;refine aG (wpAny_notOrdered_dict tyD ?_);show aI _ _ (pure (s.heap.objs.size,[vX p])) _ _ _;refine aK ?_;show aI _ _ (Builtin.Dict.updateFrom "dict.__init__" s.heap.objs.size (.ref p) [] .none) _ _ _;obtain⟨its,rv,pl,_⟩:=I1.list ((zw1 hl (G 0)).seq hq);obtain⟨o,n,o1,o2,o3,o4⟩:=pl;unfold Builtin.Dict.updateFrom;refine aG (gG (T := "list") ⟨o,o1,o2⟩ ?_);rw[aF (by decide)];refine aG (zg41 o1 o2 o4 o3 hA λg tk e ne=>?_);rw[aF (show(none:Option aC).isNone=true from rfl)];refine aG (f8 ?_);have I2:_2.Inv X pins Y (upd H s.heap.objs.size (G 0)) { s with heap:=g,toks:=tk }:=I1.kept ne.keeps;refine aG (dJ ⟨o,ne.keeps _ _ o1,o2,n,o4⟩ ?_);have lt:s.heap.objs.size < g.objs.size:=vY (ne.keeps _ _ (wF _ rfl));have fo:FpOk X pins H g.objs.size:=I2.fpOk (u7 _) (by have:=I2.hok.fresh (a:=g.objs.size) (u7 _);rw[ze1 (y9 lt)]at this;exact this);exact aK ⟨plainId_quiet zd8 _,zlr (A:=X.A.in1) (R:=wants (λr s₂=>r=xI/\EP X pins Y Q (vX s.heap.objs.size) s₂) X.xe) (X:=X) (l:=s.heap.objs.size) (it:=g.objs.size) hA (by show X.A.units+1+1 < b7;lia) hq hl (y9 lt) fo (hG _ hl) (λs' I'=>⟨rfl,.ref _,_,I',rfl,q _ hl⟩) ys.length 0 _ _ _ (by lia) (wX _)
  (I2.kept (t':=tk) λb u z=>vT _ z) ⟨_,wF _ rfl,rfl,rfl⟩⟩
theorem zvz{H:Hp}{l:aE}{a b:HO}:upd (upd H l a) l b=upd H l b:=by funext x;unfold upd;split <;> rfl
section
variable {K:Fg}{te:TE}{de:DE}
theorem zwz(k:Key):keyD (kD k)=some k:=by cases k <;> rfl
def mG{κ:Type}[DecidableEq κ](l:List (κ×V)):List (κ×V):=l.foldl (λa x=>putK a x.1 x.2) []
def mD{κ:Type}[DecidableEq κ](l:List (κ×D)):List (κ×D):=l.foldl (λa x=>putD a x.1 x.2) []
theorem zy31{κ:Type}[DecidableEq κ]{l:List (κ×V)}{i:Nat}{k:κ}{v:V}(h:l[i]?=some (k,v)):mG (l.take (i+1))=putK (mG (l.take i)) k v:=by
 unfold mG;rw[xR,h,List.foldl_append];rfl
theorem zg81{κ:Type}[DecidableEq κ](l:List (κ×V)):(mG l).length<=l.length:=by
 have:∀(l:List (κ×V))(a:List (κ×V)),(l.foldl (λa x=>putK a x.1 x.2) a).length<=a.length+l.length:=by
  intro l
  induction l with
 |nil=>intro a;simp
 |cons x r ih=>intro a;have:=ih (putK a x.1 x.2);have:=zr3 a x.1 x.2;simp only[zK,xL];lia
 simpa[mG]using this l []
theorem zyb1{κ:Type}[DecidableEq κ]{F:Hp}{r:List (κ×V)}{t:List (κ×D)}(h:KvIs K F r t):KvIs K F (mG r) (mD t):=by
 have:∀{r:List (κ×V)}{t:List (κ×D)},KvIs K F r t->∀{a:List (κ×V)}{b:List (κ×D)},KvIs K F a b->KvIs K F (r.foldl (λa x=>putK a x.1 x.2) a) (t.foldl (λa x=>putD a x.1 x.2) b):=by
  intro r t h
  induction h with
 |nil=>intro a b h;exact h
 |cons hv _ ih=>intro a b h;exact ih (h.put hv)
 exact this h .nil
theorem zr31{F:Hp}{v:V}{d1 d2:D}(h:Is K F v (.tuple [d1,d2])):∃q v1 v2,v=.ref q/\SqT K F q [v1,v2]/\Is K F v1 d1/\Is K F v2 d2:=by
 obtain⟨a,xs,rfl,h1,h2⟩:=h.tuple_inv;cases h2 with
|cons i1 r =>
  cases r with
 |cons i2 r=>cases r;exact⟨a,_,_,rfl,h1,i1,i2⟩
theorem zs41{F:Hp}:∀{ys:List V}{ps:List (Key×D)},IsAll K F ys (ps.map λp=>.tuple [kD p.1,p.2])->∃vp:List (Key×V),KvIs K F vp ps/\vp.length=ys.length/\∀(i:Nat) y,ys[i]?=some y->∃q k v,y=.ref q/\SqT K F q [kV k,v]/\vp[i]?=some (k,v)
|_,[],.nil=>⟨[],.nil,rfl,λi y h=>by simp at h⟩
|_,p :: ps,.cons h r=>by
  obtain⟨vp,h1,h2,h3⟩:=zs41 r;obtain⟨q,v1,v2,rfl,s1,i1,i2⟩:=zr31 h;have:=zuk i1 (zwz p.1);subst this;refine⟨(p.1,v2) :: vp,.cons i2 h1,by simp[h2],λi y e=>?_⟩;cases i with
 |zero=>simp at e;subst e;exact⟨q,p.1,v2,rfl,s1,rfl⟩
 |succ i=>exact h3 i y (by simpa using e)
def zay(de:DE):DN:=λU Q=>de U λd=>∃ps:List (Key×D),d=.list (ps.map λp=>.tuple [kD p.1,p.2])/\ps.length < sizeLine/\Q (.dk (mD ps))
theorem zii(de:DE)(U:DSt)(Q:T->Prop):zay de U Q=(de U λd=>∃ps:List (Key×D),d=.list (ps.map λp=>.tuple [kD p.1,p.2])/\ps.length < sizeLine/\Q (.dk (mD ps))):=rfl
theorem zu81{F H:Hp}{l:aE}(s:Same F H)(h:H l=none):F l=none:=by
 cases e:F l with
|none=>rfl
|some o=>rw[s l o e]at h;cases h
theorem zyv(h:RfE K te de):RfN K (tCB (zab1 K) (zon te tNil)) (zay de):=by
 walk_at"3";refine h s rv hd λd q v F1 H1 e1 i1=>?_;obtain⟨ps,rfl,hz,q⟩:=q;obtain⟨p,ys,rfl,h1,h2⟩:=i1.list_inv;obtain⟨vp,k1,k2,k3⟩:=zs41 h2;have hl:=k1.len;refine⟨p,ys,λi=>.dK (mG (vp.take i)),rfl,e1.fh.seq h1,.inl rfl,λl hn i y ey=>?_,λl hn=>?_⟩
 ·obtain⟨q,kk,vv,rfl,s1,g1⟩:=k3 i y ey;have hi:=(v8.mp g1).1;refine⟨q,kV kk,vv,rfl,zml e1.fh s1,.inl ⟨mG (vp.take i),kk,zt0,rfl,?_,?_⟩⟩
  ·have:=zg81 (vp.take i);rw[wS]at this;lia
  ·show upd H1 l (.dK (mG (vp.take (i+1))))=upd (upd H1 l (.dK (mG (vp.take i)))) l _;rw[zy31 g1,zvz]
 ·have fl:=zu81 e1.fh hn;have e2:Ext F1 H1 F1 (upd H1 l (.dK (mG vp))):=zkn e1.fh hn;show Q (.ref l) (upd H1 l (.dK (mG (vp.take ys.length))));rw[<- k2,xH];refine k _ q (.ref l) F1 _ [l] (e1.trans e2) (.dk zt0 fl (zyb1 k1)) (by simp) λa ha=>?_;simp at ha;subst ha;cases z:H a with
 |none=>rfl
 |some o=>rw[e1.h a o z]at hn;cases hn
end
section
variable {K:Fg}
def zxn:List D->(D->Prop)->Prop
|[.int i,.int j],Q=>0 < j/\j < 1606938044258990275541962092341162602522202993782792835301376/\Q (.tuple [.int (i / j),.int (i % j)])
|_,_=>False
theorem zke(i j:Int)(Q:D->Prop):zxn [.int i,.int j] Q=(0 < j/\j < 1606938044258990275541962092341162602522202993782792835301376/\Q (.tuple [.int (i / j),.int (i % j)])):=rfl
theorem zsy:CB K zkt zxn:=by
 walk_at"10";unfold zxn at h;split at h
 ·obtain⟨v,u,rfl,h1,h2⟩:=vw2 hv;rw[h1.int,h2.int];refine⟨_,_,rfl,h.1,h.2.1,λp hp=>?_⟩;obtain⟨e,i⟩:=zzd (K:=K) s hp (.cons (.int _) (.cons (.int _) .nil));exact k _ h.2.2 _ _ _ e i
 ·exact h.elim
end
theorem zoc1{α β:Type}{xs:List α}{enc:α->D}(ok:β->Prop)(en:β->D){ix:List Nat}{dg:DG}{de:DE}{U:DSt}{Q:List D->Prop}(hz:xs.length<=sizeLine)
  (h:∀x∈xs,dg (enc x) (cST n ix U) λU'=>de U' λr=>∃b,ok b/\r=en b) (q:∀bs:List β,bs.length=xs.length->(∀b∈bs,ok b)->Q (bs.map en)):zk51 (xs.map enc) n ix dg zmf de U Q:=by
 refine⟨by rw[u5];exact hz,λ_ o=>∃b,ok b/\o=some (en b),λi d e=>?_,λos hl hR=>?_⟩
 ·rw[u8]at e;obtain⟨x,hx,rfl⟩:=wQ.mp e;have:=h x (wI hx);have e1:(λr=>∃b,ok b/\some r=some (en b))=λr=>∃b,ok b/\r=en b:=by funext r;simp
  show dg (enc x) (cST n ix U) λU'=>if true=true then de U' λr=>∃b,ok b/\some r=some (en b)else ∃b,ok b/\none=some (en b)
  rw[e1];simp only[if_true];exact this
 ·have key:∀os:List (Option D),(∀o∈os,∃b,ok b/\o=some (en b))->∃bs:List β,bs.length=os.length/\(∀b∈bs,ok b)/\os.filterMap id=bs.map en:=by
   intro os
   induction os with
  |nil=>intro _;exact⟨[],rfl,(λb hb=>by simp at hb),rfl⟩
  |cons o r ih =>
    intro k;obtain⟨b,h1,rfl⟩:=k o (by simp);obtain⟨bs,k1,k2,k3⟩:=ih λo ho=>k o (by simp[ho]);refine⟨b :: bs,by simp[k1],λc hc=>?_,by simp[k3]⟩;rcases vW.mp hc with z|z
    ·rw[z];exact h1
    ·exact k2 c z
  obtain⟨bs,b1,b2,b3⟩:=key os λo ho=>by
   obtain⟨j,hj⟩:=List.mem_iff_getElem?.mp ho;exact hR j o hj
  rw[b3];exact q bs (by rw[b1,hl,u5]) b2
variable {A:List Ar}{L f0:List Int}{eu ev:Nat->Nat}{k' m m' n w:Nat}{side:List Nat}{x:Nat->Int}
def su{α:Type}(l:List α)(f:α->Int):Int:=(l.map f).sum
section
variable {α β:Type}
theorem zu5(f:α->Int):su [] f=0:=rfl
theorem za1(x:α)(l:List α)(f:α->Int):su (x :: l) f=f x+su l f:=by unfold su;simp
theorem zt5(l m:List α)(f:α->Int):su (l++m) f=su l f+su m f:=by unfold su;simp
theorem zr5(l:List β)(p:β->α)(f:α->Int):su (l.map p) f=su l λx=>f (p x):=by unfold su;rw[wD];rfl
theorem zp0{l:List α}{f g:α->Int}(h:∀x∈l,f x=g x):su l f=su l g:=by unfold su;rw[x6 h]
theorem zbb(l:List β)(p:β->List α)(f:α->Int):su (l.flatMap p) f=su l λx=>su (p x) f:=by
 induction l with
|nil=>rfl
|cons x r ih=>rw[wH,zt5,ih,za1]
theorem zlc(l:List α):su l (λ_=>0)=0:=by
 induction l with
|nil=>rfl
|cons x r ih=>rw[za1,ih];rfl
theorem su_zero'{l:List α}{f:α->Int}(h:∀x∈l,f x=0):su l f=0:=by rw[zp0 h,zlc]
theorem zla(l:List α)(f g:α->Int):su l (λx=>f x+g x)=su l f+su l g:=by
 induction l with
|nil=>rfl
|cons x r ih=>rw[za1,za1,za1,ih];lia
theorem zv9(l:List α)(f g:α->Int):su l (λx=>f x - g x)=su l f - su l g:=by
 induction l with
|nil=>rfl
|cons x r ih=>rw[za1,za1,za1,ih];lia
theorem zoy{l:List α}{f g:α->Int}(h:∀x∈l,f x<=g x):su l f<=su l g:=by
 induction l with
|nil=>exact wR _
|cons x r ih =>
  have a:=h x wP;have b:=ih λy hy=>h y (wB _ hy);rw[za1,za1];lia
theorem zx8{k:Nat}(d:Nat->Int)(h:k < n):su (u4 n) (λj=>if j=k then d j else 0)=d k:=by
 have:=zhr (j:=k) (d k) h;unfold sm at this;refine Eq.trans (zp0 λj _=>?_) this;by_cases e:j=k
 ·subst e;simp
 ·simp[e]
end
theorem zwg{F:List Int}(h:F.length=A.length)(Φ:Nat->Nat->Int->Int->Prop):(∀k,k < A.length->Φ (aU A k) (aV A k) (zn9 A k) (fx F k)) ↔ ∀p∈A.zip F,Φ p.1.1 p.1.2.1 p.1.2.2 p.2:=by
 rw[zwn h];constructor
 ·intro q p hp;obtain⟨k,hk,rfl⟩:=vU.mp hp;exact q k (u9.mp hk)
 ·intro q k hk;exact q _ (vU.mpr ⟨k,u9.mpr hk,rfl⟩)
theorem zds{F:List Int}(h:F.length=A.length)(φ:Nat->Nat->Int->Int):(sm A.length λk=>φ (aU A k) (aV A k) (fx F k))=su (A.zip F) λp=>φ p.1.1 p.1.2.1 p.2:=by
 rw[zwn h,zr5];rfl
structure Nt where
 N:Nat
 n:Nat
 fl:Nat->Int
 rm:Nat->Int
 P:Nat->List Nat
 U:Nat->Nat
 V:Nat->Nat
 Ln:Nat->Nat
 W:Nat->Nat->Int
structure Fm where
 a:Nat->Int
 r:Nat->Nat->Int
 g:Nat->Nat->Int
 t:List (Nat->Int)
def Nt.nd(T:Nt)(m k:Nat):Nat:=2+m * T.N+k
def Nt.arcs(T:Nt)(cs:List (Nat->Int)):List Ar :=
 (u4 T.N).map (λk=>(0,T.nd 0 k,T.fl k))++((u4 T.n).flatMap λm=>(u4 T.N).map (λk=>(T.nd m k,T.nd (m+1) k,T.rm k))++(T.P m).map λi=>(T.nd m (T.U i),T.nd (m+T.Ln i) (T.V i),T.W i m)) ++
  cs.flatMap λc=>(u4 T.N).map λk=>(T.nd T.n k,1,c k)
def Nt.flow(T:Nt)(f:Fm):List Int :=
 (u4 T.N).map f.a++((u4 T.n).flatMap λm=>(u4 T.N).map (f.r m)++(T.P m).map (f.g m))++f.t.flatMap λt=>(u4 T.N).map t
def Nt.both(T:Nt)(cs:List (Nat->Int))(f:Fm):List (Ar×Int) :=
 (u4 T.N).map (λk=>((0,T.nd 0 k,T.fl k),f.a k))++((u4 T.n).flatMap λm=>(u4 T.N).map (λk=>((T.nd m k,T.nd (m+1) k,T.rm k),f.r m k))++(T.P m).map λi=>((T.nd m (T.U i),T.nd (m+T.Ln i) (T.V i),T.W i m),f.g m i)) ++
  (cs.zip f.t).flatMap λc=>(u4 T.N).map λk=>((T.nd T.n k,1,c.1 k),c.2 k)
section
variable {T:Nt}{cs:List (Nat->Int)}{f:Fm}
theorem zkm{α β γ:Type}{p:γ->List α}{q:γ->List β}(l:List γ)(h:∀x,(p x).length=(q x).length):(l.flatMap p).length=(l.flatMap q).length:=by
 induction l with
|nil=>rfl
|cons x r ih=>simp only[wH,vR,ih,h]
theorem zjv{α β γ:Type}{p:γ->List α}{q:γ->List β}(l:List γ)(h:∀x,(p x).length=(q x).length):(l.flatMap p).zip (l.flatMap q)=l.flatMap λx=>(p x).zip (q x):=by
 induction l with
|nil=>rfl
|cons x r ih=>rw[wH,wH,wH,yZ (h x),ih]
theorem ztt(n:Nat)(e:(Nat->Int)->Nat->Ar):∀(cs ts:List (Nat->Int)),cs.length=ts.length->(cs.flatMap λc=>(u4 n).map (e c)).zip (ts.flatMap λt=>(u4 n).map t)=(cs.zip ts).flatMap λc=>(u4 n).map λk=>(e c.1 k,c.2 k)
|[],[],_=>rfl
|c :: cs,t :: ts,h=>by
  rw[wH,wH,yZ (by simp),uaT,wH,ztt n e cs ts (by simpa using h),zV]
theorem zws(n:Nat)(e:(Nat->Int)->Nat->Ar):∀(cs ts:List (Nat->Int)),cs.length=ts.length->(cs.flatMap λc=>(u4 n).map (e c)).length=(ts.flatMap λt=>(u4 n).map t).length
|[],[],_=>rfl
|c :: cs,t :: ts,h=>by
  rw[wH,wH,vR,vR,zws n e cs ts (by simpa using h)];simp
theorem Nt.len(h:cs.length=f.t.length):(T.flow f).length=(T.arcs cs).length:=by
 unfold Nt.flow Nt.arcs;rw[vR,vR,vR,vR,zws T.N _ cs f.t h];congr 1;congr 1
 ·simp
 ·exact zkm _ λm=>by simp
theorem Nt.zip(h:cs.length=f.t.length):(T.arcs cs).zip (T.flow f)=T.both cs f:=by
 unfold Nt.flow Nt.arcs Nt.both;have l1:((u4 T.N).map λk=>((0,T.nd 0 k,T.fl k):Ar)).length=((u4 T.N).map f.a).length:=by simp
 have l2:=zkm (p:=λm=>(u4 T.N).map (λk=>((T.nd m k,T.nd (m+1) k,T.rm k):Ar))++(T.P m).map λi=>(T.nd m (T.U i),T.nd (m+T.Ln i) (T.V i),T.W i m)) (q:=λm=>(u4 T.N).map (f.r m)++(T.P m).map (f.g m)) (u4 T.n) λm=>by simp
 rw[yZ (by rw[vR,vR,l1,l2]),yZ l1,ztt T.N _ cs f.t h,zV,zjv _ λm=>by simp];congr 1;congr 1;refine congrArg (λz=>List.flatMap z (u4 T.n)) (funext λm=>?_);rw[yZ (by simp),zV,zV]
theorem zdm{α:Type}[DecidableEq α](d:Int):∀(l:List α)(xs:List Int),l.Nodup->xs.length=l.length->∃g:α->Int,l.map g=xs
|[],[],_,_=>⟨λ_=>d,rfl⟩
|a :: l,x :: xs,nd,h=>by
  obtain⟨h1,h2⟩:=v7.mp nd;obtain⟨g,e⟩:=zdm d l xs h2 (by simpa using h);refine⟨λb=>if b=a then x else g b,?_⟩;rw[v4,aF rfl,<- e];congr 1;exact x6 λb hb=>aA λ(z:b=a)=>h1 (by rw[<- z];exact hb)
theorem zfg{β:Type}{q:β->Nat}(mk:Nat->List Int->β):∀(n:Nat)(ln:Nat->Nat)(F:List Int),F.length=((u4 n).map ln).sum->∃B:Nat->List Int,(∀m,m < n->(B m).length=ln m)/\F=(u4 n).flatMap B
|0,ln,F,h=>⟨λ_=>[],λm hm=>by lia,uaB (by simpa using h)⟩
|n+1,ln,F,h=>by
  rw[wY,v9,yY]at h;simp at h;obtain⟨B,h1,h2⟩:=zfg (q:=q) mk n ln (F.take ((u4 n).map ln).sum) (by rw[wS];lia);refine⟨λm=>if m=n then F.drop ((u4 n).map ln).sum else B m,λm hm=>?_,?_⟩
  ·by_cases e:m=n
   ·subst e;simp only[if_true,xV];lia
   ·simp only[aA e];exact h1 m (by lia)
  ·rw[wY,zS];simp only[wH,yD,wN,aF rfl,if_true];have:((u4 n).flatMap λm=>if m=n then F.drop ((u4 n).map ln).sum else B m)=(u4 n).flatMap B:=by
    have:∀l:List Nat,(∀m∈l,m≠n)->(l.flatMap λm=>if m=n then F.drop ((u4 n).map ln).sum else B m)=l.flatMap B:=by
     intro l
     induction l with
    |nil=>intro _;rfl
    |cons x r ih=>intro k;rw[wH,wH,ih λm hm=>k m (by simp[hm]),aA (k x (by simp))]
    exact this _ λm hm=>by have:=u9.mp hm;lia
   rw[this,<- h2,y3]
theorem zkj(n:Nat):∀(c:Nat)(F:List Int),F.length=c * n->∃ts:List (Nat->Int),ts.length=c/\F=ts.flatMap λt=>(u4 n).map t
|0,F,h=>⟨[],rfl,uaB (by simpa using h)⟩
|c+1,F,h=>by
  rw[yO]at h;obtain⟨ts,h1,h2⟩:=zkj n c (F.drop n) (by rw[xV];lia);obtain⟨g,hg⟩:=zdm 0 (u4 n) (F.take n) y0 (by rw[wS,wE];lia);exact⟨g :: ts,by simp[h1],by rw[wH,hg,<- h2,y3]⟩
theorem zaw{α β:Type}(p:β->List α)(l:List β):(l.flatMap p).length=(l.map λx=>(p x).length).sum:=by
 induction l with
|nil=>rfl
|cons x r ih=>rw[wH,vR,ih,v4,xS]
theorem Nt.split(nd:∀m,(T.P m).Nodup){F:List Int}(h:F.length=(T.arcs cs).length):∃f:Fm,cs.length=f.t.length/\F=T.flow f:=by
 unfold Nt.arcs at h;rw[vR,vR,u5,wE]at h;have e3:(cs.flatMap λc=>(u4 T.N).map λk=>((T.nd T.n k,1,c k):Ar)).length=cs.length * T.N:=by
  have:∀l:List (Nat->Int),(l.flatMap λc=>(u4 T.N).map λk=>((T.nd T.n k,1,c k):Ar)).length=l.length * T.N:=by
   intro l
   induction l with
  |nil=>simp
  |cons c r ih=>rw[wH,vR,ih,xL,yO];simp;lia
  exact this cs
 rw[e3,zaw]at h;generalize hM:((u4 T.n).map λm=>((u4 T.N).map (λk=>((T.nd m k,T.nd (m+1) k,T.rm k):Ar))++(T.P m).map λi=>(T.nd m (T.U i),T.nd (m+T.Ln i) (T.V i),T.W i m)).length).sum=M at h;obtain⟨a,ha⟩:=zdm 0 (u4 T.N) (F.take T.N) y0 (by rw[wS,wE];lia);obtain⟨B,b1,b2⟩:=zfg (β:=Nat) (q:=id) (λ_ _=>0) T.n (λm=>T.N+(T.P m).length) ((F.drop T.N).take M) (by
  rw[wS,xV,<- hM];have:((u4 T.n).map λm=>((u4 T.N).map (λk=>((T.nd m k,T.nd (m+1) k,T.rm k):Ar))++(T.P m).map λi=>(T.nd m (T.U i),T.nd (m+T.Ln i) (T.V i),T.W i m)).length)=(u4 T.n).map λm=>T.N+(T.P m).length:=x6 λm _=>by simp
  rw[this]at hM ⊢;lia)
 obtain⟨ts,t1,t2⟩:=zkj T.N cs.length (F.drop (T.N+M)) (by rw[xV];lia);have hr:∀m,∃g:Nat->Int,m < T.n->(u4 T.N).map g=(B m).take T.N:=λm=>by
  by_cases e:m < T.n
  ·obtain⟨g,hg⟩:=zdm 0 (u4 T.N) ((B m).take T.N) y0 (by rw[wS,b1 m e,wE];lia);exact⟨g,λ_=>hg⟩
  ·exact⟨λ_=>0,λz=>aJ z e⟩
 have hg:∀m,∃g:Nat->Int,m < T.n->(T.P m).map g=(B m).drop T.N:=λm=>by
  by_cases e:m < T.n
  ·obtain⟨g,hg⟩:=zdm 0 (T.P m) ((B m).drop T.N) (nd m) (by rw[xV,b1 m e];lia);exact⟨g,λ_=>hg⟩
  ·exact⟨λ_=>0,λz=>aJ z e⟩
 obtain⟨r,hr⟩:=Classical.axiomOfChoice hr;obtain⟨g,hg⟩:=Classical.axiomOfChoice hg;refine⟨⟨a,r,g,ts⟩,t1.symm,?_⟩;unfold Nt.flow;show F=(u4 T.N).map a++((u4 T.n).flatMap λm=>(u4 T.N).map (r m)++(T.P m).map (g m))++ts.flatMap λt=>(u4 T.N).map t;have e2:((u4 T.n).flatMap λm=>(u4 T.N).map (r m)++(T.P m).map (g m))=(u4 T.n).flatMap B:=by
  have:∀l:List Nat,(∀m∈l,m < T.n)->(l.flatMap λm=>(u4 T.N).map (r m)++(T.P m).map (g m))=l.flatMap B:=by
   intro l
   induction l with
  |nil=>intro _;rfl
  |cons x y ih=>intro k;rw[wH,wH,ih λm hm=>k m (by simp[hm]),hr x (k x (by simp)),hg x (k x (by simp)),y3]
  exact this _ λm hm=>u9.mp hm
 rw[e2,ha,<- b2,<- t2,wC,<- List.drop_drop];rw[y3,y3]
end
def Nt.inn(T:Nt)(f:Fm)(m k:Nat):Int:=su (u4 T.n) λm'=>su (T.P m') λi=>if m'+T.Ln i=m/\T.V i=k then f.g m' i else 0
def Nt.out(T:Nt)(f:Fm)(m k:Nat):Int:=if m < T.n then su (T.P m) λi=>if T.U i=k then f.g m i else 0 else 0
structure Nt.Ok(T:Nt):Prop where
 nd:∀m,(T.P m).Nodup
 ub:∀m,∀i∈T.P m,T.U i < T.N
 vb:∀m,∀i∈T.P m,T.V i < T.N
 ln:∀m,∀i∈T.P m,1<=T.Ln i/\m+T.Ln i<=T.n
section
variable {T:Nt}{cs:List (Nat->Int)}{f:Fm}
theorem Nt.nd_inj{k:Nat}(h:k < T.N)(h':k' < T.N)(e:T.nd m k=T.nd m' k'):m=m'/\k=k':=by
 unfold Nt.nd at e;rcases j6 m m' with z|z|z
 ·have:=yE T.N (show m+1<=m' from z);rw[yO]at this;lia
 ·subst z;exact⟨rfl,by lia⟩
 ·have:=yE T.N (show m'+1<=m from z);rw[yO]at this;lia
theorem Nt.nd2(m k:Nat):2<=T.nd m k:=by unfold Nt.nd;lia
theorem Nt.is_nd(h2:2<=w)(hw:w < T.nd (T.n+1) 0):∃m k,m<=T.n/\k < T.N/\w=T.nd m k:=by
 unfold Nt.nd at hw ⊢;have hN:0 < T.N:=by
  rcases uaR T.N with z|z
  ·rw[z]at hw;simp at hw;lia
  ·exact z
 refine⟨(w - 2) / T.N,(w - 2) % T.N,?_,Nat.mod_lt _ hN,?_⟩
 ·exact Nat.le_of_lt_succ (Nat.div_lt_of_lt_mul (by rw[zL,Nat.succ_eq_add_one];lia))
 ·have:=Nat.div_add_mod (w - 2) T.N;rw[zL]at this;lia
theorem zb31{m'' k k'':Nat}(h:k < T.N)(h':k' < T.N)(h'':k'' < T.N)(x:Int):trm (T.nd m k) (T.nd m' k') x (T.nd m'' k'')=(if m'=m''/\k'=k'' then x else 0) - (if m=m''/\k=k'' then x else 0):=by
 unfold trm;congr 1
 ·by_cases e:m'=m''/\k'=k''
  ·obtain⟨rfl,rfl⟩:=e;simp
  ·rw[aA e,aA λz=>e (Nt.nd_inj h' h'' z)]
 ·by_cases e:m=m''/\k=k''
  ·obtain⟨rfl,rfl⟩:=e;simp
  ·rw[aA e,aA λz=>e (Nt.nd_inj h h'' z)]
theorem zxj{N k:Nat}{c:Prop}[Decidable c](d:Nat->Int)(h:k < N):su (u4 N) (λj=>if c/\j=k then d j else 0)=if c then d k else 0:=by
 by_cases e:c
 ·rw[aF e,<- zx8 d h];exact zp0 λj _=>by simp[e]
 ·rw[aA e];exact su_zero' λj _=>by simp[e]
theorem Nt.bal(ok:T.Ok)(hl:cs.length=f.t.length){k:Nat}(hm:m<=T.n)(hk:k < T.N):bl (T.arcs cs).length (aU (T.arcs cs)) (aV (T.arcs cs)) (fx (T.flow f)) (T.nd m k) =
  (if m=0 then f.a k else f.r (m - 1) k)+T.inn f m k - T.out f m k - (if m < T.n then f.r m k else su f.t λt=>t k):=by
 unfold bl;rw[zds (Nt.len hl) λu v x=>trm u v x (T.nd m k),Nt.zip hl];unfold Nt.both;rw[zt5,zt5,zr5,zbb,zbb];have p1:(su (u4 T.N) λj=>trm 0 (T.nd 0 j) (f.a j) (T.nd m k))=if m=0 then f.a k else 0:=by
  rw[<- zxj (c:=m=0) f.a hk];refine zp0 λj hj=>?_;have hj:=u9.mp hj;unfold trm;have h2:=Nt.nd2 (T:=T) m k;rw[aA (show(0:Nat)≠T.nd m k by lia)];by_cases e:m=0/\j=k
  ·obtain⟨rfl,rfl⟩:=e;simp
  ·rw[aA e,aA λz=>e (by have:=Nt.nd_inj hj hk z;exact⟨this.1.symm,this.2⟩)];rfl
 have p3:(su (cs.zip f.t) λx=>su ((u4 T.N).map λj=>(((T.nd T.n j,1,x.1 j):Ar),x.2 j)) λp=>trm p.1.1 p.1.2.1 p.2 (T.nd m k))=- if m=T.n then su f.t (λt=>t k)else 0:=by
  have e1:∀x∈cs.zip f.t,(su ((u4 T.N).map λj=>(((T.nd T.n j,1,x.1 j):Ar),x.2 j)) λp=>trm p.1.1 p.1.2.1 p.2 (T.nd m k))=0 - if m=T.n then x.2 k else 0:=λx _=>by
   rw[zr5,<- zxj (c:=m=T.n) x.2 hk];refine Eq.trans (zp0 (g:=λj=>0 - if m=T.n/\j=k then x.2 j else 0) λj hj=>?_) (by rw[zv9,zlc]);have hj:=u9.mp hj;unfold trm;have h2:=Nt.nd2 (T:=T) m k;show(if 1=T.nd m k then x.2 j else 0) - (if T.nd T.n j=T.nd m k then x.2 j else 0)=_;rw[aA (show(1:Nat)≠T.nd m k by lia)];by_cases e:m=T.n/\j=k
   ·obtain⟨rfl,rfl⟩:=e;simp
   ·rw[aA e,aA λz=>e (by have:=Nt.nd_inj hj hk z;exact⟨this.1.symm,this.2⟩)]
  rw[zp0 e1,zv9,zlc];have e2:(su (cs.zip f.t) λx=>if m=T.n then x.2 k else 0)=if m=T.n then su f.t (λt=>t k)else 0:=by
   by_cases e:m=T.n
   ·simp only[aF e];have:f.t=(cs.zip f.t).map (·.2):=by rw[List.map_snd_zip (by lia)]
    conv=>rhs;rw[this]
    rw[zr5]
   ·simp only[aA e];exact zlc _
  rw[e2];lia
 have p2:(su (u4 T.n) λm'=>su ((u4 T.N).map (λj=>(((T.nd m' j,T.nd (m'+1) j,T.rm j):Ar),f.r m' j))++(T.P m').map λi=>((T.nd m' (T.U i),T.nd (m'+T.Ln i) (T.V i),T.W i m'),f.g m' i)) λp=>trm p.1.1 p.1.2.1 p.2 (T.nd m k)) =
   (if m=0 then 0 else f.r (m - 1) k) - (if m < T.n then f.r m k else 0)+(T.inn f m k - T.out f m k):=by
  have e1:∀m'∈u4 T.n,(su ((u4 T.N).map (λj=>(((T.nd m' j,T.nd (m'+1) j,T.rm j):Ar),f.r m' j))++(T.P m').map λi=>((T.nd m' (T.U i),T.nd (m'+T.Ln i) (T.V i),T.W i m'),f.g m' i)) λp=>trm p.1.1 p.1.2.1 p.2 (T.nd m k)) =
    ((if m'+1=m then f.r m' k else 0) - (if m'=m then f.r m' k else 0))+((su (T.P m') λi=>if m'+T.Ln i=m/\T.V i=k then f.g m' i else 0) - (if m'=m then su (T.P m') λi=>if T.U i=k then f.g m' i else 0 else 0)):=λm' _=>by
   rw[zt5,zr5,zr5];congr 1
   ·rw[<- zxj (c:=m'+1=m) (f.r m') hk,<- zxj (c:=m'=m) (f.r m') hk,<- zv9];exact zp0 λj hj=>zb31 (u9.mp hj) (u9.mp hj) hk _
   ·have:(if m'=m then su (T.P m') λi=>if T.U i=k then f.g m' i else 0 else 0)=su (T.P m') λi=>if m'=m/\T.U i=k then f.g m' i else 0:=by
     by_cases e:m'=m
     ·rw[aF e];exact zp0 λi _=>by simp[e]
     ·rw[aA e];exact(su_zero' λi _=>by simp[e]).symm
    rw[this,<- zv9];exact zp0 λi hi=>zb31 (ok.ub m' i hi) (ok.vb m' i hi) hk _
  rw[zp0 e1,zla,zv9,zv9];congr 1
  ·congr 1
   ·by_cases e:m=0
    ·rw[aF e];exact su_zero' λj _=>aA (by lia)
    ·rw[aA e,<- zx8 (λj=>f.r j k) (show m - 1 < T.n by lia)];refine zp0 λj _=>?_;by_cases z:j=m - 1
     ·rw[aF z,aF (by lia)]
     ·rw[aA z,aA (by lia)]
   ·by_cases e:m < T.n
    ·rw[aF e,<- zx8 (λj=>f.r j k) e]
    ·rw[aA e];exact su_zero' λj hj=>aA (by have:=u9.mp hj;lia)
  ·congr 1;unfold Nt.out;by_cases e:m < T.n
   ·rw[aF e,<- zx8 (λj=>su (T.P j) λi=>if T.U i=k then f.g j i else 0) e]
   ·rw[aA e];exact su_zero' λj hj=>aA (by have:=u9.mp hj;lia)
 rw[p1,p2,p3];have h3:¬m < T.n ↔ m=T.n:=by lia
 by_cases e:m=0
 ·rw[aF e,aF e,aF e];by_cases z:m < T.n
  ·rw[aF z,aF z,aA (by lia)];lia
  ·rw[aA z,aA z,aF (by lia)];lia
 ·rw[aA e,aA e,aA e];by_cases z:m < T.n
  ·rw[aF z,aF z,aA (by lia)];lia
  ·rw[aA z,aA z,aF (by lia)];lia
theorem Nt.worth(hl:cs.length=f.t.length):bl (T.arcs cs).length (aU (T.arcs cs)) (aV (T.arcs cs)) (fx (T.flow f)) 0=- su (u4 T.N) f.a:=by
 unfold bl;rw[zds (Nt.len hl) λu v x=>trm u v x 0,Nt.zip hl];unfold Nt.both;rw[zt5,zt5,zr5,zbb,zbb];have z:∀u v x,2<=u->1<=v->trm u v x 0=0:=λu v x h1 h2=>by
  unfold trm;rw[aA (by lia),aA (by lia)];rfl
 rw[su_zero' (l:=u4 T.n) λm _=>?_,su_zero' (l:=cs.zip f.t) λx _=>?_,zp0 (g:=λk=>0 - f.a k) λk _=>?_,zv9,zlc]
 ·lia
 ·have h2:=Nt.nd2 (T:=T) 0 k;unfold trm;show(if T.nd 0 k=0 then f.a k else 0) - (if 0=0 then f.a k else 0)=_;rw[aA (by lia),aF rfl]
 ·rw[zr5];exact su_zero' λk _=>z _ _ _ (Nt.nd2 _ _) (by show 1<=1;lia)
 ·rw[zt5,zr5,zr5,su_zero' λk _=>z _ _ _ (Nt.nd2 _ _) (by have:=Nt.nd2 (T:=T) (m+1) k;show 1<=T.nd (m+1) k;lia),su_zero' λi _=>z _ _ _ (Nt.nd2 _ _) (by have:=Nt.nd2 (T:=T) (m+T.Ln i) (T.V i);show 1<=T.nd (m+T.Ln i) (T.V i);lia)];rfl
structure Nt.Fl(T:Nt)(cs:List (Nat->Int))(f:Fm):Prop where
 t:cs.length=f.t.length
 a:∀k,k < T.N->0<=f.a k/\f.a k<=T.fl k
 r:∀m k,m < T.n->k < T.N->0<=f.r m k/\f.r m k<=T.rm k
 g:∀m i,m < T.n->i∈T.P m->0<=f.g m i/\f.g m i<=T.W i m
 s:∀c∈cs.zip f.t,∀k,k < T.N->0<=c.2 k/\c.2 k<=c.1 k
 b:∀m k,m<=T.n->k < T.N->(if m=0 then f.a k else f.r (m - 1) k)+T.inn f m k=T.out f m k+(if m < T.n then f.r m k else su f.t λt=>t k)
theorem Nt.both_iff(hl:cs.length=f.t.length)(Φ:Nat->Nat->Int->Int->Prop):(∀p∈T.both cs f,Φ p.1.1 p.1.2.1 p.1.2.2 p.2) ↔ (∀k,k < T.N->Φ 0 (T.nd 0 k) (T.fl k) (f.a k))/\(∀m k,m < T.n->k < T.N->Φ (T.nd m k) (T.nd (m+1) k) (T.rm k) (f.r m k)) /\
  (∀m i,m < T.n->i∈T.P m->Φ (T.nd m (T.U i)) (T.nd (m+T.Ln i) (T.V i)) (T.W i m) (f.g m i))/\∀c∈cs.zip f.t,∀k,k < T.N->Φ (T.nd T.n k) 1 (c.1 k) (c.2 k):=by
 constructor
 ·intro h;unfold Nt.both at h;refine⟨λk hk=>?_,λm k hm hk=>?_,λm i hm hi=>?_,λc hc k hk=>?_⟩
  ·exact h _ (xJ _ (xJ _ (vU.mpr ⟨k,u9.mpr hk,rfl⟩)))
  ·exact h _ (xJ _ (w8 _ (yP.mpr ⟨m,u9.mpr hm,xJ _ (vU.mpr ⟨k,u9.mpr hk,rfl⟩)⟩)))
  ·exact h _ (xJ _ (w8 _ (yP.mpr ⟨m,u9.mpr hm,w8 _ (vU.mpr ⟨i,hi,rfl⟩)⟩)))
  ·exact h _ (w8 _ (yP.mpr ⟨c,hc,vU.mpr ⟨k,u9.mpr hk,rfl⟩⟩))
 ·rintro⟨h1,h2,h3,h4⟩ p hp;unfold Nt.both at hp;rcases vS.mp hp with hp|hp
  ·rcases vS.mp hp with hp|hp
   ·obtain⟨k,hk,rfl⟩:=vU.mp hp;exact h1 k (u9.mp hk)
   ·obtain⟨m,hm,hp⟩:=yP.mp hp;have hm:=u9.mp hm;rcases vS.mp hp with hp|hp
    ·obtain⟨k,hk,rfl⟩:=vU.mp hp;exact h2 m k hm (u9.mp hk)
    ·obtain⟨i,hi,rfl⟩:=vU.mp hp;exact h3 m i hm hi
  ·obtain⟨c,hc,hp⟩:=yP.mp hp;obtain⟨k,hk,rfl⟩:=vU.mp hp;exact h4 c hc k (u9.mp hk)
theorem Nt.Fl.within(h:T.Fl cs f):within (T.arcs cs).length (zn9 (T.arcs cs)) (fx (T.flow f)):=by
 refine(zwg (Nt.len h.t) λ_ _ c x=>0<=x/\x<=c).mpr ?_;rw[Nt.zip h.t];exact(Nt.both_iff h.t λ_ _ c x=>0<=x/\x<=c).mpr ⟨h.a,h.r,h.g,h.s⟩
theorem Nt.Fl.bal(ok:T.Ok)(h:T.Fl cs f){w:Nat}(h2:2<=w)(hw:w < T.nd (T.n+1) 0):bl (T.arcs cs).length (aU (T.arcs cs)) (aV (T.arcs cs)) (fx (T.flow f)) w=0:=by
 obtain⟨m,k,hm,hk,rfl⟩:=Nt.is_nd h2 hw;have:=h.b m k hm hk;rw[Nt.bal ok h.t hm hk];lia
theorem Nt.Fl.of(ok:T.Ok)(ht:cs.length=f.t.length)(hw:_5.within (T.arcs cs).length (zn9 (T.arcs cs)) (fx (T.flow f)))(hb:∀w,w≠0->w≠1->bl (T.arcs cs).length (aU (T.arcs cs)) (aV (T.arcs cs)) (fx (T.flow f)) w=0):T.Fl cs f:=by
 have:=(zwg (Nt.len ht) λ_ _ c x=>0<=x/\x<=c).mp hw;rw[Nt.zip ht]at this;obtain⟨h1,h2,h3,h4⟩:=(Nt.both_iff ht λ_ _ c x=>0<=x/\x<=c).mp this;refine⟨ht,h1,h2,h3,h4,λm k hm hk=>?_⟩;have h2:=Nt.nd2 (T:=T) m k;have:=hb (T.nd m k) (by lia) (by lia);rw[Nt.bal ok ht hm hk]at this;lia
theorem bl_flux'{s:Nat}(nd:side.Nodup)(hs:s∈side)(h:∀w∈side,w≠s->bl m eu ev x w=0):bl m eu ev x s=flux m eu ev x side:=by
 rw[zna m eu ev x nd,zak nd hs h]
theorem zy81{y:Nat->Int}(h:∀k,k < m->x k=y k)(w:Nat):bl m eu ev x w=bl m eu ev y w:=zc1 λk hk=>by show trm _ _ (x k) w=trm _ _ (y k) w;rw[h k hk]
theorem zfl{k:Nat}(h:k < m):fx ((u4 m).map x) k=x k:=by
 unfold fx;rw[u8,xA h];rfl
theorem Nt.best(ok:T.Ok){c:Nat}(b:Best c (T.arcs cs) f0 0 1 L side)(hb:∀v,v≠0->v≠1->_5.bal (T.arcs cs).length (zc7 (T.arcs cs)) L v=0) :
  ∃f,T.Fl cs f/\(u4 (T.arcs cs).length).map (λk=>lf L (2 * k+1))=T.flow f:=by
 obtain⟨f,ht,e⟩:=Nt.split (cs:=cs) ok.nd (F:=(u4 (T.arcs cs).length).map (λk=>lf L (2 * k+1))) (by simp);have ex:∀k,k < (T.arcs cs).length->fx (T.flow f) k=lf L (2 * k+1):=λk hk=>by rw[<- e,zfl hk]
 refine⟨f,Nt.Fl.of ok ht (λk hk=>by rw[ex k hk];exact b.within k hk) λw h1 h2=>?_,e⟩;rw[zy81 ex];have:=hb w h1 h2;rw[znr]at this;exact this
theorem Nt.most(ok:T.Ok)(b:Best (T.nd (T.n+1) 0) (T.arcs cs) f0 0 1 L side)(h:T.Fl cs f)(e:(u4 (T.arcs cs).length).map (λk=>lf L (2 * k+1))=T.flow f){f':Fm}(h':T.Fl cs f'):su (u4 T.N) f'.a<=su (u4 T.N) f.a:=by
 have ex:∀k,k < (T.arcs cs).length->lf L (2 * k+1)=fx (T.flow f) k:=λk hk=>by rw[<- e,zfl hk]
 have tg:tight (T.arcs cs).length (aU (T.arcs cs)) (aV (T.arcs cs)) (zn9 (T.arcs cs)) (fx (T.flow f)) side:=λk hk=>by rw[<- ex k hk];exact b.tight k hk
 have l:=zqt tg h'.within;have go:∀{g:Fm},T.Fl cs g->bl (T.arcs cs).length (aU (T.arcs cs)) (aV (T.arcs cs)) (fx (T.flow g)) 0=flux (T.arcs cs).length (aU (T.arcs cs)) (aV (T.arcs cs)) (fx (T.flow g)) side:=λ{g} hg =>
  bl_flux' (ze6 b.ris) b.inn λw hw hn=>hg.bal ok (by
   rcases wT w 2 with z|z
   ·have:w=1:=by lia
    exact aJ (this ▸ hw) b.out
   ·exact z) (b.bd w hw)
 rw[<- go h,<- go h',Nt.worth h.t,Nt.worth h'.t]at l;lia
end
theorem zjl{c:Nat}(g:Nat->Int):∀{l:List Nat},l.Nodup->(∀x∈l,x < c)->su (u4 c) (λi=>if i∈l then g i else 0)=su l g
|[],_,_=>by rw[zu5];exact su_zero' λi _=>by simp
|x :: l,nd,h=>by
  obtain⟨h1,h2⟩:=v7.mp nd;rw[za1,<- zjl g h2 λy hy=>h y (wB _ hy),<- zx8 g (h x wP),<- zla];refine zp0 λi _=>?_;by_cases e:i=x
  ·subst e;simp[h1]
  ·simp[e]
theorem su_sub'{c:Nat}{g:Nat->Int}(hg:∀i,i < c->0<=g i){l:List Nat}(nd:l.Nodup)(h:∀x∈l,x < c):su l g<=su (u4 c) g:=by
 rw[<- zjl g nd h];refine zoy λi hi=>?_;have:=hg i (u9.mp hi);split <;> lia
structure Nt.Lk(T:Nt)(cs:List (Nat->Int))(f:Fm):Prop where
 t:cs.length=f.t.length
 a:∀k,k < T.N->0<=f.a k/\f.a k<=T.fl k
 r:∀m k,m < T.n->k < T.N->0<=f.r m k/\f.r m k<=T.rm k
 g:∀m i,m < T.n->i∈T.P m->0<=f.g m i/\f.g m i<=T.W i m
 s:∀c∈cs.zip f.t,∀k,k < T.N->0<=c.2 k/\c.2 k<=c.1 k
 b:∀m k,m<=T.n->k < T.N->T.out f m k+(if m < T.n then f.r m k else su f.t λt=>t k)<=(if m=0 then f.a k else f.r (m - 1) k)+T.inn f m k
section
variable {T:Nt}{cs:List (Nat->Int)}{f:Fm}
theorem Nt.Lk.within(h:T.Lk cs f):within (T.arcs cs).length (zn9 (T.arcs cs)) (fx (T.flow f)):=by
 refine(zwg (Nt.len h.t) λ_ _ c x=>0<=x/\x<=c).mpr ?_;rw[Nt.zip h.t];exact(Nt.both_iff h.t λ_ _ c x=>0<=x/\x<=c).mpr ⟨h.a,h.r,h.g,h.s⟩
theorem Nt.Lk.bal(ok:T.Ok)(h:T.Lk cs f){w:Nat}(h2:2<=w)(hw:w < T.nd (T.n+1) 0):0<=bl (T.arcs cs).length (aU (T.arcs cs)) (aV (T.arcs cs)) (fx (T.flow f)) w:=by
 obtain⟨m,k,hm,hk,rfl⟩:=Nt.is_nd h2 hw;have:=h.b m k hm hk;rw[Nt.bal ok h.t hm hk];lia
theorem Nt.nd_lt{k:Nat}(hm:m<=T.n)(hk:k < T.N):T.nd m k < T.nd (T.n+1) 0:=by
 unfold Nt.nd;have:=yE T.N (show m+1<=T.n+1 by lia);rw[yO]at this;lia
theorem Nt.sink(hl:cs.length=f.t.length):bl (T.arcs cs).length (aU (T.arcs cs)) (aV (T.arcs cs)) (fx (T.flow f)) 1=su (u4 T.N) λk=>su f.t λt=>t k:=by
 unfold bl;rw[zds (Nt.len hl) λu v x=>trm u v x 1,Nt.zip hl];unfold Nt.both;rw[zt5,zt5,zr5,zbb,zbb];have z:∀u v x,u≠1->v≠1->trm u v x 1=0:=λu v x h1 h2=>by
  unfold trm;rw[aA h2,aA h1];rfl
 have n1:∀m k,T.nd m k≠1:=λm k=>by have:=Nt.nd2 (T:=T) m k;lia
 rw[su_zero' (l:=u4 T.N) λk _=>z _ _ _ (by show(0:Nat)≠1;lia) (n1 _ _),su_zero' (l:=u4 T.n) λm _=>?_]
 ·have e:∀c∈cs.zip f.t,(su ((u4 T.N).map λk=>(((T.nd T.n k,1,c.1 k):Ar),c.2 k)) λp=>trm p.1.1 p.1.2.1 p.2 1)=su (u4 T.N) c.2:=λc _=>by
   rw[zr5];refine zp0 λk _=>?_;show(if 1=1 then c.2 k else 0) - (if T.nd T.n k=1 then c.2 k else 0)=_;rw[aF rfl,aA (n1 _ _)];lia
  rw[zp0 e];have e2:(su (cs.zip f.t) λc=>su (u4 T.N) c.2)=su f.t λt=>su (u4 T.N) t:=by
   have:f.t=(cs.zip f.t).map (·.2):=by rw[List.map_snd_zip (by lia)]
   conv=>rhs;rw[this]
   rw[zr5]
  rw[e2];have sw:∀l:List (Nat->Int),(su l λt=>su (u4 T.N) t)=su (u4 T.N) λk=>su l λt=>t k:=by
   intro l
   induction l with
  |nil=>rw[zu5];exact(su_zero' λ_ _=>rfl).symm
  |cons t r ih=>rw[za1,ih,<- zla];exact zp0 λk _=>(za1 t r λt=>t k).symm
  rw[sw];lia
 ·rw[zt5,zr5,zr5,su_zero' λk _=>z _ _ _ (n1 _ _) (n1 _ _),su_zero' λi _=>z _ _ _ (n1 _ _) (n1 _ _)];rfl
theorem Nt.ends(ok:T.Ok)(hl:cs.length=f.t.length):∀k,k < (T.arcs cs).length->aU (T.arcs cs) k < T.nd (T.n+1) 0/\aV (T.arcs cs) k < T.nd (T.n+1) 0:=by
 have h2:=Nt.nd2 (T:=T) (T.n+1) 0;refine(zwg (Nt.len hl) λu v _ _=>u < T.nd (T.n+1) 0/\v < T.nd (T.n+1) 0).mpr ?_;rw[Nt.zip hl];exact(Nt.both_iff hl λu v _ _=>u < T.nd (T.n+1) 0/\v < T.nd (T.n+1) 0).mpr ⟨λk hk=>⟨by lia,Nt.nd_lt (by lia) hk⟩,λm k hm hk=>⟨Nt.nd_lt (by lia) hk,Nt.nd_lt (by lia) hk⟩,λm i hm hi=>⟨Nt.nd_lt (by lia) (ok.ub m i hi),Nt.nd_lt (ok.ln m i hi).2 (ok.vb m i hi)⟩,λc _ k hk=>⟨Nt.nd_lt (u7 _) hk,by lia⟩⟩
theorem Nt.total(ok:T.Ok)(hl:cs.length=f.t.length):su ((u4 (T.nd (T.n+1) 0)).filter λw=>decide (2<=w)) (bl (T.arcs cs).length (aU (T.arcs cs)) (aV (T.arcs cs)) (fx (T.flow f)))=su (u4 T.N) f.a - su (u4 T.N) λk=>su f.t λt=>t k:=by
 have h2:=Nt.nd2 (T:=T) (T.n+1) 0;have z:flux (T.arcs cs).length (aU (T.arcs cs)) (aV (T.arcs cs)) (fx (T.flow f)) (u4 (T.nd (T.n+1) 0))=0:=by
  unfold flux;rw[zc1 (h:=λ_=>0) λk hk=>?_,zv2];obtain⟨e1,e2⟩:=Nt.ends ok hl k hk;rw[aF (u9.mpr e1),aF (u9.mpr e2)];lia
 rw[zna _ _ _ _ y0]at z;have z:su (u4 (T.nd (T.n+1) 0)) (bl (T.arcs cs).length (aU (T.arcs cs)) (aV (T.arcs cs)) (fx (T.flow f)))=0:=z;have e:u4 (T.nd (T.n+1) 0)=0 :: 1 :: (u4 (T.nd (T.n+1) 0)).filter λw=>decide (2<=w):=by
  obtain⟨d,hd⟩:=Nat.exists_eq_add_of_le' h2;rw[hd,uaE,uaE];simp;rw[List.filter_map];congr 1;rw[List.filter_eq_self.mpr λx _=>by simp]
 rw[e,za1,za1,Nt.worth hl,Nt.sink hl]at z;lia
theorem Nt.Fl.total(ok:T.Ok)(h:T.Fl cs f):su (u4 T.N) f.a=su (u4 T.N) λk=>su f.t λt=>t k:=by
 have:=Nt.total (cs:=cs) (f:=f) ok h.t;rw[su_zero' λw hw=>?_]at this
 ·lia
 obtain⟨h1,h2⟩:=yG.mp hw;exact h.bal ok (dL h2) (u9.mp h1)
theorem Nt.leak(ok:T.Ok)(h:T.Fl cs f)(tg:tight (T.arcs cs).length (aU (T.arcs cs)) (aV (T.arcs cs)) (zn9 (T.arcs cs)) (fx (T.flow f)) side)(h0:0∈side)(h1:1 ∉ side)(hb:∀v∈side,v < T.nd (T.n+1) 0)(nd:side.Nodup){f':Fm}(h':T.Lk cs f') :
  (su (u4 T.N) λk=>su f'.t λt=>t k)<=su (u4 T.N) f.a:=by
 have l:=zqt tg h'.within;have two:∀w∈side,w≠0->2<=w:=λw hw hn=>by
  rcases wT w 2 with z|z
  ·have:w=1:=by lia
   exact aJ (this ▸ hw) h1
  ·exact z
 rw[<- bl_flux' nd h0 λw hw hn=>h.bal ok (two w hw hn) (hb w hw),Nt.worth h.t,zna _ _ _ _ nd]at l;have tot:=Nt.total (cs:=cs) (f:=f') ok h'.t;have w0:=Nt.worth (T:=T) (cs:=cs) (f:=f') h'.t;have sp:(side.map (bl (T.arcs cs).length (aU (T.arcs cs)) (aV (T.arcs cs)) (fx (T.flow f')))).sum<=- su (u4 T.N) f'.a+su ((u4 (T.nd (T.n+1) 0)).filter λw=>decide (2<=w)) (bl (T.arcs cs).length (aU (T.arcs cs)) (aV (T.arcs cs)) (fx (T.flow f'))):=by
  have e1:(side.map (bl (T.arcs cs).length (aU (T.arcs cs)) (aV (T.arcs cs)) (fx (T.flow f')))).sum=su side (λw=>(if w=0 then bl (T.arcs cs).length (aU (T.arcs cs)) (aV (T.arcs cs)) (fx (T.flow f')) 0 else 0))+su side λw=>if 2<=w then bl (T.arcs cs).length (aU (T.arcs cs)) (aV (T.arcs cs)) (fx (T.flow f')) w else 0:=by
   rw[<- zla];refine zp0 λw hw=>?_;by_cases z:w=0
   ·subst z;simp
   ·rw[aA z,aF (two w hw z)];lia
  have e2:su side (λw=>(if w=0 then bl (T.arcs cs).length (aU (T.arcs cs)) (aV (T.arcs cs)) (fx (T.flow f')) 0 else 0))=- su (u4 T.N) f'.a:=by
   have:=zak (g:=λw=>(if w=0 then bl (T.arcs cs).length (aU (T.arcs cs)) (aV (T.arcs cs)) (fx (T.flow f')) 0 else 0)) nd h0 λw _ hn=>aA hn;unfold su;rw[this,aF rfl];exact w0
  have e3:(su side λw=>if 2<=w then bl (T.arcs cs).length (aU (T.arcs cs)) (aV (T.arcs cs)) (fx (T.flow f')) w else 0)<=su (u4 (T.nd (T.n+1) 0)) λw=>if 2<=w then bl (T.arcs cs).length (aU (T.arcs cs)) (aV (T.arcs cs)) (fx (T.flow f')) w else 0:=su_sub' (λw hw=>by
   by_cases z:2<=w
   ·rw[aF z];exact h'.bal ok z hw
   ·rw[aA z];exact wR _) nd hb
  have e4:(su (u4 (T.nd (T.n+1) 0)) λw=>if 2<=w then bl (T.arcs cs).length (aU (T.arcs cs)) (aV (T.arcs cs)) (fx (T.flow f')) w else 0)=su ((u4 (T.nd (T.n+1) 0)).filter λw=>decide (2<=w)) (bl (T.arcs cs).length (aU (T.arcs cs)) (aV (T.arcs cs)) (fx (T.flow f'))):=by
   have:∀l:List Nat,(su l λw=>if 2<=w then bl (T.arcs cs).length (aU (T.arcs cs)) (aV (T.arcs cs)) (fx (T.flow f')) w else 0)=su (l.filter λw=>decide (2<=w)) (bl (T.arcs cs).length (aU (T.arcs cs)) (aV (T.arcs cs)) (fx (T.flow f'))):=by
    intro l
    induction l with
   |nil=>rfl
   |cons x r ih =>
     rw[za1,List.filter_cons,ih];by_cases z:2<=x
     ·rw[aF z,aF (bN z),za1]
     ·rw[aA z,aA (by simpa using z)];lia
   exact this _
  rw[e1,e2];lia
 lia
end
structure Nt.Val(T:Nt)(c:Nat->Int)(M:Int):Prop where
 ex:∃f t,T.Fl [c] f/\f.t=[t]/\su (u4 T.N) t=M
 mx:∀f t,T.Lk [c] f->f.t=[t]->su (u4 T.N) t<=M
section
variable {T:Nt}{c c':Nat->Int}{M M':Int}
theorem zd71{f:Fm}{t:Nat->Int}(h:f.t=[t]):(su (u4 T.N) λk=>su f.t λt=>t k)=su (u4 T.N) t:=by
 rw[h];exact zp0 λk _=>by rw[za1,zu5];lia
theorem Nt.val(ok:T.Ok){f:Fm}{t:Nat->Int}(b:Best (T.nd (T.n+1) 0) (T.arcs [c]) f0 0 1 L side)(h:T.Fl [c] f)(e:(u4 (T.arcs [c]).length).map (λk=>lf L (2 * k+1))=T.flow f)(ht:f.t=[t]):T.Val c (su (u4 T.N) t):=by
 have ex:∀k,k < (T.arcs [c]).length->lf L (2 * k+1)=fx (T.flow f) k:=λk hk=>by rw[<- e,zfl hk]
 have tg:tight (T.arcs [c]).length (aU (T.arcs [c])) (aV (T.arcs [c])) (zn9 (T.arcs [c])) (fx (T.flow f)) side:=λk hk=>by rw[<- ex k hk];exact b.tight k hk
 refine⟨⟨f,t,h,ht,rfl⟩,λf' t' h' ht'=>?_⟩;have l:=Nt.leak ok h tg b.inn b.out b.bd (ze6 b.ris) h';rw[h.total ok,zd71 ht,zd71 ht']at l;exact l
theorem Nt.Val.le(v:T.Val c M):M<=su (u4 T.N) c:=by
 obtain⟨f,t,h,ht,rfl⟩:=v.ex;refine zoy λk hk=>(h.s (c,t) (by rw[ht];simp) k (u9.mp hk)).2
end
theorem zjn{l:List Nat}{a b:Nat->Int}(h:∀k∈l,a k<=b k)(e:su l b<=su l a):∀k∈l,a k=b k:=by
 induction l with
|nil=>intro k hk;simp at hk
|cons x r ih =>
  rw[za1,za1]at e;have h1:=h x (by simp);have h2:=zoy λk hk=>h k (wB x hk);intro k hk;rcases vW.mp hk with z|z
  ·subst z;lia
  ·exact ih (λj hj=>h j (wB x hj)) (by lia) k z
def Fm.pad(f:Fm):Fm:=⟨f.a,f.r,f.g,f.t++[λ_=>0]⟩
section
variable {T:Nt}{c d t:Nat->Int}{f:Fm}
theorem Nt.Fl.pad(h:T.Fl [c] f)(ht:f.t=[t])(hd:∀k,k < T.N->0<=d k):T.Fl [c,d] f.pad:=by
 refine⟨by show 2=(f.t++[_]).length;rw[ht];rfl,h.a,h.r,h.g,λx hx k hk=>?_,λm k hm hk=>?_⟩
 ·have hx:x∈[c,d].zip (f.t++[λ_=>0]):=hx;rw[ht]at hx;rcases vW.mp hx with z|z
  ·subst z;exact h.s (c,t) (by rw[ht];simp) k hk
  ·have z:=zW.mp z;subst z;exact⟨wR _,hd k hk⟩
 ·have:=h.b m k hm hk;have e:(su f.pad.t λt=>t k)=su f.t λt=>t k:=by
   show(su (f.t++[_]) λt=>t k)=_;rw[zt5,za1,zu5];show _+((0:Int)+0)=_;lia
  rw[e];exact this
theorem Nt.flow_pad:T.flow f.pad=T.flow f++vV T.N 0:=by
 unfold Nt.flow Fm.pad;rw[zS,wC,wC,wC];have:(u4 T.N).map (λ_=>(0:Int))=vV T.N 0:=by rw[List.map_const',wE]
 simp only[wH,yD,wN,this,wC]
theorem zv51(h:∀k,k < A.length->aU A k < n/\aV A k < n)(hw:n<=w):bl A.length (aU A) (aV A) x w=0:=by
 unfold bl;rw[zc1 (h:=λ_=>0) λk hk=>?_,zv2];obtain⟨h1,h2⟩:=h k hk;unfold trm;rw[aA (by lia),aA (by lia)];rfl
def Nt.stay(T:Nt)(c:Nat->Int):Fm:=⟨T.fl,λ_ k=>T.fl k,λ_ _=>0,[λk=>min (T.fl k) (c k),λk=>T.fl k - min (T.fl k) (c k)]⟩
theorem Nt.stay_fl(hf:∀k,k < T.N->0<=T.fl k/\T.fl k<=T.rm k/\0<=c k/\0<=d k/\T.fl k<=c k+d k)(hw:∀m i,m < T.n->i∈T.P m->0<=T.W i m):T.Fl [c,d] (T.stay c):=by
 refine⟨rfl,λk hk=>⟨(hf k hk).1,wR _⟩,λm k _ hk=>⟨(hf k hk).1,(hf k hk).2.1⟩,λm i hm hi=>⟨wR _,hw m i hm hi⟩,λx hx k hk=>?_,λm k hm hk=>?_⟩
 ·obtain⟨h1,h2,h3,h4,h5⟩:=hf k hk;have hx:x∈[(c,λk=>min (T.fl k) (c k)),(d,λk=>T.fl k - min (T.fl k) (c k))]:=hx;rcases vW.mp hx with z|z
  ·subst z;show 0<=min (T.fl k) (c k)/\min (T.fl k) (c k)<=c k;lia
  ·have z:=zW.mp z;subst z;show 0<=T.fl k - min (T.fl k) (c k)/\T.fl k - min (T.fl k) (c k)<=d k;lia
 ·have i0:T.inn (T.stay c) m k=0:=su_zero' λm' _=>su_zero' λi _=>by
   show(if m'+T.Ln i=m/\T.V i=k then(0:Int)else 0)=0;split <;> rfl
  have o0:T.out (T.stay c) m k=0:=by
   unfold Nt.out;split
   ·exact su_zero' λi _=>by
     show(if T.U i=k then(0:Int)else 0)=0;split <;> rfl
   ·rfl
  rw[i0,o0];have e:(su (T.stay c).t λt=>t k)=T.fl k:=by
   show su [_,_] _=_;rw[za1,za1,zu5];show min (T.fl k) (c k)+(T.fl k - min (T.fl k) (c k)+0)=_;lia
  rw[e];show(if m=0 then T.fl k else T.fl k)+0=0+if m < T.n then T.fl k else T.fl k
  split <;> split <;> lia
theorem zx11{cs:List (Nat->Int)}{k:Nat}(hk:k < T.N):(T.arcs (c :: cs))[(T.arcs []).length+k]?=some (T.nd T.n k,1,c k):=by
 have e:T.arcs (c :: cs)=T.arcs []++((u4 T.N).map (λk=>(T.nd T.n k,1,c k))++cs.flatMap λc=>(u4 T.N).map λk=>(T.nd T.n k,1,c k)):=by
  unfold Nt.arcs;simp only[wH,yD,wN]
 rw[e,wL (by lia),zU,wO (by simpa using hk),u8,xA hk];rfl
theorem zy91{f:Fm}{t:Nat->Int}{ts:List (Nat->Int)}(ht:f.t=t :: ts){k:Nat}(hk:k < T.N):fx (T.flow f) ((T.arcs []).length+k)=t k:=by
 have e:T.flow f=T.flow ⟨f.a,f.r,f.g,[]⟩++((u4 T.N).map t++ts.flatMap λt=>(u4 T.N).map t):=by
  unfold Nt.flow;rw[ht];simp only[wH,yD,wN]
 have l:(T.flow ⟨f.a,f.r,f.g,[]⟩).length=(T.arcs []).length:=Nt.len (cs:=[]) (f:=⟨f.a,f.r,f.g,[]⟩) rfl;unfold fx;rw[e,<- l,wL (by lia),zU,wO (by simpa using hk),u8,xA hk];rfl
theorem Nt.again(ok:T.Ok)(h:T.Fl [c] f)(ht:f.t=[t])(hf:∀k,k < T.N->0<=T.fl k/\T.fl k<=T.rm k/\0<=c k/\0<=d k/\T.fl k<=c k+d k)(hw:∀m i,m < T.n->i∈T.P m->0<=T.W i m)  
  (b:Best (T.nd (T.n+1) 0) (T.arcs [c,d]) (T.flow f++vV T.N 0) 0 1 L side) :
  ∃f2 t2 s2,T.Fl [c,d] f2/\(u4 (T.arcs [c,d]).length).map (λk=>lf L (2 * k+1))=T.flow f2/\(∀k,k < T.N->f2.a k=T.fl k)/\f2.t=[t2,s2]/\∀k,k < T.N->t k<=t2 k:=by
 have hp:=h.pad (d:=d) ht λk hk=>(hf k hk).2.2.2.1;rw[<- Nt.flow_pad]at b;have hl:=Nt.len (T:=T) (cs:=[c,d]) (f:=f.pad) hp.t;have hb:=b.bal hl λw h1 h2=>by
  rcases wT w (T.nd (T.n+1) 0)with z|z
  ·exact hp.bal ok (by lia) z
  ·exact zv51 (Nt.ends ok hp.t) z
 obtain⟨f2,fl2,e⟩:=Nt.best ok b hb;obtain⟨t2,s2,ht2⟩:∃t2 s2,f2.t=[t2,s2]:=by
  have:=fl2.t
  match hq:f2.t,this with
 |[x,y],_=>exact⟨x,y,rfl⟩
 refine⟨f2,t2,s2,fl2,e,λk hk=>?_,ht2,λk hk=>?_⟩
 ·have m:=Nt.most ok b fl2 e (Nt.stay_fl hf hw);exact zjn (λk hk=>(fl2.a k (u9.mp hk)).2) m k (u9.mpr hk)
 ·have ga:=zx11 (T:=T) (c:=c) (cs:=[d]) hk;have hlt:=(v8.mp ga).1;have:=b.up.inn _ hlt (zlf ga).1;rw[zx31 hl hlt,zy91 (f:=f.pad) (ts:=[λ_=>0]) (by show f.t++_=_;rw[ht];rfl) hk]at this;rw[<- zy91 (T:=T) ht2 hk,<- e,zfl hlt];exact this
end
section
variable {T:Nt}{c t:Nat->Int}{f:Fm}
def Nt.over(T:Nt)(c:Nat->Int)(X:Nat->Nat->Prop)[∀m k,Decidable (X m k)]:Int :=
 su (u4 T.N) (λk=>if X 0 k then T.fl k else 0)+(su (u4 T.n) λm=>su (u4 T.N) (λk=>if ¬X m k/\X (m+1) k then T.rm k else 0)+su (T.P m) λi=>if ¬X m (T.U i)/\X (m+T.Ln i) (T.V i)then T.W i m else 0)+su (u4 T.N) λk=>if ¬X T.n k then c k else 0
theorem Nt.cut(ok:T.Ok){side:List Nat}(h:T.Fl [c] f)(ht:f.t=[t])(tg:tight (T.arcs [c]).length (aU (T.arcs [c])) (aV (T.arcs [c])) (zn9 (T.arcs [c])) (fx (T.flow f)) side)(h0:0∈side)(h1:1 ∉ side)(hb:∀v∈side,v < T.nd (T.n+1) 0)(nd:side.Nodup) :
  su (u4 T.N) t=T.over c λm k=>T.nd m k ∉ side:=by
 have two:∀w∈side,w≠0->2<=w:=λw hw hn=>by
  have:w≠1:=λz=>h1 (z ▸ hw);lia
 have e1:=bl_flux' nd h0 λw hw hn=>h.bal ok (two w hw hn) (hb w hw);rw[Nt.worth h.t,zso tg,h.total ok,zd71 ht]at e1;have e2:su (u4 T.N) t=sm (T.arcs [c]).length λk=>if aU (T.arcs [c]) k∈side/\aV (T.arcs [c]) k ∉ side then fx (T.flow f) k else 0:=by lia
 have tz:∀p∈T.both [c] f,p.1.1∈side->p.1.2.1 ∉ side->p.2=p.1.2.2:=by
  have:=(zwg (Nt.len h.t) λu v cp x=>u∈side->v ∉ side->x=cp).mp λk hk=>(tg k hk).1;rw[Nt.zip h.t]at this;exact this
 obtain⟨t1,t2,t3,t4⟩:=(Nt.both_iff h.t λu v cp x=>u∈side->v ∉ side->x=cp).mp tz;have fin:∀{u v:Nat}{x cp:Int}{p:Prop} [Decidable p],(u∈side->v ∉ side->x=cp)->(p ↔ u∈side/\v ∉ side)->(if u∈side/\v ∉ side then x else 0)=if p then cp else 0:=λ{u v x cp p} _ h1 h2=>by
  by_cases z:u∈side/\v ∉ side
  ·rw[aF z,aF (h2.mpr z),h1 z.1 z.2]
  ·rw[aA z,aA λy=>z (h2.mp y)]
 rw[e2,zds (Nt.len h.t) λu v x=>if u∈side/\v ∉ side then x else 0,Nt.zip h.t];unfold Nt.both Nt.over;rw[zt5,zt5,zr5,zbb,zbb,ht,uaT,List.zip_nil_right,za1,zu5,zr5,x8];refine congr (congrArg _ (congr (congrArg _ (zp0 λk hk=>?_)) (zp0 λm hm=>?_))) (zp0 λk hk=>?_)
 ·exact fin (t1 k (u9.mp hk)) ⟨λz=>⟨h0,z⟩,λz=>z.2⟩
 ·have hm:=u9.mp hm;rw[zt5,zr5,zr5];refine congr (congrArg _ (zp0 λk hk=>?_)) (zp0 λi hi=>?_)
  ·exact fin (t2 m k hm (u9.mp hk)) ⟨λz=>⟨Decidable.not_not.mp z.1,z.2⟩,λz=>⟨λy=>y z.1,z.2⟩⟩
  ·exact fin (t3 m i hm hi) ⟨λz=>⟨Decidable.not_not.mp z.1,z.2⟩,λz=>⟨λy=>y z.1,z.2⟩⟩
 ·exact fin (t4 (c,t) (by rw[ht];simp) k (u9.mp hk)) ⟨λz=>⟨Decidable.not_not.mp z,h1⟩,λz y=>y z.1⟩
end
end _5
namespace _3
open PySem PySem.Spec PyProof.Rows _2
variable {K:Fg}
def zps(K:Fg):R2:=λx y H Q=>∃d ds,Is K H x d/\Is K H y (.list ds)/\Fit 8 d/\(∀e∈ds,Fit 8 e)/\Q (.bl (!ds.any λe=>xD e d)) H
theorem zse{X:Cx}(h:X.K=K)(hu:X.A.units+64 < b7):OpR X (a7 .NotIn) (zps K):=by
 subst h;walk_at"14";obtain⟨d,ds,hd,he,fd,fs,q⟩:=q;obtain⟨as,r1⟩:=zd9 I hd rx;obtain⟨bs,r2⟩:=zd9 I he ry;have:=fd.2;exact SeqAt.notIn_list_reads r2 r1 (Fit.lst fs).1 fd.1 (by lia) ⟨.bl _,H,I,rfl,q⟩
section
variable {X:Cx}
def zta1(K:Fg):List V->Hp->VK->Prop:=λvs H Q=>∃(a:aE)(ns:List Bool),vs=[.ref a]/\SqL K H a (ns.map V.bl)/\Q (.bl (ns.any λn=>n)) H
theorem zcr(h:X.K=K)(hc:X.calm=true):CallR X (.builtin "any") (zta1 K):=by
 subst h;walk_at"7";obtain⟨a,ns,rfl,hx,q⟩:=h;obtain⟨u,rfl,r1⟩:=zxs r;cases r1;obtain⟨its,rv,p,hz⟩:=I.list hx;have hl:=rv.length;rw[u5]at hl;have aL:a < s.heap.objs.size:=by obtain⟨o,ho,_⟩:=p.isList;exact vY ho
 refine call_any_walk (dJ p.isList ?_);refine⟨_,_,_,_,_,_,λi=>ns.getD i false,rfl,Walks.list (A:=X.A.in1) (I.ok.hd hc) s.heap.objs.size a (wJ aL) its.toArray,⟨⟨_,wF _ rfl,rfl,rfl⟩,p.isList.at λo e=>vT _ e⟩,?_,λh' tk hk'=>?_⟩
 ·intro i v s Q E hv hq;have hv:its.toArray[i]?=some v:=hv;have hv:its[i]?=some v:=by simpa using hv
  have hi:i < ns.length:=by rw[hl];exact(v8.mp hv).1
  have e3:ns[i]?=some ns[i]:=u6 hi;obtain⟨u,e1,e2⟩:=rv.get (i:=i) (x:=.bl ns[i]) (by rw[u8,e3];rfl);rw[hv]at e1;cases e1;cases e2;refine cP ?_;have hq:Q (ns.getD i false) s:=hq;have:ns.getD i false=ns[i]:=by rw[v6,e3];rfl
  rw[this]at hq;exact hq
 ·have hb:∀b o,s.heap.get? b=some o->h'.get? b=some o:=λb o e=>hk' b o (by simp;exact wJ (vY e)) (vT _ e);refine⟨.bl _,H,I.kept hb,rfl,?_⟩;have:((u4 its.toArray.size).any λi=>ns.getD i false)=ns.any λn=>n:=by
   rw[v3,<- hl];have e:ns=(u4 ns.length).map λi=>ns.getD i false:=by
    refine yC (by simp) λi h1 h2=>?_;simp[u6 h1]
   have e2:(ns.any λn=>n)=((u4 ns.length).map λi=>ns.getD i false).any λn=>n:=congrArg (λl:List Bool=>l.any λn=>n) e;rw[e2,List.any_map];rfl
  rw[this];exact q
end
end _3
namespace _4
open PySem PySem.Spec PyProof.Rows _2 _3
section
variable {K:Fg}
def zod(d e:D)(Q:D->Prop):Prop:=match e with
|.list ds=>Fit 8 d/\(∀e∈ds,Fit 8 e)/\Q (.bool (!ds.any λe=>xD e d))
|_=>False
theorem zli:R2H K (zps K) zod:=by
 walk_at"4";cases e with
|list ds=>exact⟨d,ds,hx,hy,h.1,h.2.1,k _ h.2.2 _ F H (Ext.refl s) (.bl _)⟩
|_=>exact h.elim
theorem zef(d:D)(ds:List D)(Q:D->Prop):zod d (.list ds) Q=(Fit 8 d/\(∀e∈ds,Fit 8 e)/\Q (.bool (!ds.any λe=>xD e d))):=rfl
def blsD:List D->Option (List Bool)
|[]=>some []
|.bool b :: r=>(blsD r).map (b :: ·)
|_ :: _=>none
theorem zf21(bs:List Bool):blsD (bs.map .bool)=some bs:=by
 induction bs with
|nil=>rfl
|cons b r ih=>rw[v4];unfold blsD;rw[ih];rfl
theorem zvt{F:Hp}:∀{xs:List V}{ds:List D}{bs:List Bool},IsAll K F xs ds->blsD ds=some bs->xs=bs.map V.bl
|_,_,_,.nil,e=>by cases e;rfl
|_,_,_,.cons (d:=d) h r,e=>by
  cases d with
 |bool b =>
   unfold blsD at e;obtain⟨bs',e1,rfl⟩:=wQ.mp e;cases h.bl_inv;rw[zvt r e1];rfl
 |_=>cases e
def zhz:List D->(D->Prop)->Prop
|[.list ds],Q=>∃bs,blsD ds=some bs/\Q (.bool (bs.any λb=>b))
|_,_=>False
theorem zu51:CB K (zta1 K) zhz:=by
 walk_at"10";unfold zhz at h;split at h
 ·obtain⟨v,rfl,hw⟩:=vw1 hv;obtain⟨p,xs,rfl,h1,i1⟩:=hw.list s;obtain⟨bs,e,q⟩:=h;have:=zvt i1 e;subst this;exact⟨p,bs,rfl,h1,k _ q _ F H (Ext.refl s) (.bl _)⟩
 ·exact h.elim
end
theorem zhv{α β:Type}(f:α->β)(a:α)(l:List α):zH f (a :: l)=f a :: zH f l:=rfl
theorem zix{α β:Type}(f:α->β):zH f []=[]:=rfl
theorem zuw{α:Type}(a d:α)(l:List α):List.getD (a :: l) 0 d=a:=rfl
theorem zdy{α:Type}(a d:α)(l:List α)(n:Nat):List.getD (a :: l) (n+1) d=List.getD l n d:=rfl
theorem r_nt:(!true)=false:=rfl
theorem r_nf:(!false)=true:=rfl
theorem zd61{α:Sort u}(a b:α):(if true=true then a else b)=a:=rfl
theorem zc61{α:Sort u}(a b:α):(if false=true then a else b)=b:=rfl
theorem zb61{α:Sort u}(a b:α):(if true=false then a else b)=b:=rfl
theorem zj61{α:Sort u}(a b:α):(if false=false then a else b)=a:=rfl
end _4
open PySem PySem.Spec PyProof.Rows _2 _3 _4 _5
local macro_rules|`(tactic| walk_at "sc")=>`(tactic| exact ⟨rfl,rfl,rfl,by decide +kernel,rfl,by decide +kernel,by decide +kernel⟩)
local macro_rules|`(tactic| walk_at "csc")=>`(tactic| exact ⟨rfl,by decide +kernel,by decide +kernel,by decide +kernel,by decide +kernel⟩)
local macro_rules|`(tactic| walk_at "ds")=>do `(tactic| simp only [$(<- ("zcf zal zw61 List.map_cons List.map_nil List.length_cons List.length_nil Nat.reduceAdd Nat.reduceSub List.replicate List.cons_append List.nil_append".splitOn " ").toArray.mapM λ s=>`(Lean.Parser.Tactic.simpLemma| $(Lean.mkIdent s.toName):ident)),*])
local macro_rules|`(tactic| walk_at "cs")=>do `(tactic| simp only [$(<- ("cST List.map_cons List.map_nil List.replicate List.cons_append List.nil_append List.getD_cons_zero List.getD_cons_succ".splitOn " ").toArray.mapM λ s=>`(Lean.Parser.Tactic.simpLemma| $(Lean.mkIdent s.toName):ident)),*])
local macro_rules|`(tactic| walk_at "dd")=>do let f:=λ t:String=>(t.splitOn " ").toArray.mapM λ s=>`(Lean.Parser.Tactic.simpLemma| $(Lean.mkIdent s.toName):ident);let A <- f "zef zhz e_dF nI zvd zii zke e_dC zt61 zju zh81 zql zuo zim zzu zkw zr61 zyy znw zww zen zcx zyw zlp zp71 zi81 zv61 zff zcp zg71 zkv zq81 zjp zfm zjw zrn e_gN zmn zjj e_gT ztm zxy zs51 zg61 zz61 e_cE e_cF zmm ztu zcv zxl zkx zxo zam zc71 zy51 zxu znv zdp zyx zux zd81 e_nF e_cN zuu zmw zpy e_aD e_aB e_aO zin zem zqp e_eN zrl e_gL zmi zfv zgo zty zhy zew zow zx51 zgn zw51 zd91 zm71 zym zsm zvy zmo ze71 zdx zpo fAdd fCat fI fI0 fMul fRep fEq fNe zou fIsN zov fIx zrf fIn fNeg fB fTru fLen zsz zfz fSum zeq zcz zph zsh zyi fSl fSlF ziw fZip zlv zru zrw zly fzT vwT slT slot Sl.wth mApp mExt ztx mPop fPut fGet fHas fII keyD nFld nCls noM nSet nIx noO noS zdq oneO zvs ArgP.arg toD zd51 exA oIx List.getElem?_cons_zero List.getElem?_cons_succ List.set_cons_zero List.set_cons_succ List.length_cons List.length_nil List.nil_append List.cons_append List.lookup putA setP getP Nat.reduceAdd Nat.reduceSub Nat.reduceMul Int.reduceAdd Int.reduceSub Int.reduceMul Int.reduceNeg Int.reduceLT Int.reduceLE Int.reducePow Int.reduceToNat Nat.reducePow Nat.reduceLT Nat.reduceLeDiff Nat.reduceEqDiff Int.reduceEq Int.reduceMod Int.reduceDiv Int.reduceBEq Int.reduceBNe Int.reduceGT Int.reduceGE zlz CPow Option.map_some Option.map_none Option.bind_some zr6 zq4 zd6 zp4 zs4 zn4 zl5 za5 zs3 zi6 zg6 zj5 zy2 zw2 zq2 zx4 zg5 zd4 zp6 zj6 zb5 zi5 zz4 zw3 zu7 zg7 zh6 zf9 zq7 ze9 zy7 za8 zd7 zt4 zr4 zc6 ze7 zl7 zv4 zg9 zc8 zc4 zk3 zo3 ze4 zt7 zm7 zh9 zb8 zhv zix zuw zdy r_nt r_nf zd61 zc61 zb61 zj61";let B <- f "zet zf31 zu01 zd21 zm01 zi21 zr01 zgu za21 zy11 zeb1 zj11 zxt List.map_cons List.map_nil beq_self_eq_true sizeLine_eq decide_eq_true_eq decide_true decide_false Bool.not_true Bool.not_false Bool.not_eq_true' Bool.not_eq_eq_eq_not Bool.not_not decide_eq_false_iff_not decide_not true_and and_true if_true if_false Bool.false_eq_true reduceCtorEq ite_true ite_false not_false_eq_true not_true_eq_false ne_eq Option.some.injEq exists_eq_left' exists_eq_left";`(tactic| first|(dsimp only [$A,*];repeat (simp -iota only [$A,*,$B,*];try dsimp only [$A,*]))|(simp -iota only [$A,*,$B,*];try dsimp only [$A,*];repeat (simp -iota only [$A,*,$B,*];try dsimp only [$A,*])))
local macro_rules | `(tactic| walk_at "k") => `(tactic| (refine ⟨_,rfl,?_⟩; walk_at "dd"))
local macro_rules | `(tactic| walk_at "a") => do let J:=Lean.mkIdent `J; let h:=Lean.mkIdent `hJ; `(tactic| (refine zf0 fun $J $h => ?_; walk_at "dd"))
local macro_rules | `(tactic| walk_at "f") => do let h:=Lean.mkIdent `hJ; `(tactic| (refine $h _ ?_; clear $h))
local macro_rules | `(tactic| walk_at "c") => do let h:=Lean.mkIdent `hJ; `(tactic| (clear $h; walk_at "a"))
local macro_rules | `(tactic| walk_at "b") => `(tactic| (walk_at "f"; walk_at "a"))
local macro_rules | `(tactic| walk_at "g") => do let f:=Lean.mkIdent; `(tactic| intro $(f `f) $(f `cdv) $(f `A) $(f `outer) $(f `s) $(f `H) $(f `E) $(f `hr))
local macro_rules | `(tactic| walk_at "h") => `(tactic| (refine fun _ _ _ _ _ _ us hl => ?_; first | (obtain ⟨_,e⟩:=ar1 hl;subst e;rfl) | (obtain ⟨_,_,e⟩:=ar2 hl;subst e;rfl) | (obtain ⟨_,_,_,e⟩:=ar3 hl;subst e;rfl) | (obtain ⟨_,_,_,_,e⟩:=ar4 hl;subst e;rfl) | (obtain ⟨_,_,_,_,_,e⟩:=ar5 hl;subst e;rfl)))
local macro_rules | `(tactic| walk_at "i") => `(tactic| (refine fun ds Qd h => ?_; first | (obtain ⟨e,_⟩:=h;subst e;rfl) | (obtain ⟨_,e,_⟩:=h;subst e;rfl) | (obtain ⟨_,_,e,_⟩:=h;subst e;rfl) | (obtain ⟨_,_,_,e,_⟩:=h;subst e;rfl) | (obtain ⟨_,_,_,_,e,_⟩:=h;subst e;rfl) | (obtain ⟨_,_,_,_,_,e,_⟩:=h;subst e;rfl) | (obtain ⟨_,_,_,_,_,_,e,_⟩:=h;subst e;rfl) | (obtain ⟨_,_,_,_,_,_,_,e,_⟩:=h;subst e;rfl)))
local macro_rules|`(tactic| walk_at "dn")=>`(tactic| (refine zf0 λ J hJ=>?_;walk_at "dd";refine hJ _ ?_;clear hJ))
local macro_rules|`(tactic| walk_at "dns")=>`(tactic| repeat walk_at "dn")
namespace _36
open PySem PySem.Spec PyProof.Rows _2 _3 _4 _5
variable {G:Nat->Nat->Int}{L ws:List Int}{N i m n:Nat}{gv_SINK gv_SOURCE:aC}{side:List Nat}{φ ψ:Nat->Int}
def top(i:Nat):Stmt:=PySem.Challenge.pw_vatyard_k36_whole_never_later.main.body.getD i (.Pass ⟨0,0,0,0⟩)
abbrev zcg:Stmt:=top 1
abbrev zd2:Stmt:=zm4 (top 2) 0
abbrev zv3:Stmt:=zm4 (top 2) 1
abbrev zh5:Stmt:=zm4 (top 2) 2
abbrev zo2:Stmt:=zm4 (top 2) 3
abbrev zr2:Stmt:=zm4 (top 2) 4
abbrev zd5:Stmt:=zm4 (top 2) 5
abbrev zh4:Stmt:=zm4 (top 2) 6
abbrev zq3:Stmt:=zm4 (top 2) 7
abbrev zpc:Stmt:=top 3
abbrev zm3:Stmt:=zm4 (top 6) 0
abbrev zl3:Stmt:=zm4 (top 6) 1
abbrev zw4:Stmt:=zm4 (top 7) 0
abbrev zk5:Stmt:=zm4 (top 7) 1
abbrev zz3:Stmt:=zm4 (top 8) 0
abbrev zu3:Stmt:=zm4 (top 8) 1
abbrev zle:Stmt:=top 9
abbrev zkp:Stmt:=top 10
abbrev zwv:Stmt:=top 14
abbrev zsx:Stmt:=top 15
abbrev zo9:Stmt:=top 16
abbrev znb:Stmt:=top 17
abbrev zn11:Stmt:=top 18
abbrev zve:Stmt:=top 19
abbrev zwc:Stmt:=top 21
abbrev ze3:Stmt:=top 22
abbrev zxh:Stmt:=top 23
abbrev zb4:Stmt:=top 25
abbrev zmb:Stmt:=top 26
abbrev zwe:Stmt:=top 27
abbrev zfa:Stmt:=top 28
abbrev zf6:Stmt:=top 30
abbrev zk9:Stmt:=top 31
abbrev zg8:Stmt:=top 32
abbrev zz8:Stmt:=top 33
abbrev zja:Stmt:=top 34
abbrev zb6:Stmt:=top 35
abbrev zn2:Stmt:=top 36
abbrev zy4:Stmt:=top 37
abbrev za9:Stmt:=top 38
abbrev zi8:Stmt:=top 39
abbrev zdz:Stmt:=top 40
section
variable {P:aN}{w:aQ}{K:Fg}{mg:Str->Option aC}{base:aT}{jA:aE}
def zf4(C:aE):DSpT:=λas Q=>∃(m:Nat)(E:List Nat)(L:List Int)(S:List (List Nat))(lv:List (Nat×Nat))(tr:List Nat)(lev:Nat),as=[.b (oS C E L S),.b (.dk (kN lv)),.o (.li (tr.map nI)),.d (nI lev)]/\E.length=2 * m/\L.length=2 * m /\
 (∀s∈tr,s < 2 * m/\(0 < lf L s->(lkp lv (hd E s)).isSome=true))/\∀j,j<=tr.length->(∀(i:Nat) s,j<=i->tr[i]?=some s->¬(0 < lf L s/\lkp lv (hd E s)=some lev))->(j=0->Q (.fz .none) (.li []))/\∀s,0 < j->tr[j - 1]?=some s->0 < lf L s->lkp lv (hd E s)=some lev->Q (.fz (nI s)) (.li ((tr.take j).map nI))
theorem zs6:FnScope ["self", "levels", "steps", "level", "step"] ["self", "levels", "steps", "level"] (zh0 zh4):=by walk_at"sc"
theorem zlb(jB:Cls K jA)(T:TopMeth K jA "step_up" "Stream.step_up" zh4)(jJ:mg "len"=none)(jC:NoAttr K jA "left")(jH:NoAttr K jA "ends"):MethD P w K mg base jA "step_up" 1 ["self", "levels", "steps", "level"] (spT K (zf4 jA)):=by
 refine zm8 jB T zs6 (by walk_at"h") (zwh λas Qd h=>by obtain⟨_,_,_,_,_,_,_,rfl,_⟩:=h;rfl) (zc9 ?_);walk_at"g";have nd:=zs6.nd;refine⟨_,(dSeq (zgp (dTru (zm0 2)) (dSeq (dAsg (dOp fIx (zm0 2) (dOp fSub (dCB fLen (zk0 (zm0 2) dNil)) (dC (.int 1)))) (gN 4))
   (dSeq (dIf (dAnd (za2 (dOp fGt (dOp fIx (dPV (pFld jA "left" (pVar 0))) (zm0 4)) (dC (.int 0)))) (za2 (dOp fEq (nGet (pVar 1) (dOp fIx (dPV (pFld jA "ends" (pVar 0))) (zm0 4))) (zm0 3)))) (dRet (cE (dVar 4))) zz5)
   (zjh (cBM0 "list" mPop (pVar 2))))))
   (dRet (cE (dC .none)))),(zd0 (zma aR (zy5 (K:=K) rfl (pv 2) (λ_=>rfl)) (zd0 (pset 4 nd (pix w K hr (pv 2) (zk1 zj9 (zv0 (zi1 (K:=K) rfl) rfl jJ ze5 (za0 (pv 2) zg0)) ze0)))
   (zd0 (zn5 (PW.pt (zel (zs0 zll (pix w K hr (zy1 (K:=K) rfl (pv 0) rfl) (pv 4)) ze0 (zz0 _)) (zag (zs0 (zz2 (K:=K) rfl (Room.units hr)) (pix w K hr (pv 1) (pix w K hr (zy1 (K:=K) rfl (pv 0) rfl) (pv 4))) (pv 3) (zz0 _))))) (zj0 (zh1 (pv 4))) zg1)
   (zj0 (zf2 (ztl (K:=K) rfl ğa ğf ğg zny (pv 2)))))))
   (zj0 (zh1 zyg))),(zn0 (zoa (zda (zb0 2)) (zn0 (zy0 (zl0 r_ix (zb0 2) (RfE.v (zl0 zij (RfE.v (zu8 zid (zx0 (zb0 2) zp1))) rvi))) (rgn 4))
   (zn0 (zm5 (zgl (zr0 (zl0 r_gt (RfE.v (zl0 r_ix (RfP.v (zk4 jB jC (zu0 0))) (zb0 4))) rvi)) (zr0 (zv1 q_eq (RfV.h (RfE.v (zxp (zu0 1) (zl0 r_ix (RfP.v (zk4 jB jH (zu0 0))) (zb0 4))))) (RfV.h (zb0 3))))) (zm1 (RfE.c (zi0 4))) zf1)
   (zh2 (zvw znx (zu0 2))))))
   (zm1 (RfE.c zog))),?_⟩
 rintro as Qd a ⟨m,E,L,S,lv,tr,lev,rfl,hE,hL,hb,q⟩;walk_at"ds";refine zpq ?_;refine⟨λμ U=>∃s4,μ<=tr.length/\(∀(i:Nat) s,μ<=i->tr[i]?=some s->¬(0 < lf L s/\lkp lv (hd E s)=some lev))/\U=[.bo (oS jA E L S),.bo (.dk (kN lv)),.io a (.li ((tr.take μ).map nI)),.sh (nI lev),s4],⟨tr.length,.un,u7 _,λi s hi e=>?_,?_⟩,?_⟩
 ·rw[wA hi]at e;cases e
 ·rw[xH]
 rintro μ U ⟨s4,hμ,bad,rfl⟩;obtain⟨q0,q1⟩:=q μ hμ bad;walk_at"dd";cases μ with
|zero =>
  simp only[zG,yL,List.isEmpty_nil];walk_at"dd";exact⟨_,rfl,q0 rfl⟩
|succ μ =>
  obtain⟨s,hs⟩:∃s,tr[μ]?=some s:=⟨tr[μ]'(by lia),u6 _⟩
  have hsm:=hb s (wI hs);have el:((tr.take (μ+1)).map nI).length=μ+1:=by rw[u5,wS];lia
  have e1:((tr.take (μ+1)).map nI).isEmpty=false:=by
   rw[List.isEmpty_eq_false_iff];intro z;rw[z]at el;simp at el
  have es:(tr.take (μ+1))[μ]?=some s:=by rw[uaI (by lia)];exact hs
  rw[e1];walk_at"dd";walk_at"a";rw[el,show((μ+1:Nat):Int) - 1=(μ:Int) by lia];refine⟨_,zhb1 es,?_⟩;walk_at"dd";walk_at"f";have next:¬(0 < lf L s/\lkp lv (hd E s)=some lev)->∃m',m' < μ+1/\∃s4,m'<=tr.length/\(∀(i:Nat) s,m'<=i->tr[i]?=some s->¬(0 < lf L s/\lkp lv (hd E s)=some lev))/\([Sl.bo (oS jA E L S),Sl.bo (.dk (kN lv)),Sl.io a (.li ((tr.take (μ+1)).map nI).dropLast),Sl.sh (nI lev),Sl.sh (nI s)]:DSt)=[.bo (oS jA E L S),.bo (.dk (kN lv)),.io a (.li ((tr.take m').map nI)),.sh (nI lev),s4]:=λhn=>by
   refine⟨μ,by lia,.sh (nI s),by lia,λi s' hi e=>?_,?_⟩
   ·rcases wT μ i with z|z
    ·exact bad i s' (by lia) e
    ·have:i=μ:=by lia
     subst this;rw[hs]at e;cases e;exact hn
   ·rw[j9,el,zF,<- List.map_take,List.take_take,zP (by lia)]
  have pop:¬(0 < lf L s/\lkp lv (hd E s)=some lev)->∃d,((tr.take (μ+1)).map nI)[((tr.take (μ+1)).map nI).length - 1]?=some d/\∃m',m' < μ+1/\∃s4,m'<=tr.length/\(∀(i:Nat) s,m'<=i->tr[i]?=some s->¬(0 < lf L s/\lkp lv (hd E s)=some lev))/\([Sl.bo (oS jA E L S),Sl.bo (.dk (kN lv)),Sl.io a (.li ((tr.take (μ+1)).map nI).dropLast),Sl.sh (nI lev),Sl.sh (nI s)]:DSt)=[.bo (oS jA E L S),.bo (.dk (kN lv)),.io a (.li ((tr.take m').map nI)),.sh (nI lev),s4]:=λhn =>
   ⟨nI s,by rw[el,zF,u8,es];rfl,next hn⟩
  walk_at"a";refine⟨_,zp81 hL hsm.1,?_⟩;walk_at"dd";refine two (λhp=>?_) λhp=>hJ _ ?_
  ·obtain⟨b,hbb⟩:=xM.mp (hsm.2 hp);refine⟨_,zo51 hE hsm.1,?_⟩;walk_at"dd";refine⟨_,nI b,rfl,by rw[zvd,hbb];rfl,?_⟩;walk_at"dd";refine two (λhe=>?_) λhe=>hJ _ ?_
   ·have:b=lev:=by lia
    subst this;exact⟨_,rfl,q1 s (by lia) (by rw[zF];exact hs) hp hbb⟩
   ·walk_at"dd";exact pop λz=>by rw[hbb]at z;exact he (by have:=z.2;injection this with this;rw[this])
  ·walk_at"dd";exact pop λz=>hp z.1
def zq9(C:aE):DSpT:=λas Q=>∃(m:Nat)(E:List Nat)(L:List Int)(S:List (List Nat))(p:List Nat),as=[.o (oS C E L S),.d (.list (p.map nI))]/\E.length=2 * m/\L.length=2 * m/\p≠[]/\p.length<=1000000/\(∀s∈p,s < 2 * m) /\
 ∀a,(∃s∈p,a=lf L s)->(∀s∈p,a<=lf L s)->Q (.fz .none) (oS C E (zy3 L p a) S)
theorem zxk(L:List Int)(p:List Nat)(s:Nat)(a:Int):zy3 L (p++[s]) a=zoh (zy3 L p a) s a:=by unfold zy3;rw[List.foldl_append];rfl
theorem zv8:FnScope ["self", "path", "amount", "step"] ["self", "path"] (zh0 zq3):=by walk_at"sc"
theorem zcd(jB:Cls K jA)(T:TopMeth K jA "carry" "Stream.carry" zq3)(uU:mg "min"=none)(jC:NoAttr K jA "left"):MethD P w K mg base jA "carry" 1 ["self", "path"] (spT K (zq9 jA)):=by
 refine zm8 jB T zv8 (by walk_at"h") (zwh λas Qd h=>by obtain⟨_,_,_,_,_,rfl,_⟩:=h;rfl) (zc9 ?_);walk_at"g";have nd:=zv8.nd;refine⟨_,(dSeq (dAsg (dCB zcz (zk0 (dF (zbd (dIt (zm0 1)) 1 [0] (gN 0) zmf (dOp fIx (dPV (pFld jA "left" (pVar 1))) (zm0 0)))) dNil)) (gN 2))
   (dFor (dIt (dVar 1)) (gN 3) (dSeq (zfq (λi j=>i - j) (pFld jA "left" (pVar 0)) (dVar 3) (dVar 2))
   (zfq (λi j=>i+j) (pFld jA "left" (pVar 0)) (dOp fXor (zm0 3) (dC (.int 1))) (dVar 2))))),(zd0 (pset 2 nd (zv0 (zpr (K:=K) rfl rfl) rfl uU zi11 (za0 (zu4 (sc:=zh0 zq3) (N:=["self", "path", "amount", "step"]) (own:=["step"]) (ix:=[0]) rfl rfl rfl (by walk_at"csc") (pi_W (K:=K) rfl (pv 1)) (λ_ _ _ _=>⟨(pgn 0 (nds ["step", "self"])),zj3,(pix w K hr (zy1 (K:=K) rfl (pv 1) rfl) (pv 0))⟩)) zg0)))
   (zj0 (zt3 aR rfl (pi_W (K:=K) rfl (pv 1)) (pgn 3 nd) (zd0 (zqa (zy1 (K:=K) rfl (pv 0) rfl) (pv 3) (zjt (K:=K) (Room.units hr) rfl) (pv 2) zyk (zpp (Room.units hr)))
   (zj0 (zqa (zy1 (K:=K) rfl (pv 0) rfl) (zk1 zj21 (pv 3) ze0) (zjt (K:=K) (Room.units hr) rfl) (pv 2) zyf (zpp (Room.units hr)))))))),(zn0 (zy0 (zu8 zo61 (zx0 (RfE.v (RfF.e (zj2 (zct (zb0 1)) (zn1 (i:=0) (n:=1) (by decide)) zg4 (zl0 r_ix (RfP.v (zk4 jB jC (zu0 1))) (zb0 0))))) zp1)) (rgn 2))
   (zj4 (zgq (zi0 1)) (rgn 3) (zn0 (zra (zk4 jB jC (zu0 0)) (zi0 3) (zi0 2))
   (zra (zk4 jB jC (zu0 0)) (zl0 zs91 (zb0 3) rvi) (zi0 2))))),?_⟩
 rintro as Qd a ⟨m,E,L,S,p,rfl,hE,hL,hne,hz,hb,q⟩;walk_at"ds";walk_at"a";refine zgk (λs=>.int (lf L s)) (by rw[aW];lia) (λs hs=>?_) ?_
 ·walk_at"cs";walk_at"dd";exact⟨_,zp81 hL (hb s hs),rfl⟩
 refine⟨p.map (lf L),?_,by simpa using hne,λM hM hx=>hJ _ ?_⟩
 ·rw[<- _4.ints_map (p.map (lf L)),wD];rfl
 clear hJ;walk_at"dd";refine zb2 (λi U=>∃s3,U=[.io a (oS jA E (zy3 L (p.take i) M) S),.sh (.list (p.map nI)),.sh (.int M),s3]) ⟨.un,rfl⟩ ?_ ?_
 ·rintro i s U' hs ⟨s3,rfl⟩;have hsm:=hb s (wI hs);have hl:(zy3 L (p.take i) M).length=2 * m:=by rw[zub];exact hL
  rw[show p.take (i+1)=p.take i++[s] by rw[xR,hs];rfl,zxk];generalize zy3 L (p.take i) M=L1 at hl ⊢;walk_at"dd";walk_at"a";have get:∀{LL:List Int}{j:Nat},j < LL.length->(LL.map vQ)[((j:Nat):Int).toNat]?=some (.int (lf LL j)):=λ{LL j} h=>by
   rw[vZ,u8];unfold lf;rw[v6,u6 h];rfl
  have ixn:∀{LL:List Int}{j:Nat},j < LL.length->ixN (LL.map vQ).length ((j:Nat):Int)=some j:=λ{LL j} h=>by
   unfold ixN;rw[aF (by lia),aF (by rw[u5];lia),vZ]
  refine⟨by lia,_,get (by lia),?_⟩;walk_at"dd";refine⟨s,ixn (by lia),hJ _ ?_⟩;clear hJ;rw[show(L1.map vQ).set s (.int (lf L1 s - M))=(L1.set s (lf L1 s - M)).map .int from(zX ..).symm];walk_at"dd";rw[ze01];have hx:xr s < 2 * m:=zc51 hsm;refine⟨by lia,_,get (by rw[wK];lia),?_⟩;walk_at"dd";refine⟨xr s,ixn (by rw[wK];lia),.sh (nI s),?_⟩;rw[show((L1.set s (lf L1 s - M)).map vQ).set (xr s) (.int (lf (L1.set s (lf L1 s - M)) (xr s)+M))=((L1.set s (lf L1 s - M)).set (xr s) (lf (L1.set s (lf L1 s - M)) (xr s)+M)).map .int from(zX ..).symm];rw[zwy (by lia),aA (λz=>zn61 s z.symm)];rfl
 ·rintro U' ⟨s3,rfl⟩;rw[xH];obtain⟨s0,hs0,e0⟩:=vU.mp hM;walk_at"dd";exact⟨_,rfl,q M ⟨s0,hs0,e0.symm⟩ λs hs=>hx _ (zR hs)⟩
def zl2(C:aE):DSpT:=λas Q=>∃(n m:Nat)(E:List Nat)(L:List Int)(S:List (List Nat))(src:Nat)(lv:List (Nat×Nat))(row:List Nat)(lev:Nat),as=[.b (oS C E L S),.d (.list (row.map nI)),.o (.dk (kN lv))]/\n<=100000/\Net n m E S/\L.length=2 * m/\Bfs n m E L src lv row lev /\
 ∀lv' row',Bfs n m E L src lv' row' (lev+1)->lv'.length=lv.length+row'.length->Q (.fz (.list (row'.map nI))) (.dk (kN lv'))
theorem zi4:FnScope ["self", "row", "told", "behind", "here", "step", "goal"] ["self", "row", "told"] (zh0 zo2):=by walk_at"sc"
theorem zi9(jB:Cls K jA)(T:TopMeth K jA "row_behind" "Stream.row_behind" zo2)(jI:NoAttr K jA "steps")(jH:NoAttr K jA "ends")(jC:NoAttr K jA "left"):MethD P w K mg base jA "row_behind" 1 ["self", "row", "told"] (spT K (zl2 jA)):=by
 refine zm8 jB T zi4 (by walk_at"h") (zwh λas Qd h=>by obtain⟨_,_,_,_,_,_,_,_,_,rfl,_⟩:=h;rfl) (zc9 ?_);walk_at"g";have nd:=zi4.nd;refine⟨_,(dSeq (dSet 3 (cF (dLst dNil)))
   (dSeq (dFor (dIt (dVar 1)) (gN 4) (dFor (dIt (dOp fIx (dPV (pFld jA "steps" (pVar 0))) (zm0 4))) (gN 5) (dSeq (dAsg (dOp fIx (dPV (pFld jA "ends" (pVar 0))) (zm0 5)) (gN 6))
   (dIf (dAnd (za2 (dOp fGt (dOp fIx (dPV (pFld jA "left" (pVar 0))) (zm0 5)) (dC (.int 0)))) (za2 (nIn true (dVar 6) (pVar 2)))) (dSeq (dPut (pVar 2) (dVar 6) (dOp fAdd (nGet (pVar 2) (dVar 4)) (dC (.int 1))))
   (zjh (cBM "list" mApp (pVar 3) (zk0 (dVar 6) dNil)))) zz5))))
   (dFrz 3 [] (zhp 3)))),(zd0 (pset 3 nd (zi2 zg0))
   (zd0 (zt3 aR rfl (pi_W (K:=K) rfl (pv 1)) (pgn 4 nd) (zj0 (zt3 aR rfl (pi_W (K:=K) rfl (pix w K hr (zy1 (K:=K) rfl (pv 0) rfl) (pv 4))) (pgn 5 nd) (zd0 (pset 6 nd (pix w K hr (zy1 (K:=K) rfl (pv 0) rfl) (pv 5)))
   (zj0 (zn5 (PW.pt (zel (zs0 zll (pix w K hr (zy1 (K:=K) rfl (pv 0) rfl) (pv 5)) ze0 (zz0 _)) (zag (zs0 (zif (w:=w) (K:=K) (Room.units hr) rfl rfl) (pv 6) (pv 2) (by with_unfolding_all rfl))))) (zd0 (zax (zk1 (zl1 (K:=K) rfl) (pix w K hr (pv 2) (pv 4)) ze0) (zsu (pv 2) (pv 6) (zpp (Room.units hr))))
   (zj0 (zf2 (zk8 (K:=K) rfl ğa ğb ğc zk2 (pv 3) (za0 (pv 6) zg0))))) zg1))))))
   (zj0 (zh1 (pv 3))))),(zn0 (zf3 (RfF.c (zb7 zo0)))
   (zn0 (zj4 (zgq (zi0 1)) (rgn 4) (zj4 (zgq (zl0 r_ix (RfP.v (zk4 jB jI (zu0 0))) (zb0 4))) (rgn 5) (zn0 (zy0 (zl0 r_ix (RfP.v (zk4 jB jH (zu0 0))) (zb0 5)) (rgn 6))
   (zm5 (zgl (zr0 (zl0 r_gt (RfE.v (zl0 r_ix (RfP.v (zk4 jB jC (zu0 0))) (zb0 5))) rvi)) (zr0 (zbt (zi0 6) (zu0 2)))) (zn0 (zbv (zl0 zf8 (RfE.v (zxp (zu0 2) (zi0 4))) rvi) (zu0 2) (zi0 6))
   (zh2 (zkh zhd (zu0 3) (zc0 (zi0 6) zo0)))) zf1))))
   (zgb 3 [] (zza (i:=3))))),?_⟩
 rintro as Qd a ⟨n,m,E,L,S,src,lv,row,lev,rfl,hn,N,hL,B,q⟩;walk_at"ds";walk_at"a";walk_at"b";refine zb2 (λi U=>∃lv1 beh s4 s5 s6,Mid n m E L lv lev lv1 beh/\(∀v∈row.take i,∀l,S[v]?=some l->∀s∈l,0 < lf L s->(lkp lv1 (hd E s)).isSome=true) /\
  U=[.bo (oS jA E L S),.sh (.list (row.map nI)),.io a (.dk (kN lv1)),.ow (.li (beh.map nI)),s4,s5,s6]) ⟨lv,[],.un,.un,.un,Mid.start B,λv hv=>by simp at hv,rfl⟩ ?_ ?_
 ·rintro i v U hv ⟨lv1,beh,s4,s5,s6,M,cl,rfl⟩;have hvr:=wI hv;have hvl:=M.old _ _ (B.ro v hvr);have hvn:=B.bd _ (zdo (B.ro v hvr));obtain⟨l,hl⟩:∃l,S[v]?=some l:=⟨S[v]'(by rw[N.lS];exact hvn),u6 _⟩
  walk_at"dd";refine⟨_,zec1 hl,?_⟩;walk_at"dd";refine zb2 (λj U=>∃lv1 beh s5 s6,Mid n m E L lv lev lv1 beh/\(∀v∈row.take i,∀l,S[v]?=some l->∀s∈l,0 < lf L s->(lkp lv1 (hd E s)).isSome=true)/\(∀s∈l.take j,0 < lf L s->(lkp lv1 (hd E s)).isSome=true) /\
   U=[.bo (oS jA E L S),.sh (.list (row.map nI)),.io a (.dk (kN lv1)),.ow (.li (beh.map nI)),.sh (nI v),s5,s6]) ⟨lv1,beh,s5,s6,M,cl,λs hs=>by simp at hs,rfl⟩ ?_ ?_
  ·clear M hvl cl lv1 beh s4 s5 s6;rintro j s U hs ⟨lv1,beh,s5,s6,M,cl,cj,rfl⟩;have hvl:=M.old _ _ (B.ro v hvr);have hsl:=wI hs;obtain⟨hsm,hst⟩:=N.s1 v l hl s hsl;have hz:lv1.length<=n:=by
    have:=zj1 n (lv1.map (·.1)) M.nd (λx hx=>by obtain⟨p,hp,rfl⟩:=vU.mp hx;exact M.bd p hp)
    rwa [u5]at this
   have hz2:=M.len;have tk:∀x∈l.take (j+1),x∈l.take j \/ x=s:=λx hx=>by
    rw[xR,hs]at hx;rcases vS.mp hx with z|z
    ·exact .inl z
    ·simp at z;exact .inr z
   walk_at"dd";refine zf0 λJ2 hJ2=>?_;walk_at"dd";refine⟨_,zo51 N.lE hsm,?_⟩;walk_at"dd";refine hJ2 _ ?_;clear hJ2;walk_at"dd";refine⟨_,zp81 hL hsm,?_⟩;walk_at"dd";refine two (λhp=>?_) λhp=>?_
   ·rw[zE];refine two (λhg=>?_) λhg=>?_
    ·have hg:lkp lv1 (hd E s)=none:=by simpa using hg
     refine zf0 λJ2 hJ2=>?_;walk_at"dd";refine⟨_,nI lev,rfl,by rw[zvd,hvl];rfl,?_⟩;walk_at"dd";refine⟨by rw[kN,u5];lia,hJ2 _ ?_⟩;clear hJ2;rw[show(vQ ((lev:Int)+1))=nI (lev+1)from rfl,zr21 hg];walk_at"dd";refine⟨by rw[u5];lia,lv1++[(hd E s,lev+1)],beh++[hd E s],_,_,M.put hsm hp (by rw[hst];exact hvl) (N.bE s hsm) hg,λu hu k hk x hx hp'=>?_,λx hx hx0=>?_,by rw[v9];rfl⟩
     ·obtain⟨b,hb⟩:=xM.mp (cl u hu k hk x hx hp');rw[ztd,hb];rfl
     ·rcases tk x hx with z|z
      ·obtain⟨b,hb⟩:=xM.mp (cj x z hx0);rw[ztd,hb];rfl
      ·rw[z,ztd,hg];simp
    ·exact⟨lv1,beh,_,_,M,cl,λx hx hx0=>(tk x hx).elim (λz=>cj x z hx0) λz=>by rw[z];cases q:lkp lv1 (hd E s)with|none=>exact aJ (by rw[q];rfl) hg|some b=>rfl,rfl⟩
   ·exact⟨lv1,beh,_,_,M,cl,λx hx hx0=>(tk x hx).elim (λz=>cj x z hx0) λz=>aJ (z ▸ hx0) hp,rfl⟩
  ·rintro U ⟨lv1,beh,s5,s6,M,cl,cj,rfl⟩;refine⟨lv1,beh,_,_,_,M,λu hu k hk s hs hp=>?_,rfl⟩;rw[xR,hv]at hu;rcases vS.mp hu with z|z
   ·exact cl u z k hk s hs hp
   ·simp at z;subst z;rw[hl]at hk;cases hk;rw[xH]at cj;exact cj s hs hp
 ·rintro U ⟨lv1,beh,s4,s5,s6,M,cl,rfl⟩;rw[xH]at cl;refine hJ _ ?_;walk_at"dd";refine⟨_,_,rfl,rfl,?_⟩;exact⟨_,rfl,q _ _ (Mid.bfs N B M cl) M.len⟩
def zt8(C:aE):DSpT:=λas Q=>∃(n m:Nat)(E:List Nat)(L:List Int)(S:List (List Nat))(src:Nat),as=[.b (oS C E L S),.d (nI src)]/\n<=100000/\Net n m E S/\L.length=2 * m/\src < n /\
 ∀lv,Lev n m E L src lv->∀t,Q (.dk (kN lv)) t
theorem zo7:FnScope ["self", "source", "told", "row"] ["self", "source"] (zh0 zh5):=by walk_at"sc"
theorem zmc(jB:Cls K jA)(T:TopMeth K jA "levels" "Stream.levels" zh5)(jZ:MethD P w K mg base jA "row_behind" 1 ["self", "row", "told"] (spT K (zl2 jA))):MethD P w K mg base jA "levels" 2 ["self", "source"] (spT K (zt8 jA)):=by
 refine zm8 jB T zo7 (by walk_at"h") (zwh λas Qd h=>by obtain⟨_,_,_,_,_,_,rfl,_⟩:=h;rfl) (zc9 ?_);walk_at"g";have nd:=zo7.nd;refine⟨_,(dSeq (dSet 2 (cDK1 (dVar 1) (dC (.int 0))))
   (dSeq (dAsg (dF (dLst (zk0 (dVar 1) dNil))) (gN 3))
   (dSeq (zgp (dTru (zm0 3)) (dSet 3 (zf51 false jA "row_behind" (zl2 jA) (pVar 0) (aD (dVar 3) (aO (pVar 2) aNil)))))
   (zhp 2)))),(zd0 (pset 2 nd (zc01 (zpw (pv 1) ze0 zq01) rfl rfl (by simp) (by decide)))
   (zd0 (pset 3 nd (zi2 (za0 (pv 1) zg0)))
   (zd0 (zma aR (zy5 (K:=K) rfl (pv 3) (λ_=>rfl)) (zj0 (pset 3 nd (zf7 jZ (rmn hr) (pv 0) (za0 (pv 3) (za0 (pv 2) zg0))))))
   (zj0 (zh1 (pv 2)))))),(zn0 (zf3 (zr81 (zi0 1) zd1))
   (zn0 (zy0 (RfF.e (zb7 (zc0 (zi0 1) zo0))) (rgn 3))
   (zn0 (zoa (zda (zb0 3)) (zf3 (zpa false (zu0 0) (at_d (zi0 3) (at_o (zu0 2) zw9)))))
   (zza (i:=2))))),?_⟩
 rintro as Qd a ⟨n,m,E,L,S,src,rfl,hn,N,hL,hs,q⟩;walk_at"ds";walk_at"a";walk_at"b";walk_at"f";refine zpq ?_;refine⟨λμ U=>∃lv row lev,Bfs n m E L src lv row lev/\μ=2 * (n - lv.length)+(if row=[]then 0 else 1)/\U=[.bo (oS jA E L S),.sh (nI src),.ow (.dk (kN lv)),.sh (.list (row.map nI))],⟨_,[(src,0)],[src],0,Bfs.start hs,rfl,rfl⟩,?_⟩;rintro μ U ⟨lv,row,lev,B,rfl,rfl⟩;walk_at"dd";refine two (λhr0=>?_) λhr0=>?_
 ·refine⟨n,m,E,L,S,src,lv,row,lev,rfl,hn,N,hL,B,λlv' row' B' e=>⟨_,?_,lv',row',lev+1,B',rfl,rfl⟩⟩;have hz:=zj1 n (lv'.map (·.1)) B'.nd (λx hx=>by obtain⟨p,hp,rfl⟩:=vU.mp hx;exact B'.bd p hp);rw[u5]at hz;have hr1:row≠[]:=λz=>by rw[z]at hr0;cases hr0
  rw[aA hr1];by_cases z:row'=[]
  ·subst z;rw[aF rfl];simp at e;lia
  ·have:=List.length_pos_iff.mpr z;rw[aA z];lia
 ·have hr1:row=[]:=by
   cases row with
  |nil=>rfl
  |cons x r=>exact aJ rfl hr0
  subst hr1;exact q lv B.lev _
abbrev tT(TT:List (List Nat)):_4.T:=.ls (TT.map λl=>.li (l.map nI))
theorem setT{TU:List (List Nat)}{v:Nat}(x:List Nat):(TU.map λl=>_4.T.li (l.map nI)).set v (.li (x.map nI))=(TU.set v x).map λl=>_4.T.li (l.map nI):=by rw[zX]
def zr8(C:aE):DSpT:=λas Q=>∃(n m:Nat)(E:List Nat)(L:List Int)(S:List (List Nat))(lv:List (Nat×Nat))(TT:List (List Nat))(src snk:Nat),as=[.b (oS C E L S),.b (.dk (kN lv)),.o (tT TT),.d (nI src),.d (nI snk)]/\m<=400000/\Net n m E S/\L.length=2 * m/\src < n/\src≠snk/\lkp lv src=some 0 /\
 (∀s,s < 2 * m->0 < lf L s->(lkp lv (tl E s)).isSome=true->(lkp lv (hd E s)).isSome=true)/\Tri m E S L lv snk TT /\
 (∀TT',¬Rch m E L lv snk src->Q (.fz (.list [])) (tT TT'))/\∀p TT',Tri m E S L lv snk TT'->Way m E L lv src p snk->Q (.fz (.list (p.map nI))) (tT TT')
theorem zk7:FnScope ["self", "levels", "tries", "source", "sink", "path", "here", "step"] ["self", "levels", "tries", "source", "sink"] (zh0 zd5):=by walk_at"sc"
theorem zhc(jB:Cls K jA)(T:TopMeth K jA "way_up" "Stream.way_up" zd5)(jH:NoAttr K jA "ends")(kK:MethD P w K mg base jA "step_up" 1 ["self", "levels", "steps", "level"] (spT K (zf4 jA))):MethD P w K mg base jA "way_up" 2 ["self", "levels", "tries", "source", "sink"] (spT K (zr8 jA)):=by
 refine zm8 jB T zk7 (by walk_at"h") (zwh λas Qd h=>by obtain⟨_,_,_,_,_,_,_,_,_,rfl,_⟩:=h;rfl) (zc9 ?_);walk_at"g";have nd:=zk7.nd;refine⟨_,(dSeq (dSet 5 (cF (dLst dNil)))
   (dSeq (dAsg (dVar 3) (gN 6))
   (dSeq (zgp (za2 (dOp fNe (zm0 6) (zm0 4))) (dSeq (dSet 7 (zf51 false jA "step_up" (zf4 jA) (pVar 0) (aB (pVar 1) (aO (pIx (pVar 2) (dVar 6)) (aD (dOp fAdd (nGet (pVar 1) (dVar 6)) (dC (.int 1))) aNil)))))
   (dIf (za2 (dOp zov (zm0 7) (dC .none))) (dSeq (zjh (cBM "list" mApp (pVar 5) (zk0 (dVar 7) dNil)))
   (dAsg (dOp fIx (dPV (pFld jA "ends" (pVar 0))) (zm0 7)) (gN 6))) (dIf (dTru (zm0 5)) (dSeq (dSet 6 (zr71 (dPE (pFld jA "ends" (pVar 0))) fXor (cBM0 "list" mPop (pVar 5)) (dC (.int 1))))
   (zjh (cBM0 "list" mPop (pIx (pVar 2) (dVar 6))))) (dFrz 5 [] (zhp 5))))))
   (dFrz 5 [] (zhp 5))))),(zd0 (pset 5 nd (zi2 zg0))
   (zd0 (pset 6 nd (pv 3))
   (zd0 (zma aR (zs0 (zpn (K:=K) rfl (Room.units hr)) (pv 6) (pv 4) (zz0 _)) (zd0 (pset 7 nd (zf7 kK (rmn hr) (pv 0) (za0 (pv 1) (za0 (pix w K hr (pv 2) (pv 6)) (za0 (zk1 (zl1 (K:=K) rfl) (pix w K hr (pv 1) (pv 6)) ze0) zg0)))))
   (zj0 (zn5 (zs0 zss (pv 7) zyg (zz0 _)) (zd0 (zf2 (zk8 (K:=K) rfl ğa ğb ğc zk2 (pv 5) (za0 (pv 7) zg0)))
   (zj0 (pset 6 nd (pix w K hr (zy1 (K:=K) rfl (pv 0) rfl) (pv 7))))) (zj0 (zn5 (zy5 (K:=K) rfl (pv 5) (λ_=>rfl)) (zd0 (pset 6 nd (pix w K hr (zy1 (K:=K) rfl (pv 0) rfl) (zk1 zj21 (ztl (K:=K) rfl ğa ğf ğg zny (pv 5)) ze0)))
   (zj0 (zf2 (ztl (K:=K) rfl ğa ğf ğg zny (pix w K hr (pv 2) (pv 6)))))) (zj0 (zh1 (pv 5)))))))))
   (zj0 (zh1 (pv 5)))))),(zn0 (zf3 (RfF.c (zb7 zo0)))
   (zn0 (zy0 (zi0 3) (rgn 6))
   (zn0 (zoa (zr0 (zv1 q_ne (RfV.h (zb0 6)) (RfV.h (zb0 4)))) (zn0 (zf3 (zpa false (zu0 0) (at_b (zu0 1) (at_o (ze51 (zu0 2) (zi0 6)) (at_d (zl0 zf8 (RfE.v (zxp (zu0 1) (zi0 6))) rvi) zw9)))))
   (zm5 (zr0 (zl0 zv41 (zb0 7) (RfE.v zog))) (zn0 (zh2 (zkh zhd (zu0 5) (zc0 (zi0 7) zo0)))
   (zy0 (zl0 r_ix (RfP.v (zk4 jB jH (zu0 0))) (zb0 7)) (rgn 6))) (zm5 (zda (zb0 5)) (zn0 (zf3 (zl01 (RfP.e (zk4 jB jH (zu0 0))) zs91 (zvw znx (zu0 5)) zd1))
   (zh2 (zvw znx (ze51 (zu0 2) (zi0 6))))) (zgb 5 [] (zza (i:=5)))))))
   (zgb 5 [] (zza (i:=5)))))),?_⟩
 rintro as Qd a ⟨n,m,E,L,S,lv,TT,src,snk,rfl,hm,N,hL,hsn,hss,l0,cl,tri,q0,q1⟩;walk_at"ds";walk_at"a";walk_at"b";walk_at"f";refine zpq ?_;refine⟨λμ U=>∃p here TT s7,Go m E S L lv snk src p here TT/\μ=szT TT * (2 * m+2)+(2 * m+1 - p.length)/\U=[.bo (oS jA E L S),.bo (.dk (kN lv)),.io a (tT TT),.sh (nI src),.sh (nI snk),.ow (.li (p.map nI)),.sh (nI here),s7],
  ⟨_,[],src,TT,.un,⟨tri,rfl,l0,λs hs=>by simp at hs⟩,rfl,rfl⟩,?_⟩
 rintro μ U ⟨p,here,TU,s7,g,rfl,rfl⟩;have hpl:=g.short g.way.lt;have hln:p.length=p.length:=rfl;walk_at"dd";refine two (λhne=>?_) λhne=>?_
 ·have hne:here≠snk:=λz=>hne (by rw[z]);obtain⟨k,hk⟩:∃k,TU[here]?=some k:=by
   have:here < n:=by
    cases p with
   |nil=>have e:src=here:=g.way;rw[<- e];exact hsn
   |cons x r =>
     obtain⟨y,hy⟩:∃y,(x :: r).getLast?=some y:=⟨_,uaU⟩
     obtain⟨r0,e⟩:=uaV.mp hy;have gw:=g.way;rw[e]at gw;obtain⟨_,w2,w3,_⟩:=gw.unsnoc;rw[<- w2];exact N.bE y w3
   exact⟨TU[here]'(by rw[g.tri.len,N.lS];exact this),u6 _⟩
  have hkl:=zjg hk;have gT:(TU.map λl=>_4.T.li (l.map nI))[here]?=some (_4.T.li (k.map nI)):=by rw[u8,hk];rfl
  walk_at"a";refine⟨here,.li (k.map nI),by rw[u5];exact zfk hkl,by rw[u8,hk];rfl,_,nI p.length,rfl,by rw[zvd,g.lev];rfl,?_⟩;walk_at"dd";refine⟨m,E,L,S,lv,k,p.length+1,rfl,N.lE,hL,λs hs=>?_,λj hj bad=>⟨λh0=>hJ _ ?_,λs h0 hs hp hlv=>hJ _ ?_⟩⟩
  ·obtain⟨k2,h1,h2⟩:=g.tri.pre here k hk;obtain⟨hsm,hst⟩:=N.s1 here k2 h1 s (h2.subset hs);exact⟨hsm,λhp=>cl s hsm hp (by rw[hst,g.lev];rfl)⟩
  ·subst h0;have eT:(TU.map λl=>_4.T.li (l.map nI)).set here (.li [])=(TU.set here []).map λl=>_4.T.li (l.map nI):=setT [];rw[gT];simp only[];rw[eT];walk_at"dd";refine two (λhp=>?_) λhp=>?_
   ·obtain⟨y,hy⟩:∃y,p.getLast?=some y:=by
     cases p with
    |nil=>cases hp
    |cons x r=>exact⟨_,uaU⟩
    obtain⟨p0,rfl⟩:=uaV.mp hy;obtain⟨hym,k2,hk2,g2,hsz⟩:=g.back N hk hne bad;walk_at"a";refine⟨nI y,by simp,?_⟩;walk_at"dd";rw[ze01];refine⟨_,zo51 N.lE (zc51 hym),hJ _ ?_⟩;clear hJ;rw[show(zH nI (p0++[y])).dropLast=p0.map nI by rw[v9];exact uaW,zu11];have hz2:=zjg hk2;have gT2:((TU.set here []).map λl=>_4.T.li (l.map nI))[tl E y]?=some (_4.T.li ((k2++[y]).map nI)):=by rw[u8,hk2];rfl
    walk_at"dd";refine⟨tl E y,_,by rw[u5];exact zfk hz2,gT2,?_⟩;walk_at"dd";refine⟨nI y,by simp,_,?_,p0,tl E y,_,.sh .none,g2,rfl,?_⟩
    ·have:=yE (2 * m+2) hsz;rw[yO]at this;rw[vR];simp only[zC];lia
    ·rw[gT2,show(zH nI (k2++[y])).dropLast=k2.map nI by rw[v9];exact uaW];simp only[];rw[setT]
   ·have hp:p=[]:=by
     cases p with
    |nil=>rfl
    |cons x r=>exact aJ rfl hp
    subst hp;exact⟨_,_,rfl,rfl,_,rfl,q0 _ (g.dead N hk hne bad)⟩
  ·rw[gT];simp only[];rw[setT];obtain⟨g2,hsz,hsm⟩:=g.fwd N hk h0 hj bad hs hp hlv;walk_at"dd";walk_at"a";refine⟨by rw[u5];lia,hJ _ ?_⟩;clear hJ;walk_at"dd";refine⟨_,zo51 N.lE hsm,?_⟩;walk_at"dd";refine⟨_,?_,p++[s],hd E s,TU.set here (k.take j),_,g2,rfl,by rw[v9];rfl⟩;rw[vR];have:=yE (2 * m+2) hsz;simp only[zC];lia
 ·have hne:here=snk:=by lia
  subst hne;exact⟨_,_,rfl,rfl,_,rfl,q1 p TU g.tri g.way⟩
def zr7(C:aE):DSpT:=λas Q=>∃(n m:Nat)(most:Nat->Int)(E:List Nat)(L:List Int)(S:List (List Nat))(lv:List (Nat×Nat))(src snk:Nat),as=[.o (oS C E L S),.b (.dk (kN lv)),.d (nI src),.d (nI snk)]/\n<=100000/\m<=400000/\Net n m E S/\Cap m most L/\src < n/\src≠snk/\Lev n m E L src lv/\(lkp lv snk).isSome=true /\
 ∀L',Up m most E L L' src snk->bal m E L snk < bal m E L' snk->Q (.fz .none) (oS C E L' S)
theorem zt6:FnScope ["self", "levels", "source", "sink", "tries", "path"] ["self", "levels", "source", "sink"] (zh0 zr2):=by walk_at"sc"
theorem zjb(jB:Cls K jA)(T:TopMeth K jA "push_up" "Stream.push_up" zr2)(jX:mg "list"=none)(jI:NoAttr K jA "steps")(kB:MethD P w K mg base jA "way_up" 2 ["self", "levels", "tries", "source", "sink"] (spT K (zr8 jA)))(qF:MethD P w K mg base jA "carry" 1 ["self", "path"] (spT K (zq9 jA))):MethD P w K mg base jA "push_up" 3 ["self", "levels", "source", "sink"] (spT K (zr7 jA)):=by
 refine zm8 jB T zt6 (by walk_at"h") (zwh λas Qd h=>by obtain⟨_,_,_,_,_,_,_,_,_,rfl,_⟩:=h;rfl) (zc9 ?_);walk_at"g";have nd:=zt6.nd;refine⟨_,_,(zd0 (zh3 (i:=4) (sc:=zh0 zr2) (N:=["self", "levels", "source", "sink", "tries", "path"]) (own:=["steps"]) (ix:=[]) rfl rfl rfl (by walk_at"csc") nd rfl rfl (pi_W (K:=K) rfl (zy1 (K:=K) rfl (pv 0) rfl)) (λ_ _ _ _=>⟨(pgn 0 (nds ["steps"])),zj3,(zk6 (zq5 (K:=K) rfl) rfl jX zva (za0 (pv 0) zg0))⟩))
   (zd0 (pset 5 nd (zf7 kB (rmn hr) (pv 0) (za0 (pv 1) (za0 (pv 4) (za0 (pv 2) (za0 (pv 3) zg0))))))
   (zj0 (zma aR (zy5 (K:=K) rfl (pv 5) (λ_=>rfl)) (zd0 (zf2 (zf7 qF (rmn hr) (pv 0) (za0 (pv 5) zg0)))
   (zj0 (pset 5 nd (zf7 kB (rmn hr) (pv 0) (za0 (pv 1) (za0 (pv 4) (za0 (pv 2) (za0 (pv 3) zg0)))))))))))),(zn0 (zf3 (RfN.c (zhu (zct (RfP.v (zk4 jB jI (zu0 0)))) (zn1 (i:=0) (n:=1) (by decide)) (RfF.new (zqz zzk (zx0 (zb0 0) zp1))))))
   (zn0 (zf3 (zpa false (zu0 0) (at_b (zu0 1) (at_o (zu0 4) (at_d (zi0 2) (at_d (zi0 3) zw9))))))
   (zoa (zda (zb0 5)) (zn0 (zh2 (zpa true (zu0 0) (at_d (zi0 5) zw9)))
   (zf3 (zpa false (zu0 0) (at_b (zu0 1) (at_o (zu0 4) (at_d (zi0 2) (at_d (zi0 3) zw9)))))))))),?_⟩
 rintro as Qd a ⟨n,m,most,E,L,S,lv,src,snk,rfl,hn,hm,N,c,hsn,hss,hv,ht,q⟩;walk_at"ds";walk_at"a";refine zn31 (λl=>.li (l.map nI)) (by rw[aW,N.lS];lia) (λl hl=>?_) (hJ _ ?_)
 ·walk_at"cs";walk_at"dd"
 clear hJ;obtain⟨b0,hb0⟩:=xM.mp ht;have rch:Rch m E L lv snk src:=zfh hv b0 snk hb0 .here;walk_at"a";refine⟨n,m,E,L,S,lv,S,src,snk,rfl,hm,N,c.len,hsn,hss,hv.l0,hv.cl,Tri.all,λTT' h=>aJ rch h,λp TT' tri hw=>hJ _ ?_⟩;clear hJ;refine⟨λμ U=>∃L' p TT,Up m most E L L' src snk/\(p≠[]->Tri m E S L' lv snk TT)/\(∀s,s < 2 * m->0 < lf L' s->(lkp lv (tl E s)).isSome=true->(lkp lv (hd E s)).isSome=true) /\
   bal m E L snk<=bal m E L' snk/\(p=[]->bal m E L snk < bal m E L' snk)/\(p≠[]->Way m E L' lv src p snk)/\μ=(tot m most - bal m E L' snk).toNat/\U=[.io a (oS jA E L' S),.bo (.dk (kN lv)),.sh (nI src),.sh (nI snk),.ow (tT TT),.sh (.list (p.map nI))],
  ⟨_,L,p,TT',Up.refl c,λ_=>tri,hv.cl,wR _,λz=>?_,λ_=>hw,rfl,rfl⟩,?_⟩
 ·subst z;exact aJ hw hss
 clear tri hw TT' p;rintro μ U ⟨L',p,TT,up,tri,cl,le,hlt,hw,rfl,rfl⟩;walk_at"dd";refine two (λhp=>?_) λhp=>?_
 ·have hp:p≠[]:=λz=>by rw[z]at hp;cases hp
  have hw:=hw hp;walk_at"a";have hpl:p.length<=2 * m:=zj1 _ p (hw.nodup hv.l0).1 hw.lt;refine⟨m,E,L',S,p,rfl,N.lE,up.cap.len,hp,by lia,hw.lt,λam ham hmin=>hJ _ ?_⟩;clear hJ;obtain⟨s0,hs0,e0⟩:=ham;have pos:0 < am:=by
   rw[e0];obtain⟨_,hadm⟩:True/\∀{v:Nat}{p:List Nat}{t:Nat},Way m E L' lv v p t->∀s∈p,0 < lf L' s:=⟨trivial,by
    intro v p
    induction p generalizing v with
   |nil=>intro t _ s hs;simp at hs
   |cons x r ih =>
     intro t h s hs;rcases vW.mp hs with z|z
     ·rw[z];exact h.2.2.1.1
     ·exact ih h.2.2.2 s z⟩
   exact hadm hw s0 hs0
  have up2:=up.trans (Up.carry up.cap hw hv.l0 (by lia) hmin);have hb:bal m E (zy3 L' p am) snk=bal m E L' snk+am:=by
   rw[zt9 up.cap.len hw,aF rfl,aA hss];lia
  have hle:=zs01 (E:=E) up2.cap snk;have cl2:=zgs up.cap.len hw hv.l0 cl (a:=am) (by lia);have tri2:Tri m E S (zy3 L' p am) lv snk TT:=(tri hp).mono (zjq up.cap.len hw hv.l0 (by lia)) λv k h s hs=>(N.s1 v k h s hs).1;generalize zy3 L' p am=_2 at *;walk_at"dd";refine⟨n,m,E,_2,S,lv,TT,src,snk,rfl,hm,N,up2.cap.len,hsn,hss,hv.l0,cl2,tri2,λTT' h=>?_,λp' TT' tri' hw'=>?_⟩
  ·exact⟨_,by lia,_2,[],TT',up2,λz=>aJ rfl z,cl2,by lia,λ_=>by lia,λz=>aJ rfl z,rfl,rfl⟩
  ·exact⟨_,by lia,_2,p',TT',up2,λ_=>tri',cl2,by lia,λ_=>by lia,λ_=>hw',rfl,rfl⟩
 ·have hp:p=[]:=by
   cases p with
  |nil=>rfl
  |cons x r=>exact aJ rfl hp
  exact⟨_,rfl,q L' up (hlt hp)⟩
def zz7(C:aE):DSpT:=λas Q=>∃(m:Nat)(E:List Nat)(L:List Int)(S:List (List Nat)),as=[.b (oS C E L S)]/\L.length=2 * m/\m<=400000/\∀t,Q (.fz (.list ((u4 m).map λk=>.int (lf L (2 * k+1))))) t
theorem zw6:FnScope ["self"] ["self"] (zh0 zv3):=by walk_at"sc"
theorem zhb(jB:Cls K jA)(T:TopMeth K jA "amounts" "Stream.amounts" zv3)(jC:NoAttr K jA "left"):MethD P w K mg base jA "amounts" 1 ["self"] (spT K (zz7 jA)):=by
 refine zm8 jB T zw6 (by walk_at"h") (zwh λas Qd h=>by obtain⟨_,_,_,_,rfl,_⟩:=h;rfl) (zc9 ?_);walk_at"g";have nd:=zw6.nd;refine⟨_,_,(zj0 (zh1 (zzq (K:=K) rfl (zy1 (K:=K) rfl (pv 0) rfl) (zm9 ze0) zqd (zm9 ze0)))),(zm1 (RfE.c (RfF.e (za71 (RfP.v (zk4 jB jC (zu0 0))) (zjc zd1) znd (zjc zd1))))),?_⟩;rintro as Qd a ⟨m,E,L,S,rfl,hL,hm,q⟩;walk_at"ds";walk_at"dd";rw[zby hL];exact q _
def zu6(C:aE):DSpT:=λas Q=>∃(n:Nat)(A:List Ar)(f:List Int),as=[.o (.ob C []),.d (nI n),.d (.list (A.map dAr)),.d (.list (f.map .int))]/\f.length=A.length/\n<=100000/\A.length<=400000/\(∀a∈A,a.1 < n/\a.2.1 < n) /\
 ∀S,Net n A.length (zc7 A) S->Q (.fz .none) (.ob C [("ends",.li ((zc7 A).map nI)),("left",.li ((zsa A f).map .int)),("steps",tT S)])
theorem zo5:FnScope ["self", "count", "arcs", "flow", "number", "arc"] ["self", "count", "arcs", "flow"] (zh0 zd2):=by walk_at"sc"
theorem zga(M:Md K mg)(cT:TopCls K "Stream" jA)(T:TopMeth K jA "__init__" "Stream.__init__" zd2)(jG:mg "enumerate"=none)(jE:mg "range"=none)(jH:NoAttr K jA "ends")(jC:NoAttr K jA "left")(jI:NoAttr K jA "steps"):zbq P w K mg base "Stream" jA 1 ["self", "count", "arcs", "flow"] (spT K (zu6 jA)):=by
 have jB:=cT.cls;refine zek M cT T zo5 (by walk_at"h") (zwh λas Qd h=>by obtain⟨_,_,_,rfl,_⟩:=h;rfl) (zc9 ?_);walk_at"g";have nd:=zo5.nd;refine⟨_,_,(zd0 (zaf (pv 0) (zi2 zg0) rfl)
   (zd0 (zaf (pv 0) (zi2 zg0) rfl)
   (zd0 (zaf (pv 0) (zu4 (sc:=zh0 zd2) (N:=["self", "count", "arcs", "flow", "number", "arc"]) (own:=["number"]) (ix:=[]) rfl rfl rfl (by walk_at"csc") (zt1 rfl jE (za0 (pv 1) zg0)) (λ_ _ _ _=>⟨(pgn 0 (nds ["number"])),zj3,(zi2 zg0)⟩)) rfl)
   (zj0 (zt3 aR rfl (zua (K:=K) rfl rfl jG (za0 (pv 2) zg0)) (zl8 (K:=K) (n:=2) rfl rfl (zs1 (pgn 4 nd) (zs1 (pgn 5 nd) zn8))) (zd0 (zf2 (zk8 (K:=K) rfl ğa ğd ğe (zw5 (K:=K) rfl) (zy1 (K:=K) rfl (pv 0) rfl) (za0 (zi2 (za0 (pix w K hr (pv 5) ze0) (za0 (pix w K hr (pv 5) ze0) zg0))) zg0)))
   (zd0 (zf2 (zk8 (K:=K) rfl ğa ğd ğe (zw5 (K:=K) rfl) (zy1 (K:=K) rfl (pv 0) rfl) (za0 (zi2 (za0 (zk1 zj9 (pix w K hr (pv 5) ze0) (pix w K hr (pv 3) (pv 4))) (za0 (pix w K hr (pv 3) (pv 4)) zg0))) zg0)))
   (zd0 (zf2 (zk8 (K:=K) rfl ğa ğb ğc zk2 (pix w K hr (zy1 (K:=K) rfl (pv 0) rfl) (pix w K hr (pv 5) ze0)) (za0 (zk1 zcc ze0 (pv 4)) zg0)))
   (zj0 (zf2 (zk8 (K:=K) rfl ğa ğb ğc zk2 (pix w K hr (zy1 (K:=K) rfl (pv 0) rfl) (pix w K hr (pv 5) ze0)) (za0 (zk1 (zl1 (K:=K) rfl) (zk1 zcc ze0 (pv 4)) ze0) zg0)))))))))))),(zn0 (zkf jB jH (RfF.c (zb7 zo0)) (zu0 0))
   (zn0 (zkf jB jC (RfF.c (zb7 zo0)) (zu0 0))
   (zn0 (zkf jB jI (RfN.c (zhu (RfI.j (za4 (zc0 (zi0 1) zo0))) (zn1 (i:=0) (n:=1) (by decide)) (RfF.new (zb7 zo0)))) (zu0 0))
   (zj4 (zdt (zc0 (zi0 2) zo0)) (zgd (zr1 (rgn 4) (zr1 (rgn 5) zq8))) (zn0 (zh2 (zkh zvk (zk4 jB jH (zu0 0)) (zc0 (RfF.e (zb7 (zc0 (zl0 r_ix (zb0 5) rvi) (zc0 (zl0 r_ix (zb0 5) rvi) zo0)))) zo0)))
   (zn0 (zh2 (zkh zvk (zk4 jB jC (zu0 0)) (zc0 (RfF.e (zb7 (zc0 (zl0 zij (RfE.v (zl0 r_ix (zb0 5) rvi)) (RfE.v (zl0 r_ix (zb0 3) (zb0 4)))) (zc0 (zl0 r_ix (zb0 3) (zb0 4)) zo0)))) zo0)))
   (zn0 (zh2 (zkh zhd (ze51 (zk4 jB jI (zu0 0)) (zl0 r_ix (zb0 5) rvi)) (zc0 (zl0 zl11 rvi (zb0 4)) zo0)))
   (zh2 (zkh zhd (ze51 (zk4 jB jI (zu0 0)) (zl0 r_ix (zb0 5) rvi)) (zc0 (zl0 zf8 (RfE.v (zl0 zl11 rvi (zb0 4))) rvi) zo0)))))))))),?_⟩
 rintro as Qd a ⟨n,A,f,rfl,hf,hn,hA,hb,q⟩;walk_at"ds";walk_at"dn";walk_at"dn";walk_at"a";refine⟨by lia,by lia,?_⟩;rw[vZ];refine zn31 (λ_=>.li []) (by rw[wE,aW];lia) (λi hi=>?_) (hJ _ ?_)
 ·walk_at"cs"
 clear hJ;have e0:(u4 n).map (λ_=>(_4.T.li []:_4.T))=(vV n []).map λl=>.li (l.map nI):=by simp[List.map_const']
 rw[e0];walk_at"dd";refine⟨λi U=>∃S s4 s5,i<=A.length/\szT S=2 * i/\Net n i (zc7 (A.take i)) S/\U=[.io a (.ob jA [("ends",.li ((zc7 (A.take i)).map nI)),("left",.li ((zsa (A.take i) (f.take i)).map .int)),("steps",tT S)]),.sh (nI n),.sh (.list (A.map dAr)),.sh (.list (f.map .int)),s4,s5],⟨vV n [],.un,.un,wX _,by simp[szT],Net.nil n,rfl⟩,?_,?_⟩
 ·rintro i d U hd ⟨S,s4,s5,hi,hsz,N,rfl⟩;obtain⟨x,hx,rfl⟩:=zyj hd;rw[u8]at hx;obtain⟨u,hu,rfl⟩:=wQ.mp hx;have hil:i < A.length:=by
   rcases wT i A.length with z|z
   ·exact z
   ·rw[wA z]at hu;cases hu
  obtain⟨y,hy⟩:∃y,f[i]?=some y:=⟨f[i]'(by lia),u6 _⟩
  obtain⟨b1,b2⟩:=hb u (wI hu);have tA:A.take (i+1)=A.take i++[u]:=by rw[xR,hu];rfl
  have tF:f.take (i+1)=f.take i++[y]:=by rw[xR,hy];rfl
  have lE:(zc7 (A.take i)).length=2 * i:=N.lE;have lL:(zsa (A.take i) (f.take i)).length=2 * i:=by
   rw[zhf (by rw[wS,wS];lia),wS];lia
  have eF:=zfp (A:=A.take i) (f:=f.take i) (a:=u) (x:=y) (by rw[wS,wS];lia);dsimp only;rw[tA,tF,zto,eF];generalize zc7 (A.take i)=E at lE N ⊢;generalize zsa (A.take i) (f.take i)=L at lL ⊢;rw[show dAr u=.tuple [nI u.1,nI u.2.1,.int u.2.2]from rfl];have hfi:atI (f.map vQ) (i:Int)=some (.int y):=zre (by lia) (by rw[vZ,u8,hy];rfl);have a0:atI [nI u.1,nI u.2.1,vQ u.2.2] 0=some (nI u.1):=rfl;have a1:atI [nI u.1,nI u.2.1,vQ u.2.2] 1=some (nI u.2.1):=rfl;have a2:atI [nI u.1,nI u.2.1,vQ u.2.2] 2=some (.int u.2.2):=rfl;walk_at"dd";walk_at"a";refine⟨nI u.2.1,rfl,nI u.1,rfl,by rw[u5];lia,hJ _ ?_⟩;clear hJ;rw[show E.map nI++[nI u.2.1,nI u.1]=(E++[u.2.1,u.1]).map nI by rw[v9];rfl];walk_at"a";refine⟨_,rfl,_,hfi,?_⟩;walk_at"dd";refine⟨_,hfi,by rw[u5];lia,hJ _ ?_⟩;clear hJ;rw[show L.map vQ++[.int (u.2.2 - y),.int y]=(L++[u.2.2 - y,y]).map .int by rw[v9];rfl];obtain⟨l1,hl1⟩:∃l1,S[u.1]?=some l1:=⟨S[u.1]'(by rw[N.lS];exact b1),u6 _⟩
  obtain⟨l2,hl2⟩:∃l2,(S.set u.1 (l1++[2 * i]))[u.2.1]?=some l2:=⟨(S.set u.1 (l1++[2 * i]))[u.2.1]'(by rw[wK,N.lS];exact b2),u6 _⟩
  have N2:=N.push b1 b2 hl1 hl2;have z1:=zc11 hl1;have z2:=zc11 hl2;have z3:=zac (l1++[2 * i]) hl1;have z4:=zac (l2++[2 * i+1]) hl2;rw[vR,zC]at z3 z4;have g1:(S.map λl=>_4.T.li (l.map nI))[u.1]?=some (_4.T.li (l1.map nI)):=by rw[u8,hl1];rfl
  have g2:((S.set u.1 (l1++[2 * i])).map λl=>_4.T.li (l.map nI))[u.2.1]?=some (_4.T.li (l2.map nI)):=by rw[u8,hl2];rfl
  have i1:ixN (S.map λl=>_4.T.li (l.map nI)).length ((u.1:Nat):Int)=some u.1:=by rw[u5];exact zfk (by rw[N.lS];exact b1)
  have i2:ixN ((S.set u.1 (l1++[2 * i])).map λl=>_4.T.li (l.map nI)).length ((u.2.1:Nat):Int)=some u.2.1:=by rw[u5,wK];exact zfk (by rw[N.lS];exact b2)
  walk_at"a";refine⟨nI u.1,rfl,u.1,_,i1,g1,rfl,zt31 i,?_⟩;walk_at"dd";refine⟨by rw[u5];lia,hJ _ ?_⟩;clear hJ;rw[g1];dsimp only;rw[show l1.map nI++[vQ (2 * (i:Int))]=(l1++[2 * i]).map nI by rw[v9];rfl,setT];walk_at"dd";refine⟨nI u.2.1,rfl,u.2.1,_,i2,g2,rfl,zt31 i,?_⟩;walk_at"dd";refine⟨by rw[u5];lia,_,.sh (nI i),.sh (.tuple [nI u.1,nI u.2.1,.int u.2.2]),by lia,by lia,N2,?_⟩;rw[g2];dsimp only;rw[show l2.map nI++[vQ (2 * (i:Int)+1)]=(l2++[2 * i+1]).map nI by rw[v9];rfl,setT];rfl
 ·rintro U ⟨S,s4,s5,hi,hsz,N,rfl⟩;rw[zte,u5,xH]at N;rw[zte,u5,xH,xY (by lia)];exact⟨_,rfl,q S N⟩
theorem frzT(S:List (List Nat)):(zey (S.map λl=>_4.T.li (l.map nI))).map (λdss=>yX (dss.map .list))=some (dSt S):=by
 have:∀S:List (List Nat),zey (S.map λl=>_4.T.li (l.map nI))=some (S.map λl=>l.map nI):=by
  intro S
  induction S with
 |nil=>rfl
 |cons l r ih=>simp only[v4,zey,ih];rfl
 rw[this];simp only[Option.map_some,wD];rfl
def zs5:DSp:=λds Q=>∃(n:Nat)(A:List Ar)(src snk:Nat)(fl:D)(f:List Int),ds=[nI n,.list (A.map dAr),nI src,nI snk,fl]/\((fl=.none/\f=vV A.length 0) \/ fl=.list (f.map .int))/\f.length=A.length/\n < 64/\A.length<=400000/\(∀a∈A,a.1 < n/\a.2.1 < n) /\
 (∀(k:Nat) a x,A[k]?=some a->f[k]?=some x->0<=x/\x<=a.2.2)/\src < n/\snk < n/\src≠snk /\
 ∀(L:List Int)(side:List Nat),Best n A f src snk L side->Q (.tuple [.list ((u4 A.length).map λk=>.int (lf L (2 * k+1))),.list (side.map nI)])
theorem zce:FnScope ["count", "arcs", "source", "sink", "flow", "stream", "levels"] ["count", "arcs", "source", "sink", "flow"] (zh0 zpc):=by walk_at"sc"
theorem zdl(M:Md K mg)(T:TopDefN K "greatest" zpc)(jJ:mg "len"=none)(qV:mg "sorted"=none)(jB:Cls K jA)(kC:MethD P w K mg base jA "levels" 2 ["self", "source"] (spT K (zt8 jA)))(kL:MethD P w K mg base jA "push_up" 3 ["self", "levels", "source", "sink"] (spT K (zr7 jA)))(kM:MethD P w K mg base jA "amounts" 1 ["self"] (spT K (zz7 jA)))(uV:zbq P w K mg base "Stream" jA 1 ["self", "count", "arcs", "flow"] (spT K (zu6 jA))):DefN P w K mg base "greatest" 4 ["count", "arcs", "source", "sink", "flow"] (spD K zs5):=by
 refine zq31 M T zce (qs:=["count", "arcs", "source", "sink"]) rfl (λ_ _ _ _ _ _ _ us hl=>match us,hl with|[_,_,_,_,_],_=>⟨_,rfl,rfl⟩) (λ_ _ _ _ _ _ _ us hl=>match us,hl with|[_,_,_,_],_=>⟨_,rfl,rfl⟩) (zwa (by walk_at"i")) (zg3 ?_);walk_at"g";have nd:=zce.nd;refine⟨_,_,(zd0 (pset 5 nd (zye uV (rmn hr) rfl (za0 (pv 0) (za0 (pv 1) (za0 (zgi (zs0 za31 (pv 4) zyg (zz0 _)) (zk1 zcc (zi2 (za0 ze0 zg0)) (zv0 (zi1 (K:=K) rfl) rfl jJ ze5 (za0 (pv 1) zg0))) (pv 4)) zg0)))))
   (zd0 (pset 6 nd (zf7 kC (rmn hr) (pv 5) (za0 (pv 2) zg0)))
   (zd0 (zma aR (zs0 (zs81 (w:=w) (K:=K) (Room.units hr) rfl rfl) (pv 3) (pv 6) (by with_unfolding_all rfl)) (zd0 (zf2 (zf7 kL (rmn hr) (pv 5) (za0 (pv 6) (za0 (pv 2) (za0 (pv 3) zg0)))))
   (zj0 (pset 6 nd (zf7 kC (rmn hr) (pv 5) (za0 (pv 2) zg0))))))
   (zj0 (zh1 (zo1 (za0 (zxq kM (rmn hr) (pv 5)) (za0 (zv0 (zej (K:=K) rfl rfl) rfl qV ztr (za0 (pv 6) zg0)) zg0)))))))),(zn0 (zf3 (RfN.c (zdk (at_d (zi0 0) (at_d (zi0 1) (at_d (zhx (zr0 (zl0 zlb1 (zb0 4) (RfE.v zog))) (RfF.e (zi41 (zb7 (zc0 zd1 zo0)) (zu8 zid (zx0 (zb0 1) zp1)))) (zi0 4)) zw9))))))
   (zn0 (zgb 5 [.fl "steps"] (zgb 5 [.fl "ends"] (zf3 (zpa false (zu0 5) (at_d (zi0 2) zw9)))))
   (zn0 (zoa (zr0 (zr51 (zi0 3) (zu0 6))) (zn0 (zh2 (zpa true (zu0 5) (at_b (zu0 6) (at_d (zi0 2) (at_d (zi0 3) zw9)))))
   (zf3 (zpa false (zu0 5) (at_d (zi0 2) zw9)))))
   (zm1 (RfE.c (zs2 (zc0 (RfN.ex (zb21 (zu0 5) zw9)) (zc0 (RfF.e (ziv (zu0 6))) zo0)))))))),?_⟩
 rintro ds Qd ⟨n,A,src,snk,fl,f,rfl,hfl,hf,hn,hA,hb,hc,hs1,hs2,hss,q⟩;walk_at"ds";refine zf0 λJ hJ=>?_;have start:∀S,Net n A.length (zc7 A) S->J [.sh (nI n),.sh (.list (A.map dAr)),.sh (nI src),.sh (nI snk),.sh fl,.ow (.ob jA [("ends",.li ((zc7 A).map nI)),("left",.li ((zsa A f).map .int)),("steps",tT S)]),.un]:=λS N=>by
  walk_at"f";have cap:=zms hf hc;walk_at"a";refine⟨_,dSt S,rfl,frzT S,_,_,rfl,rfl,?_⟩;refine⟨n,A.length,zc7 A,zsa A f,S,src,rfl,by lia,N,cap.len,hs1,λlv hv t=>hJ _ ?_⟩;clear hJ;refine zpq ?_;refine⟨λμ U=>∃L lv,Up A.length (zn9 A) (zc7 A) (zsa A f) L src snk/\Lev n A.length (zc7 A) L src lv/\μ=(tot A.length (zn9 A) - bal A.length (zc7 A) L snk).toNat/\U=[.sh (nI n),.sh (.list (A.map dAr)),.sh (nI src),.sh (nI snk),.sh fl,.ow (oS jA (zc7 A) L S),.ow (.dk (kN lv))],
   ⟨_,zsa A f,lv,Up.refl cap,hv,rfl,rfl⟩,?_⟩
  clear hv lv;rintro μ U ⟨L,lv,up,hv,rfl,rfl⟩;walk_at"dd";rw[zE];refine two (λht=>?_) λht=>?_
  ·walk_at"a";refine⟨n,A.length,zn9 A,zc7 A,L,S,lv,src,snk,rfl,by lia,by lia,N,up.cap,hs1,hss,hv,ht,λL' up' hlt=>hJ _ ?_⟩;clear hJ;walk_at"dd";have up2:=up.trans up';have hle:=zs01 (E:=zc7 A) up2.cap snk;refine⟨n,A.length,zc7 A,L',S,src,rfl,by lia,N,up2.cap.len,hs1,λlv' hv' t=>⟨_,by lia,L',lv',up2,hv',rfl,rfl⟩⟩
  ·refine⟨A.length,zc7 A,L,S,rfl,up.cap.len,hA,λt=>?_⟩;have hz:=zj1 n (lv.map (·.1)) hv.nd (λx hx=>by obtain⟨p,hp,rfl⟩:=vU.mp hx;exact hv.bd p hp);rw[u5]at hz;refine⟨lv.map λp=>((p.1:Nat):Int),?_,by rw[u5];lia,λns' hp hs=>?_⟩
   ·unfold kN;rw[wD,wD];rfl
   ·obtain⟨side,e,b⟩:=ze31 up hv (by simpa using ht) hp hs;rw[e];exact q L side b
 clear hJ;rcases hfl with⟨rfl,rfl⟩|rfl
 ·walk_at"dd";refine⟨by rw[u5];lia,by rw[u5];lia,by rw[u5];lia,n,A,vV A.length 0,by rw[u5,vZ,show(vV A.length [vQ 0]).flatten=(vV A.length 0).map .int by rw[uaX,uaY]];rfl,hf,by lia,hA,hb,λS N=>⟨trivial,start S N⟩⟩
 ·walk_at"dd";exact⟨n,A,f,rfl,hf,by lia,hA,hb,λS N=>⟨trivial,start S N⟩⟩
end
inductive Gt where
|st (x:Int)|la (x:Int) (f:Nat)|ti (x y:Int) (t:Nat)
def Gt.d:Gt->D
|.st x=>.tuple [.str "steady",.int x]
|.la x f=>.tuple [.str "late",.int x,.int (f:Int)]
|.ti x y t=>.tuple [.str "tidal",.int x,.int y,.int (t:Int)]
def Gt.at:Gt->Nat->Int
|.st x,_=>x
|.la x f,m=>if f<=m then x else 0
|.ti x y t,m=>if m % t=0 then x else y
def Gt.ob(C1 C2 C3:aE):Gt->_4.T
|.st x=>.ob C1 [("wide",.fz (.int x))]
|.la x f=>.ob C2 [("wide",.fz (.int x)),("since",.fz (.int (f:Int)))]
|.ti x y t=>.ob C3 [("wide",.fz (.int x)),("other",.fz (.int y)),("turn",.fz (.int (t:Int)))]
def Gt.ok:Gt->Prop
|.ti _ _ t=>0 < t/\t < 1000
|_=>True
section
variable {P:aN}{w:aQ}{K:Fg}{mg:Str->Option aC}{base:aT}{jF jK jD:aE}
def zn3(C:aE):DSpT:=λas Q=>∃x:Int,as=[.o (.ob C []),.d (.int x)]/\Q (.fz .none) (.ob C [("wide",.fz (.int x))])
def zc5(C:aE):DSpT:=λas Q=>∃x y:Int,as=[.o (.ob C []),.d (.int x),.d (.int y)]/\Q (.fz .none) (.ob C [("wide",.fz (.int x)),("since",.fz (.int y))])
def zx3(C:aE):DSpT:=λas Q=>∃x y z:Int,as=[.o (.ob C []),.d (.int x),.d (.int y),.d (.int z)]/\Q (.fz .none) (.ob C [("wide",.fz (.int x)),("other",.fz (.int y)),("turn",.fz (.int z))])
def zc2(C:aE):DSpT:=λas Q=>∃(x:Int)(m:Nat),as=[.b (.ob C [("wide",.fz (.int x))]),.d (.int (m:Int))]/\Q (.fz (.int (Gt.at (.st x) m))) (.fz .none)
def zc3(C:aE):DSpT:=λas Q=>∃(x:Int)(f m:Nat),as=[.b (.ob C [("wide",.fz (.int x)),("since",.fz (.int (f:Int)))]),.d (.int (m:Int))]/\Q (.fz (.int (Gt.at (.la x f) m))) (.fz .none)
def zp2(C:aE):DSpT:=λas Q=>∃(x y:Int)(t m:Nat),as=[.b (.ob C [("wide",.fz (.int x)),("other",.fz (.int y)),("turn",.fz (.int (t:Int)))]),.d (.int (m:Int))]/\0 < t/\t < 1000/\Q (.fz (.int (Gt.at (.ti x y t) m))) (.fz .none)
def zdf(C1 C2 C3:aE):DSpT:=λas Q=>∃g:Gt,as=[.d g.d]/\Q (g.ob C1 C2 C3) (.fz .none)
def zbn:DSp:=λds Q=>∃(g:Gt)(m:Nat),ds=[g.d,.int (m:Int)]/\g.ok/\Q (.int (g.at m))
theorem zv5:FnScope ["self", "wide"] ["self", "wide"] (zh0 zm3):=by walk_at"sc"
theorem zea(M:Md K mg)(cT:TopCls K "Steady" jF)(T:TopMeth K jF "__init__" "Steady.__init__" zm3)(jO:NoAttr K jF "wide"):zbq P w K mg base "Steady" jF 1 ["self", "wide"] (spT K (zn3 jF)):=by
 have jY:=cT.cls;refine zek M cT T zv5 (by walk_at"h") (zwh λas Qd h=>by obtain⟨_,rfl,_⟩:=h;rfl) (zc9 ?_);walk_at"g";have nd:=zv5.nd;refine⟨_,(dFld jF "wide" (cE (dVar 1)) (pVar 0)),(zj0 (zaf (pv 0) (pv 1) rfl)),(zkf jY jO (RfE.c (zi0 1)) (zu0 0)),?_⟩;rintro as Qd a ⟨x,rfl,q⟩;walk_at"ds";walk_at"dd";exact⟨_,rfl,q⟩
theorem zj7:FnScope ["self", "wide", "since"] ["self", "wide", "since"] (zh0 zw4):=by walk_at"sc"
theorem zsc(M:Md K mg)(cT:TopCls K "Late" jK)(T:TopMeth K jK "__init__" "Late.__init__" zw4)(jV:NoAttr K jK "wide")(jR:NoAttr K jK "since"):zbq P w K mg base "Late" jK 1 ["self", "wide", "since"] (spT K (zc5 jK)):=by
 have kO:=cT.cls;refine zek M cT T zj7 (by walk_at"h") (zwh λas Qd h=>by obtain⟨_,_,rfl,_⟩:=h;rfl) (zc9 ?_);walk_at"g";have nd:=zj7.nd;refine⟨_,(dSeq (dFld jK "wide" (cE (dVar 1)) (pVar 0))
   (dFld jK "since" (cE (dVar 2)) (pVar 0))),(zd0 (zaf (pv 0) (pv 1) rfl)
   (zj0 (zaf (pv 0) (pv 2) rfl))),(zn0 (zkf kO jV (RfE.c (zi0 1)) (zu0 0))
   (zkf kO jR (RfE.c (zi0 2)) (zu0 0))),?_⟩
 rintro as Qd a ⟨x,y,rfl,q⟩;walk_at"ds";walk_at"dn";walk_at"dd";exact⟨_,rfl,q⟩
theorem zv6:FnScope ["self", "wide", "other", "turn"] ["self", "wide", "other", "turn"] (zh0 zz3):=by walk_at"sc"
theorem zib(M:Md K mg)(cT:TopCls K "Tidal" jD)(T:TopMeth K jD "__init__" "Tidal.__init__" zz3)(jS:NoAttr K jD "wide")(jP:NoAttr K jD "other")(jT:NoAttr K jD "turn"):zbq P w K mg base "Tidal" jD 1 ["self", "wide", "other", "turn"] (spT K (zx3 jD)):=by
 have jW:=cT.cls;refine zek M cT T zv6 (by walk_at"h") (zwh λas Qd h=>by obtain⟨_,_,_,rfl,_⟩:=h;rfl) (zc9 ?_);walk_at"g";have nd:=zv6.nd;refine⟨_,(dSeq (dFld jD "wide" (cE (dVar 1)) (pVar 0))
   (dSeq (dFld jD "other" (cE (dVar 2)) (pVar 0))
   (dFld jD "turn" (cE (dVar 3)) (pVar 0)))),(zd0 (zaf (pv 0) (pv 1) rfl)
   (zd0 (zaf (pv 0) (pv 2) rfl)
   (zj0 (zaf (pv 0) (pv 3) rfl)))),(zn0 (zkf jW jS (RfE.c (zi0 1)) (zu0 0))
   (zn0 (zkf jW jP (RfE.c (zi0 2)) (zu0 0))
   (zkf jW jT (RfE.c (zi0 3)) (zu0 0)))),?_⟩
 rintro as Qd a ⟨x,y,z,rfl,q⟩;walk_at"ds";walk_at"dn";walk_at"dn";walk_at"dd";exact⟨_,rfl,q⟩
theorem zx5:FnScope ["self", "moment"] ["self", "moment"] (zh0 zl3):=by walk_at"sc"
theorem zia(jY:Cls K jF)(T:TopMeth K jF "width_at" "Steady.width_at" zl3)(jO:NoAttr K jF "wide"):MethD P w K mg base jF "width_at" 1 ["self", "moment"] (spT K (zc2 jF)):=by
 refine zm8 jY T zx5 (by walk_at"h") (zwh λas Qd h=>by obtain⟨_,_,rfl,_⟩:=h;rfl) (zc9 ?_);walk_at"g";have nd:=zx5.nd;refine⟨_,(dRet (cE (dPE (pFld jF "wide" (pVar 0))))),(zj0 (zh1 (zy1 (K:=K) rfl (pv 0) rfl))),(zm1 (RfE.c (RfP.e (zk4 jY jO (zu0 0))))),?_⟩;rintro as Qd a ⟨x,m,rfl,q⟩;walk_at"ds";walk_at"dd";exact q
theorem zs7:FnScope ["self", "moment"] ["self", "moment"] (zh0 zk5):=by walk_at"sc"
theorem zyc(kO:Cls K jK)(T:TopMeth K jK "width_at" "Late.width_at" zk5)(jV:NoAttr K jK "wide")(jR:NoAttr K jK "since"):MethD P w K mg base jK "width_at" 1 ["self", "moment"] (spT K (zc3 jK)):=by
 refine zm8 kO T zs7 (by walk_at"h") (zwh λas Qd h=>by obtain⟨_,_,_,rfl,_⟩:=h;rfl) (zc9 ?_);walk_at"g";have nd:=zs7.nd;refine⟨_,(dRet (cE (dIfE (za2 (dOp fGe (zm0 1) (dPV (pFld jK "since" (pVar 0))))) (dPE (pFld jK "wide" (pVar 0))) (dC (.int 0))))),(zj0 (zh1 (zgi (zs0 zz41 (pv 1) (zy1 (K:=K) rfl (pv 0) rfl) (zz0 _)) (zy1 (K:=K) rfl (pv 0) rfl) ze0))),(zm1 (RfE.c (zhx (zr0 (zl0 r_ge (zb0 1) (RfP.v (zk4 kO jR (zu0 0))))) (RfP.e (zk4 kO jV (zu0 0))) zd1))),?_⟩;rintro as Qd a ⟨x,f,m,rfl,q⟩;walk_at"ds";walk_at"dd";have q:Qd (.fz (.int (if f<=m then x else 0))) (.fz .none):=q;refine two (λh=>?_) λh=>?_
 ·rw[aF (by lia)]at q;exact q
 ·rw[aA (by lia)]at q;exact q
theorem zy6:FnScope ["self", "moment"] ["self", "moment"] (zh0 zu3):=by walk_at"sc"
theorem zkb(jW:Cls K jD)(T:TopMeth K jD "width_at" "Tidal.width_at" zu3)(jS:NoAttr K jD "wide")(jP:NoAttr K jD "other")(jT:NoAttr K jD "turn"):MethD P w K mg base jD "width_at" 1 ["self", "moment"] (spT K (zp2 jD)):=by
 refine zm8 jW T zy6 (by walk_at"h") (zwh λas Qd h=>by obtain⟨_,_,_,_,rfl,_⟩:=h;rfl) (zc9 ?_);walk_at"g";have nd:=zy6.nd;refine⟨_,(dRet (cE (dIfE (za2 (dOp fEq (dOp fMod (zm0 1) (dPV (pFld jD "turn" (pVar 0)))) (dC (.int 0)))) (dPE (pFld jD "wide" (pVar 0))) (dPE (pFld jD "other" (pVar 0)))))),(zj0 (zh1 (zgi (zs0 (zz2 (K:=K) rfl (Room.units hr)) (zk1 zm2 (pv 1) (zy1 (K:=K) rfl (pv 0) rfl)) ze0 (zz0 _)) (zy1 (K:=K) rfl (pv 0) rfl) (zy1 (K:=K) rfl (pv 0) rfl)))),(zm1 (RfE.c (zhx (zr0 (zv1 q_eq (RfV.h (RfE.v (zl0 zy9 (zb0 1) (RfP.v (zk4 jW jT (zu0 0)))))) (RfV.h rvi))) (RfP.e (zk4 jW jS (zu0 0))) (RfP.e (zk4 jW jP (zu0 0)))))),?_⟩;rintro as Qd a ⟨x,y,t,m,rfl,h0,h1,q⟩;walk_at"ds";walk_at"dd";have q:Qd (.fz (.int (if m % t=0 then x else y))) (.fz .none):=q;have e:((m:Int) % (t:Int)=0) ↔ m % t=0:=by rw[<- Int.natCast_emod];lia
 refine⟨by lia,two (λh=>?_) λh=>?_⟩
 ·rw[aF (e.mp h)]at q;exact q
 ·rw[aA (λz=>h (e.mpr z))]at q;exact q
theorem zig:FnScope ["gate"] ["gate"] (zh0 zle):=by walk_at"sc"
theorem zqm(M:Md K mg)(T:TopDef K "gate_of" zle)(vB:zbq P w K mg base "Tidal" jD 1 ["self", "wide", "other", "turn"] (spT K (zx3 jD)))(uW:zbq P w K mg base "Steady" jF 1 ["self", "wide"] (spT K (zn3 jF)))(vJ:zbq P w K mg base "Late" jK 1 ["self", "wide", "since"] (spT K (zc5 jK))):Def P w K mg base "gate_of" 3 ["gate"] (spT K (zdf jF jK jD)):=by
 refine zi3 M T zig (by walk_at"h") (zwh λas Qd h=>by obtain⟨_,rfl,_⟩:=h;rfl) (zc9 ?_);walk_at"g";have nd:=zig.nd;refine⟨_,(dSeq (dIf (za2 (dOp fEq (dOp fIx (zm0 0) (dC (.int 0))) (dC (.str "steady")))) (dRet (cN (zm21 jF (zn3 jF) (aD (dOp fIx (zm0 0) (dC (.int 1))) aNil)))) zz5)
   (dSeq (dIf (za2 (dOp fEq (dOp fIx (zm0 0) (dC (.int 0))) (dC (.str "late")))) (dRet (cN (zm21 jK (zc5 jK) (aD (dOp fIx (zm0 0) (dC (.int 1))) (aD (dOp fIx (zm0 0) (dC (.int 2))) aNil))))) zz5)
   (dRet (cN (zm21 jD (zx3 jD) (aD (dOp fIx (zm0 0) (dC (.int 1))) (aD (dOp fIx (zm0 0) (dC (.int 2))) (aD (dOp fIx (zm0 0) (dC (.int 3))) aNil)))))))),(zd0 (zn5 (zs0 (zz2 (K:=K) rfl (Room.units hr)) (pix w K hr (pv 0) ze0) zz6 (zz0 _)) (zj0 (zh1 (zye uW (rmn hr) rfl (za0 (pix w K hr (pv 0) ze0) zg0)))) zg1)
   (zd0 (zn5 (zs0 (zz2 (K:=K) rfl (Room.units hr)) (pix w K hr (pv 0) ze0) zz6 (zz0 _)) (zj0 (zh1 (zye vJ (rmn hr) rfl (za0 (pix w K hr (pv 0) ze0) (za0 (pix w K hr (pv 0) ze0) zg0))))) zg1)
   (zj0 (zh1 (zye vB (rmn hr) rfl (za0 (pix w K hr (pv 0) ze0) (za0 (pix w K hr (pv 0) ze0) (za0 (pix w K hr (pv 0) ze0) zg0)))))))),(zn0 (zm5 (zr0 (zv1 q_eq (RfV.h (RfE.v (zl0 r_ix (zb0 0) rvi))) (RfV.h (RfE.v za7)))) (zm1 (RfN.c (zdk (at_d (zl0 r_ix (zb0 0) rvi) zw9)))) zf1)
   (zn0 (zm5 (zr0 (zv1 q_eq (RfV.h (RfE.v (zl0 r_ix (zb0 0) rvi))) (RfV.h (RfE.v za7)))) (zm1 (RfN.c (zdk (at_d (zl0 r_ix (zb0 0) rvi) (at_d (zl0 r_ix (zb0 0) rvi) zw9))))) zf1)
   (zm1 (RfN.c (zdk (at_d (zl0 r_ix (zb0 0) rvi) (at_d (zl0 r_ix (zb0 0) rvi) (at_d (zl0 r_ix (zb0 0) rvi) zw9)))))))),?_⟩
 rintro as Qd a ⟨g,rfl,q⟩;cases g with
|st x =>
  unfold Gt.d;walk_at"ds";walk_at"a";walk_at"k";exact⟨_,rfl,x,rfl,trivial,q⟩
|la x f =>
  unfold Gt.d;walk_at"ds";walk_at"a";walk_at"k";rw[aA (by decide +kernel)];walk_at"b";walk_at"k";exact⟨_,rfl,_,rfl,x,f,rfl,trivial,q⟩
|ti x y t =>
  unfold Gt.d;walk_at"ds";walk_at"a";walk_at"k";rw[aA (by decide +kernel)];walk_at"b";walk_at"k";rw[aA (by decide +kernel)];walk_at"f";walk_at"dd";exact⟨_,rfl,_,rfl,_,rfl,x,y,t,rfl,trivial,q⟩
theorem zmp:FnScope ["gate", "moment"] ["gate", "moment"] (zh0 zkp):=by walk_at"sc"
theorem zqw(M:Md K mg)(T:TopDef K "width" zkp)(uK:Def P w K mg base "gate_of" 3 ["gate"] (spT K (zdf jF jK jD)))(kO:Cls K jK)(jY:Cls K jF)(jW:Cls K jD)(kF:MethD P w K mg base jF "width_at" 1 ["self", "moment"] (spT K (zc2 jF)))(kY:MethD P w K mg base jK "width_at" 1 ["self", "moment"] (spT K (zc3 jK)))(kQ:MethD P w K mg base jD "width_at" 1 ["self", "moment"] (spT K (zp2 jD))):Def P w K mg base "width" 4 ["gate", "moment"] (spD K zbn):=by
 refine zi3 M T zmp (by walk_at"h") (zwa (by walk_at"i")) (zg3 ?_);walk_at"g";have nd:=zmp.nd;refine⟨_,(dRet (cE (eN (ztv "width_at" [(jF,(zc2 jF)),(jK,(zc3 jK)),(jD,(zp2 jD))] (zf61 (zdf jF jK jD) (aD (dVar 0) aNil)) (zk0 (dVar 1) dNil))))),(zj0 (zh1 (zuy (P:=P) (w:=w) (K:=K) (mg:=mg) (base:=base) (k:=1) rfl rfl rfl rfl rfl (rmn hr) (zq0 uK (rmn hr) rfl (za0 (pv 0) zg0)) (za0 (pv 1) zg0)))),(zm1 (RfE.c (RfN.ex (zuv (tab:=[(jF,(zc2 jF)),(jK,(zc3 jK)),(jD,(zp2 jD))]) (tab3 ⟨_,kF⟩ ⟨_,kY⟩ ⟨_,kQ⟩) (zk01 (at_d (zi0 0) zw9)) (zc0 (zi0 1) zo0))))),?_⟩;rintro ds Qd ⟨g,m,rfl,ok,q⟩;walk_at"ds";walk_at"dd";refine⟨g,rfl,?_⟩;cases g with
|st x =>
  unfold Gt.ob;walk_at"dd";exact⟨_,wP,x,m,rfl,q⟩
|la x f =>
  unfold Gt.ob;walk_at"dd";exact⟨_,wB _ wP,x,f,m,rfl,q⟩
|ti x y t =>
  unfold Gt.ob;walk_at"dd";exact⟨_,wB _ (wB _ wP),x,y,t,m,rfl,ok.1,ok.2,q⟩
end
structure Pi where
 u:Nat
 v:Nat
 len:Nat
 pr:Int
 g:Gt
def Pi.d(p:Pi):D:=.tuple [.int (p.u:Int),.int (p.v:Int),.int (p.len:Int),.int p.pr,p.g.d]
theorem ztg{k:Nat}(h:k < n):ixN n ((k:Nat):Int)=some k:=by
 unfold ixN;rw[aF (by lia),aF (by lia)];simp
structure Va where
 nm:Str
 room:Int
 fill:Int
def Va.d(v:Va):D:=.tuple [.str v.nm,.int v.room,.int v.fill]
structure Le where
 t:Nat
 at_:Nat
 am:Int
def Le.d(l:Le):D:=.tuple [.int (l.t:Int),.int (l.at_:Int),.int l.am]
def pl(ps:List Pi)(i:Nat):Nat:=((ps[i]?).map Pi.len).getD 0
def zb1(ps:List Pi)(i:Nat):Nat:=((ps[i]?).map Pi.u).getD 0
def zt2(ps:List Pi)(i:Nat):Nat:=(ps[i]?).map Pi.v |>.getD 0
def zj8(ps:List Pi)(i t:Nat):Int:=((ps[i]?).map λp=>p.g.at t).getD 0
def Gt.okk(g:Gt):Prop:=g.ok/\∀m,0<=g.at m
def PiOk(n:Nat)(p:Pi):Prop:=p.u < n/\p.v < n/\1<=p.len/\g_le p.len/\p.g.okk
where g_le (l:Nat):Prop:=l<=20
def dY(vs:List Va)(ps:List Pi):D:=.tuple [.list (vs.map Va.d),.list (ps.map Pi.d)]
theorem zvi{α:Type}(l:List α)(t:Nat):cutG l (some (t:Int)) none=l.drop t:=by
 unfold cutG;rw[HT.sIx_nat,HT.sIx_none,xY (by rw[xV];lia)];by_cases h:t<=l.length
 ·rw[zP h]
 ·rw[j5 (by lia),uaZ (u7 _),uaZ (by lia)]
theorem zbr{α:Type}(l:List α)(t:Nat):cutG l none (some (t:Int))=l.take t:=by
 unfold cutG;rw[HT.sIx_nat,HT.sIx_none,List.drop_zero,Nat.sub_zero];by_cases h:t<=l.length
 ·rw[zP h]
 ·rw[j5 (by lia),xY (u7 _),xY (by lia)]
def zq6:DSp:=λds Q=>∃(vs:List Va)(r:D)(m v:Nat),ds=[.tuple [.list (vs.map Va.d),r],nI m,nI v]/\m<=100/\vs.length<=100/\Q (nI (2+m * vs.length+v))
def zyu:DSp:=λds Q=>∃(vs:List Va)(r:D)(n:Nat),ds=[.tuple [.list (vs.map Va.d),r],nI n]/\1<=vs.length/\vs.length<=100/\Q (.tuple [.int (((n:Int) - 2) / (vs.length:Int)),.int (((n:Int) - 2) % (vs.length:Int))])
section
variable {P:aN}{w:aQ}{K:Fg}{mg:Str->Option aC}{base:aT}
theorem zrt:FnScope ["yard", "moment", "vat"] ["yard", "moment", "vat"] (zh0 zwv):=by walk_at"sc"
theorem zq21(M:Md K mg)(T:TopDef K "node" zwv)(jJ:mg "len"=none):Def P w K mg base "node" 1 ["yard", "moment", "vat"] (spD K zq6):=by
 refine zi3 M T zrt (by walk_at"h") (zwa (by walk_at"i")) (zg3 ?_);walk_at"g";have nd:=zrt.nd;refine⟨_,_,(zj0 (zh1 (zk1 (zl1 (K:=K) rfl) (zk1 (zl1 (K:=K) rfl) ze0 (zk1 zcc (pv 1) (zv0 (zi1 (K:=K) rfl) rfl jJ ze5 (za0 (pix w K hr (pv 0) ze0) zg0)))) (pv 2)))),(zm1 (RfE.c (zl0 zf8 (RfE.v (zl0 zf8 rvi (RfE.v (zl0 zl11 (zb0 1) (RfE.v (zu8 zid (zx0 (RfE.v (zl0 r_ix (zb0 0) rvi)) zp1))))))) (zb0 2)))),?_⟩;rintro ds Qd ⟨vs,r,m,v,rfl,hm,hv,q⟩;walk_at"ds";walk_at"dd";walk_at"k";rw[u5];refine⟨.inl ⟨by lia,by lia⟩,?_⟩;have e:(2:Int)+(m:Int) * (vs.length:Int)+(v:Int)=((2+m * vs.length+v:Nat):Int):=by simp
 rw[e];exact q
theorem zpt:FnScope ["yard", "number"] ["yard", "number"] (zh0 zsx):=by walk_at"sc"
theorem zt21(M:Md K mg)(T:TopDef K "spot" zsx)(qW:mg "divmod"=none)(jJ:mg "len"=none):Def P w K mg base "spot" 1 ["yard", "number"] (spD K zyu):=by
 refine zi3 M T zpt (by walk_at"h") (zwa (by walk_at"i")) (zg3 ?_);walk_at"g";have nd:=zpt.nd;refine⟨_,_,(zj0 (zh1 (zv0 zki rfl qW zuq (za0 (zk1 zj9 (pv 1) ze0) (za0 (zv0 (zi1 (K:=K) rfl) rfl jJ ze5 (za0 (pix w K hr (pv 0) ze0) zg0)) zg0))))),(zm1 (RfE.c (zu8 zsy (zx0 (RfE.v (zl0 zij (zb0 1) rvi)) (zx0 (RfE.v (zu8 zid (zx0 (RfE.v (zl0 r_ix (zb0 0) rvi)) zp1))) zp1))))),?_⟩;rintro ds Qd ⟨vs,r,n,rfl,h1,h2,q⟩;walk_at"ds";walk_at"dd";walk_at"k";rw[u5];exact⟨by lia,by lia,q⟩
end
def pb(ps:List Pi)(m n:Nat):List Nat:=(ps.mapIdx λi p=>(i,p)).filterMap λx=>if m+x.2.len<=n then some x.1 else none
def zw7:DSp:=λds Q=>∃(vs:List Va)(ps:List Pi)(m n:Nat),ds=[.tuple [.list (vs.map Va.d),.list (ps.map Pi.d)],.int (m:Int),.int (n:Int)]/\ps.length<=24/\Q (.list ((pb ps m n).map λk:Nat=>vQ (k:Int)))
theorem zwp(ps:List Pi)(m n:Nat):(pb ps m n).length<=ps.length:=by
 unfold pb;exact wZ (j7 _ _) (by simp)
def blk(ps:List Pi)(n:Nat)(R:Nat->List Int)(G:Nat->Nat->Int)(m:Nat):List Int:=R m++(pb ps m n).map (G m)
def zqc(ps:List Pi)(n:Nat)(A:List Int)(R:Nat->List Int)(G:Nat->Nat->Int)(k:Nat):List Int:=A++((u4 k).map (blk ps n R G)).flatten
theorem zs9(ps:List Pi)(n:Nat)(A:List Int)(R:Nat->List Int)(G:Nat->Nat->Int)(k:Nat):zqc ps n A R G (k+1)=zqc ps n A R G k++blk ps n R G k:=by
 unfold zqc;rw[wY,v9,ua0,<- wC];simp
theorem zmk(ps:List Pi)(n:Nat)(A:List Int)(R:Nat->List Int)(G:Nat->Nat->Int)(k:Nat):∀d,∃post,zqc ps n A R G (k+d)=zqc ps n A R G k++post
|0=>⟨[],by simp⟩
|d+1=>by
  obtain⟨post,h⟩:=zmk ps n A R G k d;exact⟨post++blk ps n R G (k+d),by rw[<- zT,zs9,h,wC]⟩
theorem zqu{ps:List Pi}{A T:List Int}{R:Nat->List Int}{j:Nat}(hm:m < n)(hj:(pb ps m n)[j]?=some i):(zqc ps n A R G n++T)[(zqc ps n A R G m).length+(R m).length+j]?=some (G m i):=by
 obtain⟨post,h⟩:=zmk ps n A R G (m+1) (n - (m+1));rw[show m+1+(n - (m+1))=n by lia,zs9]at h;rw[h];unfold blk;have hj2:=(v8.mp hj).1;rw[show zqc ps n A R G m++(R m++(pb ps m n).map (G m))++post++T=(zqc ps n A R G m++R m)++((pb ps m n).map (G m)++(post++T)) by simp only[wC]];rw[wL (by rw[vR];lia),vR,show(zqc ps n A R G m).length+(R m).length+j - ((zqc ps n A R G m).length+(R m).length)=j by lia,wO (by simpa using hj2),u8,hj];rfl
def pmL(G:Nat->Nat->Int)(m:Nat)(is:List Nat):List Le:=is.filterMap λi=>if 0 < G m i then some ⟨m,i,G m i⟩else none
def zab(ps:List Pi)(n:Nat)(G:Nat->Nat->Int)(k:Nat):List Le:=((u4 k).map λm=>pmL G m (pb ps m n)).flatten
theorem zzc(ps:List Pi)(n:Nat)(G:Nat->Nat->Int)(k:Nat):zab ps n G (k+1)=zab ps n G k++pmL G k (pb ps k n):=by
 unfold zab;rw[wY,v9,ua0];simp
theorem zbz{j:Nat}{is:List Nat}(h:is[j]?=some i):pmL G m (is.take (j+1))=pmL G m (is.take j)++(if 0 < G m i then [⟨m,i,G m i⟩]else []):=by
 unfold pmL;rw[xR,h,zQ];congr 1;by_cases z:0 < G m i
 ·simp[z]
 ·simp[z]
theorem zst(G:Nat->Nat->Int)(m:Nat)(is:List Nat):(pmL G m is).length<=is.length:=j7 _ _
theorem zhk(ps:List Pi)(n:Nat)(G:Nat->Nat->Int)(h:ps.length<=24):∀k,(zab ps n G k).length<=24 * k
|0=>by simp[zab]
|k+1=>by
  have ih:=zhk ps n G h k;have h1:=zst G k (pb ps k n);have h2:=zwp ps k n;rw[zzc,vR];lia
def zue:DSp:=λds Q=>∃(vs:List Va)(ps:List Pi)(n:Nat)(A T:List Int)(R:Nat->List Int)(G:Nat->Nat->Int),ds=[.tuple [.list (vs.map Va.d),.list (ps.map Pi.d)],.int (n:Int),.list ((zqc ps n A R G n++T).map .int)]/\vs.length<=12/\ps.length<=24/\n<=60/\A.length=vs.length/\(∀m,m < n->(R m).length=vs.length) /\
 Q (.list ((zab ps n G n).map Le.d))
section
variable {P:aN}{w:aQ}{K:Fg}{mg:Str->Option aC}{base:aT}
theorem zud:FnScope ["yard", "moment", "until"] ["yard", "moment", "until"] (zh0 zo9):=by walk_at"sc"
theorem zpk(M:Md K mg)(T:TopDef K "pipes_by" zo9)(jG:mg "enumerate"=none):Def P w K mg base "pipes_by" 1 ["yard", "moment", "until"] (spD K zw7):=by
 refine zi3 M T zud (by walk_at"h") (zwa (by walk_at"i")) (zg3 ?_);walk_at"g";have nd:=zud.nd;refine⟨_,(dRet (cF (zbd (zyp (zk0 (dOp fIx (zm0 0) (dC (.int 1))) dNil)) 2 [2,1] (gT 2 (zf5 (gN 0) (zf5 (gN 1) znl))) (za2 (dOp fLe (dOp fAdd (zm0 3) (dOp fIx (zm0 1) (dC (.int 2)))) (zm0 2))) (dVar 0)))),(zj0 (zh1 (zu4 (sc:=zh0 zo9) (N:=["yard", "moment", "until"]) (own:=["number", "pipe"]) (ix:=[2,1]) rfl rfl rfl (by walk_at"csc") (zua (K:=K) rfl rfl jG (za0 (pix w K hr (pv 0) ze0) zg0)) (λ_ _ _ _=>⟨(zl8 (K:=K) (n:=2) rfl rfl (zs1 (pgn 0 (nds ["number", "pipe", "until", "moment"])) (zs1 (pgn 1 (nds ["number", "pipe", "until", "moment"])) zn8))),(zng (zs0 zcc1 (zk1 (zl1 (K:=K) rfl) (pv 3) (pix w K hr (pv 1) ze0)) (pv 2) (zz0 _))),(pv 0)⟩)))),(zm1 (RfF.c (zj2 (zae (zx0 (RfE.v (zl0 r_ix (zb0 0) rvi)) zp1)) (zgd (zr1 (zn1 (i:=0) (n:=2) (by decide)) (zr1 (zn1 (i:=1) (n:=2) (by decide)) zq8))) (zr0 (zl0 r_le (RfE.v (zl0 zf8 (zb0 3) (RfE.v (zl0 r_ix (zb0 1) rvi)))) (zb0 2))) (zi0 0)))),?_⟩;rintro ds Qd ⟨vs,ps,m,n,rfl,h24,q⟩;walk_at"ds";walk_at"dd";walk_at"k";rw[zm6];refine zgz (λx=>if m+x.2.len<=n then some (.int (x.1:Int))else none) (by rw[aW,yQ];lia) (λx hx=>?_) ?_
 ·obtain⟨i,p⟩:=x;unfold Pi.d;walk_at"cs";walk_at"dd";walk_at"k";refine two (λh=>?_) λh=>?_
  ·rw[aF (by lia)]
  ·rw[aA (by lia)]
 ·unfold pb at q;rw[List.map_filterMap]at q;refine(congrArg (λl=>Qd (.list l)) ?_).mp q;congr 1;funext x;split <;> rfl
theorem zgg:FnScope ["yard", "until", "flow", "plan", "place", "moment", "pipe"] ["yard", "until", "flow"] (zh0 zve):=by walk_at"sc"
theorem zio(M:Md K mg)(T:TopDef K "plan_of" zve)(jJ:mg "len"=none)(jE:mg "range"=none)(kR:Def P w K mg base "pipes_by" 1 ["yard", "moment", "until"] (spD K zw7)):Def P w K mg base "plan_of" 2 ["yard", "until", "flow"] (spD K zue):=by
 refine zi3 M T zgg (by walk_at"h") (zwa (by walk_at"i")) (zg3 ?_);walk_at"g";have nd:=zgg.nd;refine⟨_,(dSeq (dSet 3 (cF (dLst dNil)))
   (dSeq (dAsg (dCB fLen (zk0 (dOp fIx (zm0 0) (dC (.int 0))) dNil)) (gN 4))
   (dSeq (dFor (zih (zk0 (dVar 1) dNil)) (gN 5) (dSeq (dAug 4 (λi j=>i+j) (dCB fLen (zk0 (dOp fIx (zm0 0) (dC (.int 0))) dNil)))
   (dFor (dIt (zd3 zw7 (zk0 (dVar 0) (zk0 (dVar 5) (zk0 (dVar 1) dNil))))) (gN 6) (dSeq (dIf (za2 (dOp fGt (dOp fIx (zm0 2) (zm0 4)) (dC (.int 0)))) (zjh (cBM "list" mApp (pVar 3) (zk0 (dTup (zk0 (dVar 5) (zk0 (dVar 6) (zk0 (dOp fIx (zm0 2) (zm0 4)) dNil)))) dNil))) zz5)
   (dAug 4 (λi j=>i+j) (dC (.int 1)))))))
   (zhp 3)))),(zd0 (pset 3 nd (zi2 zg0))
   (zd0 (pset 4 nd (zv0 (zi1 (K:=K) rfl) rfl jJ ze5 (za0 (pix w K hr (pv 0) ze0) zg0)))
   (zd0 (zt3 aR rfl (zt1 rfl jE (za0 (pv 1) zg0)) (pgn 5 nd) (zd0 (zrk (i:=4) nd rfl (by first|exact yA rfl|exact xW rfl) (zv0 (zi1 (K:=K) rfl) rfl jJ ze5 (za0 (pix w K hr (pv 0) ze0) zg0)) zyf)
   (zj0 (zt3 aR rfl (pi_W (K:=K) rfl (zq0 kR (rmn hr) rfl (za0 (pv 0) (za0 (pv 5) (za0 (pv 1) zg0))))) (pgn 6 nd) (zd0 (zn5 (zs0 zll (pix w K hr (pv 2) (pv 4)) ze0 (zz0 _)) (zj0 (zf2 (zk8 (K:=K) rfl ğa ğb ğc zk2 (pv 3) (za0 (zo1 (za0 (pv 5) (za0 (pv 6) (za0 (pix w K hr (pv 2) (pv 4)) zg0)))) zg0)))) zg1)
   (zj0 (zrk (i:=4) nd rfl (by first|exact yA rfl|exact xW rfl) ze0 zyf)))))))
   (zj0 (zh1 (pv 3)))))),(zn0 (zf3 (RfF.c (zb7 zo0)))
   (zn0 (zy0 (zu8 zid (zx0 (RfE.v (zl0 r_ix (zb0 0) rvi)) zp1)) (rgn 4))
   (zn0 (zj4 (za4 (zc0 (zi0 1) zo0)) (rgn 5) (zn0 (zhl (zu8 zid (zx0 (RfE.v (zl0 r_ix (zb0 0) rvi)) zp1)))
   (zj4 (zgq (zw0 (zc0 (zi0 0) (zc0 (zi0 5) (zc0 (zi0 1) zo0))))) (rgn 6) (zn0 (zm5 (zr0 (zl0 r_gt (RfE.v (zl0 r_ix (zb0 2) (zb0 4))) rvi)) (zh2 (zkh zhd (zu0 3) (zc0 (zs2 (zc0 (zi0 5) (zc0 (zi0 6) (zc0 (zl0 r_ix (zb0 2) (zb0 4)) zo0)))) zo0))) zf1)
   (zhl zd1)))))
   (zza (i:=3))))),?_⟩
 rintro ds Qd ⟨vs,ps,n,A,T,R,G,rfl,h12,h24,hn,hA,hR,q⟩;generalize hF:zqc ps n A R G n++T=F;walk_at"ds";walk_at"a";walk_at"b";walk_at"k";rw[u5];walk_at"b";rw[vZ];unfold rngD;have flen:∀k,k<=n->(zqc ps n A R G k).length<=12+36 * k:=λk=>by
  induction k with
 |zero=>intro _;unfold zqc;simp;lia
 |succ k ih =>
   intro hk;have i1:=ih (by lia);have i2:=hR k (by lia);have i3:=zwp ps k n;rw[zs9,vR];unfold blk;rw[vR,u5];lia
 refine⟨by lia,by lia,zb2 (λi U=>∃s5 s6:Sl,U=[.sh (.tuple [.list (vs.map Va.d),.list (ps.map Pi.d)]),.sh (.int (n:Int)),.sh (.list (F.map .int)),.ow (.li ((zab ps n G i).map Le.d)),.sh (.int ((zqc ps n A R G i).length:Int)),s5,s6]) ⟨.un,.un,by unfold zqc;simp[zab,hA]⟩ ?_ ?_⟩
 ·rintro i m U hm ⟨s5,s6,rfl⟩;obtain⟨hi,hi2⟩:=v8.mp hm;simp at hi hi2;subst hi2;rw[show(0:Int)+(i:Int)=(i:Int) by lia];have hfl:=flen i (by lia);have hpl:=zhk ps n G h24 i;have hpb:=zwp ps i n;walk_at"dd";walk_at"a";walk_at"k";rw[u5];walk_at"f";walk_at"dd";refine⟨vs,ps,i,n,rfl,h24,?_⟩;walk_at"dd";refine zb2 (λj U=>∃s6:Sl,U=[.sh (.tuple [.list (vs.map Va.d),.list (ps.map Pi.d)]),.sh (.int (n:Int)),.sh (.list (F.map .int)),.ow (.li ((zab ps n G i++pmL G i ((pb ps i n).take j)).map Le.d)),.sh (.int (((zqc ps n A R G i).length+(R i).length+j:Nat):Int)),.sh (.int (i:Int)),s6]) ⟨s6,?_⟩ ?_ ?_
  ·rw[hR i hi];simp[pmL]
  ·rintro j x U hj ⟨s6,rfl⟩;have hjl:=(v8.mp hj).1;have gx:=zqu (A:=A) (T:=T) (R:=R) (G:=G) hi hj;rw[hF]at gx;have hRi:=hR i hi;have gf:atI (F.map vQ) (((zqc ps n A R G i).length+(R i).length+j:Nat):Int)=some (.int (G i x)):=zre (by lia) (by rw[vZ,u8,gx];rfl);have hpm:=zst G i ((pb ps i n).take j);rw[wS]at hpm;rw[zbz hj];walk_at"dd";generalize hN:(zqc ps n A R G i).length+(R i).length+j=N at gf;rw[show(zqc ps n A R G i).length+(R i).length+(j+1)=N+1 by lia];walk_at"a";refine⟨_,gf,?_⟩;walk_at"dd";refine two (λz=>?_) λz=>?_
   ·refine⟨_,gf,?_⟩;refine⟨by rw[u5,vR];lia,hJ _ ?_⟩;clear hJ;walk_at"dd";rw[aF z];refine⟨.sh (.int (x:Int)),?_⟩;rw[<- wC,v9 (l₂:=[_])];rfl
   ·walk_at"f";walk_at"dd";rw[aA z];refine⟨.sh (.int (x:Int)),?_⟩;rw[wN];rfl
  ·rintro U ⟨s6,rfl⟩;rw[xH,zzc,zs9];refine⟨.sh (.int (i:Int)),s6,?_⟩;unfold blk;rw[vR,vR,u5,<- zT]
 ·rintro U ⟨s5,s6,rfl⟩;rw[wE];walk_at"f";walk_at"dd";exact q
end
def pbJ(ps:List Pi)(m n j:Nat):List Nat:=((ps.mapIdx λi p=>(i,p)).take j).filterMap λx=>if m+x.2.len<=n then some x.1 else none
theorem zhe(ps:List Pi)(m n:Nat):pbJ ps m n ps.length=pb ps m n:=by
 unfold pbJ pb;rw[xY (by simp)]
theorem zlw{ps:List Pi}{j:Nat}{p:Pi}(h:ps[j]?=some p):pbJ ps m n (j+1)=pbJ ps m n j++(if m+p.len<=n then [j]else []):=by
 unfold pbJ;rw[xR,xN,h,zQ];congr 1;by_cases e:m+p.len<=n <;> simp[e]
theorem zcj(ps:List Pi)(m n:Nat):∀j,j<=ps.length->(pbJ ps m n j).Nodup/\∀i∈pbJ ps m n j,i < j/\m+pl ps i<=n
|0,_=>⟨by simp[pbJ],λi hi=>by simp[pbJ]at hi⟩
|j+1,h=>by
  obtain⟨h1,h2⟩:=zcj ps m n j (by lia);have e:ps[j]?=some ps[j]:=u6 (by lia);rw[zlw e];by_cases c:m+ps[j].len<=n
  ·rw[aF c];refine⟨?_,λi hi=>?_⟩
   ·rw[wM];refine⟨h1,by simp,λa ha b hb z=>?_⟩;simp at hb;have:=(h2 a ha).1;lia
   ·rcases vS.mp hi with z|z
    ·exact⟨by have:=(h2 i z).1;lia,(h2 i z).2⟩
    ·simp at z;subst z;exact⟨by lia,by unfold pl;rw[e];exact c⟩
  ·rw[aA c,wN];exact⟨h1,λi hi=>⟨by have:=(h2 i hi).1;lia,(h2 i hi).2⟩⟩
def ntOf(vs:List Va)(ps:List Pi)(n:Nat):Nt:=⟨vs.length,n,λk=>((vs[k]?).map Va.fill).getD 0,λk=>((vs[k]?).map Va.room).getD 0,λm=>pb ps m n,zb1 ps,zt2 ps,pl ps,λi m=>zj8 ps i m⟩
theorem zz01{vs:List Va}{ps:List Pi}(h:∀p∈ps,PiOk vs.length p):(ntOf vs ps n).Ok:=by
 have a:∀m,∀i∈pb ps m n,i < ps.length/\m+pl ps i<=n:=λm i hi=>by rw[<- zhe]at hi;exact(zcj ps m n _ (u7 _)).2 i hi
 have b:∀i,i < ps.length->zb1 ps i < vs.length/\zt2 ps i < vs.length/\1<=pl ps i:=λi hi=>by
  unfold zb1 zt2 pl;rw[u6 hi];obtain⟨h1,h2,h3,_⟩:=h _ (w6 hi);exact⟨h1,h2,h3⟩
 exact⟨λm=>by show(pb ps m n).Nodup;rw[<- zhe];exact(zcj ps m n _ (u7 _)).1,λm i hi=>(b i (a m i hi).1).1,λm i hi=>(b i (a m i hi).1).2.1,λm i hi=>⟨(b i (a m i hi).1).2.2,(a m i hi).2⟩⟩
def zuj(vs:List Va)(ps:List Pi)(n k:Nat):List Ar:=(u4 vs.length).map (λj=>(0,(ntOf vs ps n).nd 0 j,(ntOf vs ps n).fl j))++(u4 k).flatMap λm=>(u4 vs.length).map (λj=>((ntOf vs ps n).nd m j,(ntOf vs ps n).nd (m+1) j,(ntOf vs ps n).rm j))++(pb ps m n).map λi=>((ntOf vs ps n).nd m (zb1 ps i),(ntOf vs ps n).nd (m+pl ps i) (zt2 ps i),zj8 ps i m)
theorem zlm(vs:List Va)(ps:List Pi)(n k:Nat):zuj vs ps n (k+1)=zuj vs ps n k++(u4 vs.length).map (λj=>((ntOf vs ps n).nd k j,(ntOf vs ps n).nd (k+1) j,(ntOf vs ps n).rm j))++(pb ps k n).map λi=>((ntOf vs ps n).nd k (zb1 ps i),(ntOf vs ps n).nd (k+pl ps i) (zt2 ps i),zj8 ps i k):=by
 unfold zuj;rw[wY,zS];simp
def csOf(vs:List Va)(ws:List Int):List (Nat->Int):=[λk=>ws.getD k 0,λk=>((vs[k]?).map Va.room).getD 0 - ws.getD k 0]
theorem zpj(vs:List Va)(ps:List Pi)(ws:List Int)(n:Nat):(ntOf vs ps n).arcs (csOf vs ws)=zuj vs ps n n++(u4 vs.length).map (λk=>((ntOf vs ps n).nd n k,1,ws.getD k 0))++(u4 vs.length).map λk=>((ntOf vs ps n).nd n k,1,((vs[k]?).map Va.room).getD 0 - ws.getD k 0):=by
 unfold Nt.arcs csOf zuj;rw[wH,wH,yD,wN,<- wC];rfl
structure YOk(vs:List Va)(ps:List Pi)(ws:List Int):Prop where
 n1:1<=vs.length
 n2:vs.length<=12
 m2:ps.length<=24
 lw:ws.length=vs.length
 vf:∀v∈vs,0<=v.fill/\v.fill<=v.room
 wr:∀(k:Nat) v y,vs[k]?=some v->ws[k]?=some y->0<=y/\y<=v.room
 pb:∀p∈ps,PiOk vs.length p
def atA(vs:List Va)(ps:List Pi)(n m:Nat):List Ar:=(u4 vs.length).map (λj=>((ntOf vs ps n).nd m j,(ntOf vs ps n).nd (m+1) j,(ntOf vs ps n).rm j))++(pb ps m n).map λi=>((ntOf vs ps n).nd m (zb1 ps i),(ntOf vs ps n).nd (m+pl ps i) (zt2 ps i),zj8 ps i m)
theorem zzn(vs:List Va)(ps:List Pi)(n k:Nat):zuj vs ps n (k+1)=zuj vs ps n k++atA vs ps n k:=by rw[zlm,wC];rfl
theorem zmt(vs:List Va)(ps:List Pi)(n m:Nat):(atA vs ps n m).length<=vs.length+ps.length:=by
 unfold atA;rw[vR,u5,u5,wE];have:=zwp ps m n;lia
theorem zne(vs:List Va)(ps:List Pi)(n:Nat):∀k,(zuj vs ps n k).length<=vs.length+(vs.length+ps.length) * k
|0=>by simp[zuj]
|k+1=>by rw[zzn,vR,Nat.mul_add];have:=zne vs ps n k;have:=zmt vs ps n k;lia
def zme:DSp:=λds Q=>∃(vs:List Va)(ps:List Pi)(m n:Nat),ds=[dY vs ps,.int (m:Int),.int (n:Int)]/\vs.length<=12/\ps.length<=24/\(∀p∈ps,PiOk vs.length p)/\m<=60/\Q (.list ((atA vs ps n m).map dAr))
def zk81:DSp:=λds Q=>∃(vs:List Va)(ps:List Pi)(ws:List Int)(n:Nat),ds=[dY vs ps,.list (ws.map .int),.int (n:Int)]/\YOk vs ps ws/\n<=60/\Q (.tuple [nI ((ntOf vs ps n).nd (n+1) 0),.list (((ntOf vs ps n).arcs (csOf vs ws)).map dAr)])
section
variable {P:aN}{w:aQ}{K:Fg}{mg:Str->Option aC}{base:aT}
theorem zbh:FnScope ["yard", "moment", "until", "arcs", "number", "pipe", "goal"] ["yard", "moment", "until"] (zh0 znb):=by walk_at"sc"
theorem zcn(M:Md K mg)(T:TopDef K "arcs_at" znb)(jG:mg "enumerate"=none)(vC:Def P w K mg base "width" 4 ["gate", "moment"] (spD K zbn))(jQ:Def P w K mg base "node" 1 ["yard", "moment", "vat"] (spD K zq6))(kR:Def P w K mg base "pipes_by" 1 ["yard", "moment", "until"] (spD K zw7)):Def P w K mg base "arcs_at" 5 ["yard", "moment", "until"] (spD K zme):=by
 refine zi3 M T zbh (by walk_at"h") (zwa (by walk_at"i")) (zg3 ?_);walk_at"g";have nd:=zbh.nd;refine⟨_,(dSeq (dSet 3 (cF (zbd (zyp (zk0 (dOp fIx (zm0 0) (dC (.int 0))) dNil)) 2 [0,1] (gT 2 (zf5 (gN 0) (zf5 (gN 1) znl))) zmf (dTup (zk0 (zd3 zq6 (zk0 (dVar 2) (zk0 (dVar 3) (zk0 (dVar 0) dNil)))) (zk0 (zd3 zq6 (zk0 (dVar 2) (zk0 (dOp fAdd (zm0 3) (dC (.int 1))) (zk0 (dVar 0) dNil)))) (zk0 (dOp fIx (zm0 1) (dC (.int 1))) dNil)))))))
   (dSeq (dFor (dIt (zd3 zw7 (zk0 (dVar 0) (zk0 (dVar 1) (zk0 (dVar 2) dNil))))) (gN 4) (dSeq (dAsg (dOp fIx (dOp fIx (zm0 0) (dC (.int 1))) (zm0 4)) (gN 5))
   (dSeq (dAsg (zd3 zq6 (zk0 (dVar 0) (zk0 (dOp fAdd (zm0 1) (dOp fIx (zm0 5) (dC (.int 2)))) (zk0 (dOp fIx (zm0 5) (dC (.int 1))) dNil)))) (gN 6))
   (zjh (cBM "list" mApp (pVar 3) (zk0 (dTup (zk0 (zd3 zq6 (zk0 (dVar 0) (zk0 (dVar 1) (zk0 (dOp fIx (zm0 5) (dC (.int 0))) dNil)))) (zk0 (dVar 6) (zk0 (zd3 zbn (zk0 (dOp fIx (zm0 5) (dC (.int 4))) (zk0 (dVar 1) dNil))) dNil)))) dNil))))))
   (zhp 3))),(zd0 (zh3 (i:=3) (sc:=zh0 znb) (N:=["yard", "moment", "until", "arcs", "number", "pipe", "goal"]) (own:=["vat", "told"]) (ix:=[0,1]) rfl rfl rfl (by walk_at"csc") nd rfl rfl (zua (K:=K) rfl rfl jG (za0 (pix w K hr (pv 0) ze0) zg0)) (λ_ _ _ _=>⟨(zl8 (K:=K) (n:=2) rfl rfl (zs1 (pgn 0 (nds ["vat", "told", "yard", "moment"])) (zs1 (pgn 1 (nds ["vat", "told", "yard", "moment"])) zn8))),zj3,(zo1 (za0 (zq0 jQ (rmn hr) rfl (za0 (pv 2) (za0 (pv 3) (za0 (pv 0) zg0)))) (za0 (zq0 jQ (rmn hr) rfl (za0 (pv 2) (za0 (zk1 (zl1 (K:=K) rfl) (pv 3) ze0) (za0 (pv 0) zg0)))) (za0 (pix w K hr (pv 1) ze0) zg0))))⟩))
   (zd0 (zt3 aR rfl (pi_W (K:=K) rfl (zq0 kR (rmn hr) rfl (za0 (pv 0) (za0 (pv 1) (za0 (pv 2) zg0))))) (pgn 4 nd) (zd0 (pset 5 nd (pix w K hr (pix w K hr (pv 0) ze0) (pv 4)))
   (zd0 (pset 6 nd (zq0 jQ (rmn hr) rfl (za0 (pv 0) (za0 (zk1 (zl1 (K:=K) rfl) (pv 1) (pix w K hr (pv 5) ze0)) (za0 (pix w K hr (pv 5) ze0) zg0)))))
   (zj0 (zf2 (zk8 (K:=K) rfl ğa ğb ğc zk2 (pv 3) (za0 (zo1 (za0 (zq0 jQ (rmn hr) rfl (za0 (pv 0) (za0 (pv 1) (za0 (pix w K hr (pv 5) ze0) zg0)))) (za0 (pv 6) (za0 (zq0 vC (rmn hr) rfl (za0 (pix w K hr (pv 5) ze0) (za0 (pv 1) zg0))) zg0)))) zg0)))))))
   (zj0 (zh1 (pv 3))))),(zn0 (zf3 (RfF.c (zj2 (zae (zx0 (RfE.v (zl0 r_ix (zb0 0) rvi)) zp1)) (zgd (zr1 (zn1 (i:=0) (n:=2) (by decide)) (zr1 (zn1 (i:=1) (n:=2) (by decide)) zq8))) zg4 (zs2 (zc0 (zw0 (zc0 (zi0 2) (zc0 (zi0 3) (zc0 (zi0 0) zo0)))) (zc0 (zw0 (zc0 (zi0 2) (zc0 (zl0 zf8 (zb0 3) rvi) (zc0 (zi0 0) zo0)))) (zc0 (zl0 r_ix (zb0 1) rvi) zo0)))))))
   (zn0 (zj4 (zgq (zw0 (zc0 (zi0 0) (zc0 (zi0 1) (zc0 (zi0 2) zo0))))) (rgn 4) (zn0 (zy0 (zl0 r_ix (RfE.v (zl0 r_ix (zb0 0) rvi)) (zb0 4)) (rgn 5))
   (zn0 (zy0 (zw0 (zc0 (zi0 0) (zc0 (zl0 zf8 (zb0 1) (RfE.v (zl0 r_ix (zb0 5) rvi))) (zc0 (zl0 r_ix (zb0 5) rvi) zo0)))) (rgn 6))
   (zh2 (zkh zhd (zu0 3) (zc0 (zs2 (zc0 (zw0 (zc0 (zi0 0) (zc0 (zi0 1) (zc0 (zl0 r_ix (zb0 5) rvi) zo0)))) (zc0 (zi0 6) (zc0 (zw0 (zc0 (zl0 r_ix (zb0 5) rvi) (zc0 (zi0 1) zo0))) zo0)))) zo0))))))
   (zza (i:=3)))),?_⟩
 rintro ds Qd ⟨vs,ps,m,n,rfl,hv,hp,okp,hm,q⟩;unfold dY;walk_at"ds";walk_at"a";walk_at"k";rw[zm6];refine zgk (λp=>dAr ((ntOf vs ps n).nd m p.1,(ntOf vs ps n).nd (m+1) p.1,p.2.room)) (by rw[aW,yQ];lia) (λp hp=>?_) ?_
 ·obtain⟨i,v⟩:=p;rw[show Va.d v=.tuple [.str v.nm,.int v.room,.int v.fill]from rfl];walk_at"cs";walk_at"dd";refine⟨vs,_,m,i,rfl,by lia,by lia,vs,.list (ps.map Pi.d),m+1,i,by simp[nI],by lia,by lia,_,rfl,?_⟩;simp[dAr,nI,Nt.nd,ntOf]
 walk_at"f";have e1:(vs.mapIdx λi x=>(i,x)).map (λp=>dAr ((ntOf vs ps n).nd m p.1,(ntOf vs ps n).nd (m+1) p.1,p.2.room))=((u4 vs.length).map λj=>((ntOf vs ps n).nd m j,(ntOf vs ps n).nd (m+1) j,(ntOf vs ps n).rm j)).map dAr:=by
  rw[wD];apply xZ;intro j;rw[u8,u8,xN];by_cases h:j < vs.length
  ·rw[xA h,u6 h];have:(ntOf vs ps n).rm j=vs[j].room:=by show((vs[j]?).map Va.room).getD 0=_;rw[u6 h];rfl
   show some (dAr ((ntOf vs ps n).nd m j,(ntOf vs ps n).nd (m+1) j,vs[j].room))=some (dAr ((ntOf vs ps n).nd m j,(ntOf vs ps n).nd (m+1) j,(ntOf vs ps n).rm j));rw[this]
  ·rw[wA (by lia),wA (by simpa using h)];rfl
 rw[e1];walk_at"a";refine⟨vs,ps,m,n,rfl,hp,?_⟩;have hpb:=zwp ps m n;have okb:∀i∈pb ps m n,i < ps.length:=λi hi=>by rw[<- zhe]at hi;exact((zcj ps m n _ (u7 _)).2 i hi).1
 walk_at"dd";refine zb2 (λi U=>∃s4 s5 s6:Sl,U=[.sh (.tuple [.list (vs.map Va.d),.list (ps.map Pi.d)]),.sh (.int (m:Int)),.sh (.int (n:Int)),.ow (.li (((u4 vs.length).map (λj=>((ntOf vs ps n).nd m j,(ntOf vs ps n).nd (m+1) j,(ntOf vs ps n).rm j))++((pb ps m n).take i).map λi=>((ntOf vs ps n).nd m (zb1 ps i),(ntOf vs ps n).nd (m+pl ps i) (zt2 ps i),zj8 ps i m)).map dAr)),s4,s5,s6]) ⟨.un,.un,.un,by simp⟩ ?_ ?_
 ·rintro i k U hk ⟨s4,s5,s6,rfl⟩;have hkp:=okb k (wI hk);have hik:=(v8.mp hk).1;have ep:ps[k]?=some ps[k]:=u6 hkp;obtain⟨o1,o2,o3,o4,o5⟩:=okp _ (w6 hkp);have o4:ps[k].len<=20:=o4;have gp:atI (ps.map Pi.d) (k:Int)=some (.tuple [.int (ps[k].u:Int),.int (ps[k].v:Int),.int (ps[k].len:Int),.int ps[k].pr,ps[k].g.d]):=zre (by lia) (by rw[vZ,u8,ep];rfl);rw[xR,hk];generalize hpp:ps[k]=p at ep o1 o2 o3 o4 o5 gp;walk_at"dd";walk_at"a";walk_at"k";refine⟨_,gp,hJ _ ?_⟩;walk_at"c";refine⟨_,rfl,_,rfl,vs,.list (ps.map Pi.d),m+p.len,p.v,by simp[nI],by lia,by lia,hJ _ ?_⟩;clear hJ;walk_at"dd";refine⟨_,rfl,vs,_,m,p.u,rfl,by lia,by lia,_,rfl,p.g,m,rfl,o5.1,by simp;lia,.sh (.int (k:Int)),.sh (.tuple [.int (p.u:Int),.int (p.v:Int),.int (p.len:Int),.int p.pr,p.g.d]),.sh (nI (2+(m+p.len) * vs.length+p.v)),?_⟩;have es:zb1 ps k=p.u:=by unfold zb1;rw[ep];rfl
  have eg:zt2 ps k=p.v:=by unfold zt2;rw[ep];rfl
  have el:pl ps k=p.len:=by unfold pl;rw[ep];rfl
  have ew:zj8 ps k m=p.g.at m:=by unfold zj8;rw[ep];rfl
  simp only[v9,Option.toList,v4,yL,<- wC];rw[es,eg,el,ew];rfl
 ·rintro U ⟨s4,s5,s6,rfl⟩;rw[xH];walk_at"f";walk_at"dd";exact q
theorem zw01:FnScope ["yard", "wants", "until", "arcs", "moment", "vat", "told"] ["yard", "wants", "until"] (zh0 zn11):=by walk_at"sc"
theorem zj81(M:Md K mg)(T:TopDef K "net" zn11)(jG:mg "enumerate"=none)(jE:mg "range"=none)(jQ:Def P w K mg base "node" 1 ["yard", "moment", "vat"] (spD K zq6))(uL:Def P w K mg base "arcs_at" 5 ["yard", "moment", "until"] (spD K zme))(g_SOURCE:mg "SOURCE"=some gv_SOURCE)(r_SOURCE:RelV (.int 0) gv_SOURCE)(g_SINK:mg "SINK"=some gv_SINK)(r_SINK:RelV (.int 1) gv_SINK):Def P w K mg base "net" 6 ["yard", "wants", "until"] (spD K zk81):=by
 refine zi3 M T zw01 (by walk_at"h") (zwa (by walk_at"i")) (zg3 ?_);walk_at"g";have nd:=zw01.nd;refine⟨_,(dSeq (dSet 3 (cF (zbd (zyp (zk0 (dOp fIx (zm0 0) (dC (.int 0))) dNil)) 2 [0] (gT 2 (zf5 (gN 0) (zf5 (gN 1) znl))) zmf (dTup (zk0 (dC (.int 0)) (zk0 (zd3 zq6 (zk0 (dVar 2) (zk0 (dC (.int 0)) (zk0 (dVar 0) dNil)))) (zk0 (dOp fIx (zm0 1) (dC (.int 2))) dNil)))))))
   (dSeq (dFor (zih (zk0 (dVar 2) dNil)) (gN 4) (zjh (cBM "list" mExt (pVar 3) (zk0 (zd3 zme (zk0 (dVar 0) (zk0 (dVar 4) (zk0 (dVar 2) dNil)))) dNil))))
   (dSeq (zjh (cBM "list" mExt (pVar 3) (zk0 (dF (zbd (zyp (zk0 (zm0 1) dNil)) 2 [0,2] (gT 2 (zf5 (gN 0) (zf5 (gN 1) znl))) zmf (dTup (zk0 (zd3 zq6 (zk0 (dVar 2) (zk0 (dVar 3) (zk0 (dVar 0) dNil)))) (zk0 (dC (.int 1)) (zk0 (dVar 1) dNil)))))) dNil)))
   (dSeq (dFor (zyp (zk0 (dOp fIx (zm0 0) (dC (.int 0))) dNil)) (gT 2 (zf5 (gN 5) (zf5 (gN 6) znl))) (zjh (cBM "list" mApp (pVar 3) (zk0 (dTup (zk0 (zd3 zq6 (zk0 (dVar 0) (zk0 (dVar 2) (zk0 (dVar 5) dNil)))) (zk0 (dC (.int 1)) (zk0 (dOp fSub (dOp fIx (zm0 6) (dC (.int 1))) (dOp fIx (zm0 1) (zm0 5))) dNil)))) dNil))))
   (dFrz 3 [] (dRet (cE (dTup (zk0 (zd3 zq6 (zk0 (dVar 0) (zk0 (dOp fAdd (zm0 2) (dC (.int 1))) (zk0 (dC (.int 0)) dNil)))) (zk0 (dVar 3) dNil)))))))))),(zd0 (zh3 (i:=3) (sc:=zh0 zn11) (N:=["yard", "wants", "until", "arcs", "moment", "vat", "told"]) (own:=["vat", "told"]) (ix:=[0]) rfl rfl rfl (by walk_at"csc") nd rfl rfl (zua (K:=K) rfl rfl jG (za0 (pix w K hr (pv 0) ze0) zg0)) (λ_ _ _ _=>⟨(zl8 (K:=K) (n:=2) rfl rfl (zs1 (pgn 0 (nds ["vat", "told", "yard"])) (zs1 (pgn 1 (nds ["vat", "told", "yard"])) zn8))),zj3,(zo1 (za0 (zx6 rfl g_SOURCE r_SOURCE) (za0 (zq0 jQ (rmn hr) rfl (za0 (pv 2) (za0 ze0 (za0 (pv 0) zg0)))) (za0 (pix w K hr (pv 1) ze0) zg0))))⟩))
   (zd0 (zt3 aR rfl (zt1 rfl jE (za0 (pv 2) zg0)) (pgn 4 nd) (zj0 (zf2 (zk8 (K:=K) rfl ğa ğd ğe (zw5 (K:=K) rfl) (pv 3) (za0 (zq0 uL (rmn hr) rfl (za0 (pv 0) (za0 (pv 4) (za0 (pv 2) zg0)))) zg0)))))
   (zd0 (zf2 (zk8 (K:=K) rfl ğa ğd ğe (zw5 (K:=K) rfl) (pv 3) (za0 (zu4 (sc:=zh0 zn11) (N:=["yard", "wants", "until", "arcs", "moment", "vat", "told"]) (own:=["vat", "want"]) (ix:=[0,2]) rfl rfl rfl (by walk_at"csc") (zua (K:=K) rfl rfl jG (za0 (pv 1) zg0)) (λ_ _ _ _=>⟨(zl8 (K:=K) (n:=2) rfl rfl (zs1 (pgn 0 (nds ["vat", "want", "yard", "until"])) (zs1 (pgn 1 (nds ["vat", "want", "yard", "until"])) zn8))),zj3,(zo1 (za0 (zq0 jQ (rmn hr) rfl (za0 (pv 2) (za0 (pv 3) (za0 (pv 0) zg0)))) (za0 (zx6 rfl g_SINK r_SINK) (za0 (pv 1) zg0))))⟩)) zg0)))
   (zd0 (zt3 aR rfl (zua (K:=K) rfl rfl jG (za0 (pix w K hr (pv 0) ze0) zg0)) (zl8 (K:=K) (n:=2) rfl rfl (zs1 (pgn 5 nd) (zs1 (pgn 6 nd) zn8))) (zj0 (zf2 (zk8 (K:=K) rfl ğa ğb ğc zk2 (pv 3) (za0 (zo1 (za0 (zq0 jQ (rmn hr) rfl (za0 (pv 0) (za0 (pv 2) (za0 (pv 5) zg0)))) (za0 (zx6 rfl g_SINK r_SINK) (za0 (zk1 zj9 (pix w K hr (pv 6) ze0) (pix w K hr (pv 1) (pv 5))) zg0)))) zg0)))))
   (zj0 (zh1 (zo1 (za0 (zq0 jQ (rmn hr) rfl (za0 (pv 0) (za0 (zk1 (zl1 (K:=K) rfl) (pv 2) ze0) (za0 ze0 zg0)))) (za0 (pv 3) zg0))))))))),(zn0 (zf3 (RfF.c (zj2 (zae (zx0 (RfE.v (zl0 r_ix (zb0 0) rvi)) zp1)) (zgd (zr1 (zn1 (i:=0) (n:=2) (by decide)) (zr1 (zn1 (i:=1) (n:=2) (by decide)) zq8))) zg4 (zs2 (zc0 zd1 (zc0 (zw0 (zc0 (zi0 2) (zc0 zd1 (zc0 (zi0 0) zo0)))) (zc0 (zl0 r_ix (zb0 1) rvi) zo0)))))))
   (zn0 (zj4 (za4 (zc0 (zi0 2) zo0)) (rgn 4) (zh2 (zkh zvk (zu0 3) (zc0 (zw0 (zc0 (zi0 0) (zc0 (zi0 4) (zc0 (zi0 2) zo0)))) zo0))))
   (zn0 (zh2 (zkh zvk (zu0 3) (zc0 (RfF.e (zj2 (zae (zx0 (zb0 1) zp1)) (zgd (zr1 (zn1 (i:=0) (n:=2) (by decide)) (zr1 (zn1 (i:=1) (n:=2) (by decide)) zq8))) zg4 (zs2 (zc0 (zw0 (zc0 (zi0 2) (zc0 (zi0 3) (zc0 (zi0 0) zo0)))) (zc0 zd1 (zc0 (zi0 1) zo0)))))) zo0)))
   (zn0 (zj4 (zdt (zc0 (zl0 r_ix (zb0 0) rvi) zo0)) (zgd (zr1 (rgn 5) (zr1 (rgn 6) zq8))) (zh2 (zkh zhd (zu0 3) (zc0 (zs2 (zc0 (zw0 (zc0 (zi0 0) (zc0 (zi0 2) (zc0 (zi0 5) zo0)))) (zc0 zd1 (zc0 (zl0 zij (RfE.v (zl0 r_ix (zb0 6) rvi)) (RfE.v (zl0 r_ix (zb0 1) (zb0 5)))) zo0)))) zo0))))
   (zgb 3 [] (zm1 (RfE.c (zs2 (zc0 (zw0 (zc0 (zi0 0) (zc0 (zl0 zf8 (zb0 2) rvi) (zc0 zd1 zo0)))) (zc0 (zi0 3) zo0)))))))))),?_⟩
 rintro ds Qd ⟨vs,ps,ws,n,rfl,y,hn,q⟩;have hv:=y.n2;have hm:=y.m2;have hw:=y.lw;unfold dY;walk_at"ds";walk_at"a";walk_at"k";rw[zm6];refine zgk (λp=>dAr (0,(ntOf vs ps n).nd 0 p.1,p.2.fill)) (by rw[aW,yQ];lia) (λp hp=>?_) ?_
 ·obtain⟨i,v⟩:=p;unfold Va.d;walk_at"cs";walk_at"dd";exact⟨vs,_,0,i,rfl,by lia,by lia,_,rfl,by simp[dAr,nI,Nt.nd,ntOf]⟩
 walk_at"f";have e1:(vs.mapIdx λi x=>(i,x)).map (λp=>dAr (0,(ntOf vs ps n).nd 0 p.1,p.2.fill))=(zuj vs ps n 0).map dAr:=by
  unfold zuj;rw[zY,yD,wN,wD];apply xZ;intro j;rw[u8,u8,xN];by_cases h:j < vs.length
  ·rw[xA h,u6 h];have:(ntOf vs ps n).fl j=vs[j].fill:=by show((vs[j]?).map Va.fill).getD 0=_;rw[u6 h];rfl
   show some (dAr (0,(ntOf vs ps n).nd 0 j,vs[j].fill))=some (dAr (0,(ntOf vs ps n).nd 0 j,(ntOf vs ps n).fl j));rw[this]
  ·rw[wA (by lia),wA (by simpa using h)];rfl
 rw[e1];have la:∀k,k<=60->(zuj vs ps n k).length<=12+36 * k:=λk _=>wZ (zne vs ps n k) (by have:=yE k (show vs.length+ps.length<=36 by lia);lia);walk_at"a";rw[vZ];unfold rngD;refine⟨by lia,by lia,zb2 (λi U=>∃s4:Sl,U=[.sh (.tuple [.list (vs.map Va.d),.list (ps.map Pi.d)]),.sh (.list (ws.map .int)),.sh (.int (n:Int)),.ow (.li ((zuj vs ps n i).map dAr)),s4,.un,.un]) ⟨.un,rfl⟩ ?_ ?_⟩
 ·rintro i x U hx ⟨s4,rfl⟩;obtain⟨hi,hi2⟩:=v8.mp hx;simp at hi hi2;subst hi2;rw[show(0:Int)+(i:Int)=(i:Int) by lia];have h1:=la i (by lia);have h2:=zmt vs ps n i;walk_at"dd";exact⟨vs,ps,i,n,rfl,hv,hm,y.pb,by lia,by rw[u5,u5];lia,.sh (.int (i:Int)),by rw[zzn,v9]⟩
 rintro U ⟨s4,rfl⟩;rw[wE];walk_at"f";have h1:=la n (by lia);walk_at"a";rw[zm6];refine zgk (λp=>dAr ((ntOf vs ps n).nd n p.1,1,p.2)) (by rw[aW,yQ];lia) (λp hp=>?_) ?_
 ·obtain⟨i,x⟩:=p;walk_at"cs";walk_at"dd";exact⟨vs,_,n,i,rfl,by lia,by lia,by simp[dAr,nI,Nt.nd,ntOf]⟩
 refine⟨by simp;lia,hJ _ ?_⟩;clear hJ;have e3:(ws.mapIdx λi x=>(i,x)).map (λp=>dAr ((ntOf vs ps n).nd n p.1,1,p.2))=((u4 vs.length).map λk=>((ntOf vs ps n).nd n k,1,ws.getD k 0)).map dAr:=by
  rw[wD,<- hw];apply xZ;intro j;rw[u8,u8,xN];by_cases h:j < ws.length
  ·rw[xA h,u6 h];show some (dAr ((ntOf vs ps n).nd n j,1,ws[j]))=some (dAr ((ntOf vs ps n).nd n j,1,ws.getD j 0));rw[v6,u6 h];rfl
  ·rw[wA (by lia),wA (by simpa using h)];rfl
 rw[e3,<- v9];walk_at"a";walk_at"k";rw[zm6];refine zb2 (λi U=>∃s5 s6:Sl,U=[.sh (.tuple [.list (vs.map Va.d),.list (ps.map Pi.d)]),.sh (.list (ws.map .int)),.sh (.int (n:Int)),.ow (.li ((zuj vs ps n n++(u4 vs.length).map (λk=>((ntOf vs ps n).nd n k,1,ws.getD k 0))++(u4 i).map λk=>((ntOf vs ps n).nd n k,1,((vs[k]?).map Va.room).getD 0 - ws.getD k 0)).map dAr)),s4,s5,s6]) ⟨.un,.un,by simp⟩ ?_ ?_
 ·rintro i x U hx ⟨s5,s6,rfl⟩;rw[xN]at hx;obtain⟨v,hvv,rfl⟩:=wQ.mp hx;have hi:=(v8.mp hvv).1;have gw:atI (ws.map vQ) ((i:Nat):Int)=some (.int (ws.getD i 0)):=zre (by lia) (by rw[vZ,u8,v6,u6 (by lia:i < ws.length)];rfl);rw[wY];unfold Va.d;walk_at"dd";refine⟨vs,_,n,i,rfl,by lia,by lia,_,rfl,_,gw,?_⟩;walk_at"dd";refine⟨by simp;lia,.sh (nI i),.sh v.d,?_⟩;simp only[v9,v4,yL,<- wC];rw[hvv];rfl
 ·rintro U ⟨s5,s6,rfl⟩;rw[yQ,<- zpj];walk_at"f";walk_at"dd";refine⟨_,_,rfl,rfl,vs,.list (ps.map Pi.d),n+1,0,by simp[nI],by lia,by lia,?_⟩;exact q
end
def cW(ws:List Int)(k:Nat):Int:=ws.getD k 0
def cR(vs:List Va)(ws:List Int)(k:Nat):Int:=((vs[k]?).map Va.room).getD 0 - ws.getD k 0
def ztw(vs:List Va)(ps:List Pi)(ws:List Int)(n:Nat):List Ar:=(u4 vs.length).map λk=>((ntOf vs ps n).nd n k,1,cR vs ws k)
theorem zdv(vs:List Va)(ps:List Pi)(ws:List Int)(n:Nat):(ntOf vs ps n).arcs (csOf vs ws)=(ntOf vs ps n).arcs [cW ws]++ztw vs ps ws n:=by
 unfold Nt.arcs csOf;simp only[wH,yD,wN,wC];rfl
theorem zdr(vs:List Va)(ps:List Pi)(ws:List Int)(n:Nat):(ztw vs ps ws n).length=vs.length:=by simp[ztw]
section
variable {vs:List Va}{ps:List Pi}{ws:List Int}{n:Nat}
theorem YOk.ok(y:YOk vs ps ws):(ntOf vs ps n).Ok:=zz01 y.pb
theorem YOk.fl(y:YOk vs ps ws){k:Nat}(hk:k < vs.length):0<=(ntOf vs ps n).fl k/\(ntOf vs ps n).fl k<=(ntOf vs ps n).rm k/\0<=cW ws k/\cW ws k<=(ntOf vs ps n).rm k:=by
 have e:vs[k]?=some vs[k]:=u6 hk;have hk2:k < ws.length:=by have:=y.lw;lia
 have e2:ws[k]?=some ws[k]:=u6 hk2;obtain⟨a1,a2⟩:=y.vf _ (w6 hk);obtain⟨b1,b2⟩:=y.wr k _ _ e e2;show 0<=((vs[k]?).map Va.fill).getD 0/\((vs[k]?).map Va.fill).getD 0<=((vs[k]?).map Va.room).getD 0/\0<=ws.getD k 0/\ws.getD k 0<=((vs[k]?).map Va.room).getD 0;rw[e,v6,e2];exact⟨a1,a2,b1,b2⟩
theorem YOk.ar(y:YOk vs ps ws):∀a∈(ntOf vs ps n).arcs (csOf vs ws),a.1 < (ntOf vs ps n).nd (n+1) 0/\a.2.1 < (ntOf vs ps n).nd (n+1) 0/\0<=a.2.2:=λa ha=>by
 have ok:=y.ok (n:=n);have h2:=Nt.nd2 (T:=ntOf vs ps n) (n+1) 0;unfold Nt.arcs at ha;rcases vS.mp ha with ha|ha
 ·rcases vS.mp ha with ha|ha
  ·obtain⟨k,hk,rfl⟩:=vU.mp ha;have hk:=u9.mp hk;exact⟨by show 0 < _;lia,Nt.nd_lt (T:=ntOf vs ps n) (wX _) hk,(y.fl (n:=n) hk).1⟩
  ·obtain⟨m,hm,ha⟩:=yP.mp ha;have hm:m < n:=u9.mp hm;rcases vS.mp ha with ha|ha
   ·obtain⟨k,hk,rfl⟩:=vU.mp ha;have hk:k < vs.length:=u9.mp hk;have:=y.fl (n:=n) hk;exact⟨Nt.nd_lt (T:=ntOf vs ps n) (yH hm) hk,Nt.nd_lt (T:=ntOf vs ps n) hm hk,by show 0<=(ntOf vs ps n).rm k;lia⟩
   ·obtain⟨i,hi,rfl⟩:=vU.mp ha;refine⟨Nt.nd_lt (T:=ntOf vs ps n) (yH hm) (ok.ub m i hi),Nt.nd_lt (T:=ntOf vs ps n) (ok.ln m i hi).2 (ok.vb m i hi),?_⟩;have hi2:i < ps.length:=by
     have hi3:i∈pbJ ps m n ps.length:=by rw[zhe];exact hi
     exact((zcj ps m n _ (u7 _)).2 i hi3).1
    show 0<=zj8 ps i m;unfold zj8;rw[u6 hi2];exact(y.pb _ (w6 hi2)).2.2.2.2.2 m
 ·obtain⟨c,hc,ha⟩:=yP.mp ha;obtain⟨k,hk,rfl⟩:=vU.mp ha;have hk:k < vs.length:=u9.mp hk;refine⟨Nt.nd_lt (T:=ntOf vs ps n) (u7 _) hk,by show 1 < _;lia,?_⟩;have:=y.fl (n:=n) hk;have hc:c∈[cW ws,cR vs ws]:=hc;rcases vW.mp hc with z|z
  ·subst z;exact this.2.2.1
  ·have z:=zW.mp z;subst z;show 0<=(ntOf vs ps n).rm k - cW ws k;lia
theorem zxw(y:YOk vs ps ws)(hn:n<=60):((ntOf vs ps n).arcs (csOf vs ws)).length<=3000:=by
 have h1:=zne vs ps n n;have:=Nat.mul_le_mul (show vs.length+ps.length<=36 by have:=y.n2;have:=y.m2;lia) hn;have:=y.n2;rw[zpj,vR,vR,u5,u5,wE];lia
end
theorem zq91{κ:Type}[DecidableEq κ]:∀{l acc:List (κ×D)},((acc++l).map (·.1)).Nodup->l.foldl (λa x=>putD a x.1 x.2) acc=acc++l
|[],acc,_=>by simp
|x :: l,acc,nd=>by
  have h:putD acc x.1 x.2=acc++[x]:=by
   unfold putD;rw[aA];intro z;obtain⟨y,hy,e⟩:=List.any_eq_true.mp z;rw[v9,wM]at nd;exact nd.2.2 y.1 (vU.mpr ⟨y,hy,rfl⟩) x.1 (by simp) (dL e)
  rw[zK,h,zq91 (by rw[wC];exact nd),wC];rfl
theorem zvr(side:List Nat)(j:Nat):(getA (side.map λv:Nat=>((.inl (v:Int),.bool true):Key×D)) (.inl (j:Int))).isSome=decide (j∈side):=by
 induction side with
|nil=>rfl
|cons a r ih =>
  rw[v4,zn6];by_cases e:j=a
  ·subst e;rw[aF rfl];simp
  ·rw[aA (λz=>e (by injection z with z;lia)),ih];simp[e]
def ptL(N c:Nat)(side:List Nat):List D:=(u4 (c - 2)).filterMap λk=>if 2+k∈side then none else some (.tuple [.int ((k / N:Nat):Int),.int ((k % N:Nat):Int)])
def zn7:DSp:=λds Q=>∃(vs:List Va)(ps:List Pi)(n:Nat)(side:List Nat),ds=[.tuple [.list (vs.map Va.d),.list (ps.map Pi.d)],nI n,.list (side.map nI)]/\1<=vs.length/\vs.length<=100/\2<=n/\n<=100/\side.length<=100/\side.Nodup/\Q (.list (ptL vs.length n side))
structure Met(vs:List Va)(ps:List Pi)(ws:List Int)(n:Nat)(M:Int)(f:Fm):Prop where
 val:(ntOf vs ps n).Val (cW ws) M
 fl:(ntOf vs ps n).Fl [cW ws,cR vs ws] f
 src:∀k,k < vs.length->f.a k=(ntOf vs ps n).fl k
 wn:M=ws.sum->∃t s,f.t=[t,s]/\∀k,k < vs.length->cW ws k<=t k
def ptN(vs:List Va)(ps:List Pi)(n:Nat)(side:List Nat):List D:=ptL vs.length ((ntOf vs ps n).nd (n+1) 0) side
def Ovr(vs:List Va)(ps:List Pi)(ws:List Int)(n:Nat)(M:Int)(side:List Nat):Prop:=M=(ntOf vs ps n).over (cW ws) λm k=>(ntOf vs ps n).nd m k ∉ side
theorem zsl(ws:List Int):ws.sum=su (u4 ws.length) (cW ws):=by
 have:(u4 ws.length).map (cW ws)=ws:=by
  refine yC (by simp) λi h1 h2=>?_;rw[List.getElem_map,uaD];unfold cW;rw[v6,u6 h2];rfl
 unfold su;rw[this]
def zkc:DSp:=λds Q=>∃(vs:List Va)(ps:List Pi)(ws:List Int)(n:Nat),ds=[dY vs ps,.list (ws.map .int),.int (n:Int)]/\YOk vs ps ws/\n<=60/\(n+1) * vs.length<=61/\∀(M:Int)(f:Fm)(side:List Nat),Met vs ps ws n M f->Ovr vs ps ws n M side->Q (.tuple [.int M,.list ((zab ps n f.g n).map Le.d),.list (ptN vs ps n side)])
def zic:DSp:=λds Q=>∃(vs:List Va)(ps:List Pi)(ws:List Int)(n:Nat),ds=[dY vs ps,.list (ws.map .int),.int (n:Int)]/\YOk vs ps ws/\n<=60/\(n+1) * vs.length<=61/\∀(M:Int)(f:Fm)(side:List Nat),Met vs ps ws n M f->Ovr vs ps ws n M side->Q (.tuple [.str (if M=ws.sum then "plan" else "shut"),if M=ws.sum then .list ((zab ps n f.g n).map Le.d)else .list (ptN vs ps n side)])
section
variable {P:aN}{w:aQ}{K:Fg}{mg:Str->Option aC}{base:aT}
theorem zr9:FnScope ["yard", "count", "side", "within"] ["yard", "count", "side"] (zh0 ze3):=by walk_at"sc"
theorem zxe(M:Md K mg)(T:TopDef K "part_beyond" ze3)(uX:mg "dict"=none)(jE:mg "range"=none)(vK:Def P w K mg base "spot" 1 ["yard", "number"] (spD K zyu)):Def P w K mg base "part_beyond" 2 ["yard", "count", "side"] (spD K zn7):=by
 refine zi3 M T zr9 (by walk_at"h") (zwa (by walk_at"i")) (zg3 ?_);walk_at"g";have nd:=zr9.nd;refine⟨_,(dSeq (dSet 3 (cN (zay (dF (zbd (dIt (zm0 2)) 1 [] (gN 0) zmf (dTup (zk0 (dVar 0) (zk0 (dC (.bool true)) dNil))))))))
   (dRet (cF (zbd (zn81 (zk0 (dC (.int 2)) (zk0 (dVar 1) dNil))) 1 [0,3] (gN 0) (za2 (nIn true (dVar 0) (pVar 2))) (zd3 zyu (zk0 (dVar 1) (zk0 (dVar 0) dNil))))))),(zd0 (pset 3 nd (zk6 (zxm (K:=K) rfl rfl (Room.units hr)) rfl uX zo31 (za0 (zu4 (sc:=zh0 ze3) (N:=["yard", "count", "side", "within"]) (own:=["number"]) (ix:=[]) rfl rfl rfl (by walk_at"csc") (pi_W (K:=K) rfl (pv 2)) (λ_ _ _ _=>⟨(pgn 0 (nds ["number"])),zj3,(zo1 (za0 (pv 0) (za0 zls zg0)))⟩)) zg0)))
   (zj0 (zh1 (zu4 (sc:=zh0 ze3) (N:=["yard", "count", "side", "within"]) (own:=["number"]) (ix:=[0,3]) rfl rfl rfl (by walk_at"csc") (zyr rfl jE (za0 ze0 (za0 (pv 1) zg0))) (λ_ _ _ _=>⟨(pgn 0 (nds ["number", "yard", "within"])),(zng (zs0 (zif (w:=w) (K:=K) (Room.units hr) rfl rfl) (pv 0) (pv 2) (by with_unfolding_all rfl))),(zq0 vK (rmn hr) rfl (za0 (pv 1) (za0 (pv 0) zg0)))⟩))))),(zn0 (zf3 (RfN.c (zyv (RfF.e (zj2 (zct (zb0 2)) (zn1 (i:=0) (n:=1) (by decide)) zg4 (zs2 (zc0 (zi0 0) (zc0 zmq zo0))))))))
   (zm1 (RfF.c (zj2 (RfI.j (zv21 (zc0 zd1 (zc0 (zi0 1) zo0)))) (zn1 (i:=0) (n:=1) (by decide)) (zr0 (zbt (zi0 0) (zu0 2))) (zw0 (zc0 (zi0 1) (zc0 (zi0 0) zo0))))))),?_⟩
 rintro ds Qd ⟨vs,ps,n,side,rfl,h1,h2,n2,hn,hs,nds,q⟩;walk_at"ds";walk_at"a";refine zgk (λv=>.tuple [nI v,.bool true]) (by rw[aW];lia) (λv hv=>?_) ?_
 ·walk_at"cs";walk_at"dd"
 refine⟨side.map λv:Nat=>((.inl (v:Int),.bool true):Key×D),by rw[wD];rfl,by rw[u5];lia,hJ _ ?_⟩;clear hJ;have em:mD (side.map λv:Nat=>((.inl (v:Int),.bool true):Key×D))=side.map λv:Nat=>((.inl (v:Int),.bool true):Key×D):=by
  unfold mD;rw[zq91 (acc:=[])]
  ·rfl
  ·rw[k8,wD];exact List.pairwise_map.mpr (nds.imp λ{a b} q z=>q (by have z:(wU (a:Int):Key)=.inl (b:Int):=z;injection z with z;lia))
 rw[em];walk_at"dd";refine⟨⟨by lia,by lia⟩,?_⟩;unfold rngD;have e0:((n:Int) - 2).toNat=n - 2:=by lia
 rw[e0];refine zgz (xs:=u4 (n - 2)) (enc:=λk:Nat=>vQ (2+(k:Int))) (λk=>if 2+k∈side then none else some (.tuple [.int ((k / vs.length:Nat):Int),.int ((k % vs.length:Nat):Int)])) (by rw[aW,wE];lia) (λk hk=>?_) q;have e2:(2:Int)+(k:Int)=((2+k:Nat):Int):=by lia
 rw[e2];have eg:=zvr side (2+k);walk_at"cs";walk_at"dd";rw[eg];by_cases h:2+k∈side
 ·rw[aF h,bN h];simp
 ·rw[aA h,aY h];simp only[Bool.not_false,if_true,yB,if_false];refine⟨vs,_,2+k,rfl,h1,h2,?_⟩;walk_at"dd";rw[show((2+k:Nat):Int) - 2=(k:Int) by lia];rfl
theorem zpd:FnScope ["yard", "wants", "until", "told", "spare", "wanted", "found", "flow", "met"] ["yard", "wants", "until"] (zh0 zwc):=by walk_at"sc"
theorem zwk(M:Md K mg)(T:TopDef K "met_most" zwc)(jJ:mg "len"=none)(kJ:mg "sum"=none)(kE:DefN P w K mg base "greatest" 4 ["count", "arcs", "source", "sink", "flow"] (spD K zs5))(vN:Def P w K mg base "net" 6 ["yard", "wants", "until"] (spD K zk81))(uM:Def P w K mg base "plan_of" 2 ["yard", "until", "flow"] (spD K zue))(qM:Def P w K mg base "part_beyond" 2 ["yard", "count", "side"] (spD K zn7))(g_SOURCE:mg "SOURCE"=some gv_SOURCE)(r_SOURCE:RelV (.int 0) gv_SOURCE)(g_SINK:mg "SINK"=some gv_SINK)(r_SINK:RelV (.int 1) gv_SINK):Def P w K mg base "met_most" 7 ["yard", "wants", "until"] (spD K zkc):=by
 refine zi3 M T zpd (by walk_at"h") (zwa (by walk_at"i")) (zg3 ?_);walk_at"g";have nd:=zpd.nd;refine⟨_,(dSeq (dAsg (zd3 zk81 (zk0 (dVar 0) (zk0 (dVar 1) (zk0 (dVar 2) dNil)))) (gN 3))
   (dSeq (dAsg (dCB fLen (zk0 (dOp fIx (zm0 0) (dC (.int 0))) dNil)) (gN 4))
   (dSeq (dAsg (dSl (dOp fIx (zm0 3) (dC (.int 1))) zxc (zvx (dOp fSub (dCB fLen (zk0 (dOp fIx (zm0 3) (dC (.int 1))) dNil)) (zm0 4)))) (gN 5))
   (dSeq (dAsg (zqq zs5 (zk0 (dOp fIx (zm0 3) (dC (.int 0))) (zk0 (dVar 5) (zk0 (dC (.int 0)) (zk0 (dC (.int 1)) dNil))))) (gN 6))
   (dSeq (dAsg (dOp fIx (zd3 zs5 (zk0 (dOp fIx (zm0 3) (dC (.int 0))) (zk0 (dOp fIx (zm0 3) (dC (.int 1))) (zk0 (dC (.int 0)) (zk0 (dC (.int 1)) (zk0 (dOp fAdd (dOp fIx (zm0 6) (dC (.int 0))) (dF (dRep (dLst (zk0 (dC (.int 0)) dNil)) (dVar 4)))) dNil)))))) (dC (.int 0))) (gN 7))
   (dSeq (dAsg (dCB fSum (zk0 (dSl (dOp fIx (zm0 6) (dC (.int 0))) (zvx (dOp fSub (dCB fLen (zk0 (zm0 5) dNil)) (zm0 4))) zxc) dNil)) (gN 8))
   (dRet (cE (dTup (zk0 (dVar 8) (zk0 (zd3 zue (zk0 (dVar 0) (zk0 (dVar 2) (zk0 (dVar 7) dNil)))) (zk0 (zd3 zn7 (zk0 (dVar 0) (zk0 (dOp fIx (zm0 3) (dC (.int 0))) (zk0 (dOp fIx (zm0 6) (dC (.int 1))) dNil)))) dNil)))))))))))),(zd0 (pset 3 nd (zq0 vN (rmn hr) rfl (za0 (pv 0) (za0 (pv 1) (za0 (pv 2) zg0)))))
   (zd0 (pset 4 nd (zv0 (zi1 (K:=K) rfl) rfl jJ ze5 (za0 (pix w K hr (pv 0) ze0) zg0)))
   (zd0 (pset 5 nd (zrc (sl_W (K:=K) rfl) (pix w K hr (pv 3) ze0) zqd (zm9 (zk1 zj9 (zv0 (zi1 (K:=K) rfl) rfl jJ ze5 (za0 (pix w K hr (pv 3) ze0) zg0)) (pv 4)))))
   (zd0 (pset 6 nd (zbo kE (rmn hr) rfl (za0 (pix w K hr (pv 3) ze0) (za0 (pv 5) (za0 (zx6 rfl g_SOURCE r_SOURCE) (za0 (zx6 rfl g_SINK r_SINK) zg0))))))
   (zd0 (pset 7 nd (pix w K hr (zq0 kE.d (rmn hr) rfl (za0 (pix w K hr (pv 3) ze0) (za0 (pix w K hr (pv 3) ze0) (za0 (zx6 rfl g_SOURCE r_SOURCE) (za0 (zx6 rfl g_SINK r_SINK) (za0 (zk1 (zl1 (K:=K) rfl) (pix w K hr (pv 6) ze0) (zk1 zcc (zi2 (za0 ze0 zg0)) (pv 4))) zg0)))))) ze0))
   (zd0 (pset 8 nd (zv0 (zh8 (K:=K) rfl rfl) rfl kJ zsk (za0 (zrc (sl_W (K:=K) rfl) (pix w K hr (pv 6) ze0) (zm9 (zk1 zj9 (zv0 (zi1 (K:=K) rfl) rfl jJ ze5 (za0 (pv 5) zg0)) (pv 4))) zqd) zg0)))
   (zj0 (zh1 (zo1 (za0 (pv 8) (za0 (zq0 uM (rmn hr) rfl (za0 (pv 0) (za0 (pv 2) (za0 (pv 7) zg0)))) (za0 (zq0 qM (rmn hr) rfl (za0 (pv 0) (za0 (pix w K hr (pv 3) ze0) (za0 (pix w K hr (pv 6) ze0) zg0)))) zg0)))))))))))),(zn0 (zy0 (zw0 (zc0 (zi0 0) (zc0 (zi0 1) (zc0 (zi0 2) zo0)))) (rgn 3))
   (zn0 (zy0 (zu8 zid (zx0 (RfE.v (zl0 r_ix (zb0 0) rvi)) zp1)) (rgn 4))
   (zn0 (zy0 (zp31 (RfE.v (zl0 r_ix (zb0 3) rvi)) znd (zjc (zl0 zij (RfE.v (zu8 zid (zx0 (RfE.v (zl0 r_ix (zb0 3) rvi)) zp1))) (zb0 4)))) (rgn 5))
   (zn0 (zy0 (zfo (zc0 (zl0 r_ix (zb0 3) rvi) (zc0 (zi0 5) (zc0 zd1 (zc0 zd1 zo0))))) (rgn 6))
   (zn0 (zy0 (zl0 r_ix (RfE.v (zw0 (zc0 (zl0 r_ix (zb0 3) rvi) (zc0 (zl0 r_ix (zb0 3) rvi) (zc0 zd1 (zc0 zd1 (zc0 (zl0 zf8 (RfE.v (zl0 r_ix (zb0 6) rvi)) (RfE.v (RfF.e (zi41 (zb7 (zc0 zd1 zo0)) (zi0 4))))) zo0))))))) rvi) (rgn 7))
   (zn0 (zy0 (zu8 zpz (zx0 (RfE.v (zp31 (RfE.v (zl0 r_ix (zb0 6) rvi)) (zjc (zl0 zij (RfE.v (zu8 zid (zx0 (zb0 5) zp1))) (zb0 4))) znd)) zp1)) (rgn 8))
   (zm1 (RfE.c (zs2 (zc0 (zi0 8) (zc0 (zw0 (zc0 (zi0 0) (zc0 (zi0 2) (zc0 (zi0 7) zo0)))) (zc0 (zw0 (zc0 (zi0 0) (zc0 (zl0 r_ix (zb0 3) rvi) (zc0 (zl0 r_ix (zb0 6) rvi) zo0)))) zo0)))))))))))),?_⟩
 rintro ds Qd ⟨vs,ps,ws,n,rfl,y,hn,hN,q⟩;have hv:=y.n2;have hm:=y.m2;have hw:=y.lw;have ok:=y.ok (n:=n);have l2:=zdr vs ps ws n;have hlen:=zxw y hn;have ar:=y.ar (n:=n);have ec:=zdv vs ps ws n;have hc:(ntOf vs ps n).nd (n+1) 0=2+(n+1) * vs.length:=rfl;have hc2:=Nt.nd2 (T:=ntOf vs ps n) (n+1) 0;rw[ec]at hlen ar;rw[vR,l2]at hlen;walk_at"ds";walk_at"a";refine⟨vs,ps,ws,n,rfl,y,hn,hJ _ ?_⟩;clear hJ;rw[ec];unfold dY;walk_at"a";walk_at"k";rw[u5];walk_at"b";refine⟨_,rfl,_,rfl,?_⟩;walk_at"dd";rw[zqb,u5,vR,l2,show((((((ntOf vs ps n).arcs [cW ws]).length+vs.length:Nat)):Int) - (vs.length:Int))=((((ntOf vs ps n).arcs [cW ws]).length:Nat):Int) by lia,zbr,List.take_left];walk_at"b";refine⟨_,rfl,(ntOf vs ps n).nd (n+1) 0,(ntOf vs ps n).arcs [cW ws],0,1,.none,vV ((ntOf vs ps n).arcs [cW ws]).length 0,rfl,.inl ⟨rfl,rfl⟩,yK,by lia,by lia,λa ha=>⟨(ar a (xJ _ ha)).1,(ar a (xJ _ ha)).2.1⟩,λk a x h1 h2=>?_,by lia,by lia,by decide,λL side b=>hJ _ ?_⟩
 ·rw[xF]at h2;split at h2
  ·cases h2;exact⟨by lia,(ar a (xJ _ (wI h1))).2.2⟩
  ·cases h2
 clear hJ;have hbal:∀v,v≠0->v≠1->_5.bal ((ntOf vs ps n).arcs [cW ws]).length (zc7 ((ntOf vs ps n).arcs [cW ws])) L v=0:=λv h1 h2=>by rw[b.up.eqb v h1 h2];exact zep v
 obtain⟨f,fl,ef⟩:=Nt.best ok b hbal;obtain⟨t,ht⟩:∃t,f.t=[t]:=by
  have:=fl.t
  match hf:f.t,this with
 |[t],_=>exact⟨t,rfl⟩
 have val:=Nt.val ok b fl ef ht;have hsd:=zj1 _ side (ze6 b.ris) b.bd;have wi:=b.within;have lF:=Nt.len (T:=ntOf vs ps n) (cs:=[cW ws]) (f:=f) fl.t;have efl:(ntOf vs ps n).flow f=(ntOf vs ps n).flow ⟨f.a,f.r,f.g,[]⟩++(u4 vs.length).map t:=by
  unfold Nt.flow;rw[ht];simp only[wH,yD,wN,wC];rfl
 have lF2:((ntOf vs ps n).flow ⟨f.a,f.r,f.g,[]⟩).length+vs.length=((ntOf vs ps n).arcs [cW ws]).length:=by
  rw[<- lF,efl,vR,u5,wE]
 have eflow:(u4 ((ntOf vs ps n).arcs [cW ws]).length).map (λk=>vQ (lf L (2 * k+1)))=((ntOf vs ps n).flow f).map .int:=by rw[<- ef,wD];rfl
 have wi2:∀k,k < ((ntOf vs ps n).arcs [cW ws]).length->0<=fx ((ntOf vs ps n).flow f) k/\fx ((ntOf vs ps n).flow f) k<=zn9 ((ntOf vs ps n).arcs [cW ws]) k:=λk hk=>by
  have:=wi k hk;rw[<- ef,zfl hk];exact this
 rw[eflow];have e0:(vV ((vs.length:Int)).toNat [vQ 0]).flatten=(vV vs.length (0:Int)).map vQ:=by
  rw[vZ,uaX,uaY]
 walk_at"a";rw[e0];refine⟨_,rfl,_,rfl,_,rfl,by lia,by lia,by lia,?_⟩;walk_at"dd";rw[<- v9];refine⟨by rw[u5,u5,yK];lia,(ntOf vs ps n).nd (n+1) 0,(ntOf vs ps n).arcs [cW ws]++ztw vs ps ws n,0,1,_,_,rfl,.inr rfl,by rw[vR,vR,yK,lF,l2],by lia,by rw[vR];lia,λa ha=>⟨(ar a ha).1,(ar a ha).2.1⟩,λk a x h1 h2=>?_,by lia,by lia,by decide,λM side2 b2=>?_⟩
 ·by_cases hk:k < ((ntOf vs ps n).arcs [cW ws]).length
  ·rw[wO hk]at h1;rw[wO (by lia)]at h2;have:=wi2 k hk;have em:zn9 ((ntOf vs ps n).arcs [cW ws]) k=a.2.2:=by unfold zn9;rw[h1];rfl
   rw[em]at this;unfold fx at this;rw[h2]at this;exact this
  ·have ha:=(ar a (wI h1)).2.2;rw[wL (by lia),xF]at h2;split at h2
   ·cases h2;exact⟨by lia,ha⟩
   ·cases h2
 walk_at"dd";have hf:∀k,k < (ntOf vs ps n).N->0<=(ntOf vs ps n).fl k/\(ntOf vs ps n).fl k<=(ntOf vs ps n).rm k/\0<=cW ws k/\0<=cR vs ws k/\(ntOf vs ps n).fl k<=cW ws k+cR vs ws k:=λk hk=>by
  have h4:=y.fl (n:=n) hk;have e:cR vs ws k=(ntOf vs ps n).rm k - cW ws k:=rfl;lia
 have hwd:∀m i,m < (ntOf vs ps n).n->i∈(ntOf vs ps n).P m->0<=(ntOf vs ps n).W i m:=λm i _ hi=>by
  have hi2:i < ps.length:=by
   have hi3:i∈pbJ ps m n ps.length:=by rw[zhe];exact hi
   exact((zcj ps m n _ (u7 _)).2 i hi3).1
  show 0<=zj8 ps i m;unfold zj8;rw[u6 hi2];exact(y.pb _ (w6 hi2)).2.2.2.2.2 m
 have b3:Best ((ntOf vs ps n).nd (n+1) 0) ((ntOf vs ps n).arcs [cW ws,cR vs ws]) ((ntOf vs ps n).flow f++vV (ntOf vs ps n).N 0) 0 1 M side2:=by
  rw[show(ntOf vs ps n).arcs [cW ws,cR vs ws]=(ntOf vs ps n).arcs [cW ws]++ztw vs ps ws n from ec];exact b2
 obtain⟨f2,t2,s2,fl2,e2,src,ht2,wn⟩:=Nt.again ok fl ht hf hwd b3;have met:Met vs ps ws n (su (u4 (ntOf vs ps n).N) t) f2:=⟨val,fl2,src,λz=>⟨t2,s2,ht2,λk hk=>by
  rw[zsl,hw]at z;have:=zjn (a:=t) (b:=cW ws) (λk hk=>(fl.s (cW ws,t) (by rw[ht];simp) k (u9.mp hk)).2) (Int.le_of_eq z.symm) k (u9.mpr hk);rw[<- this];exact wn k hk⟩⟩
 have ovr:Ovr vs ps ws n (su (u4 (ntOf vs ps n).N) t) side:=by
  have ex:∀k,k < ((ntOf vs ps n).arcs [cW ws]).length->lf L (2 * k+1)=fx ((ntOf vs ps n).flow f) k:=λk hk=>by rw[<- ef,zfl hk]
  exact Nt.cut ok fl ht (λk hk=>by rw[<- ex k hk];exact b.tight k hk) b.inn b.out b.bd (ze6 b.ris)
 have e2':(u4 ((ntOf vs ps n).arcs [cW ws]++ztw vs ps ws n).length).map (λk=>vQ (lf M (2 * k+1)))=((ntOf vs ps n).flow f2).map .int:=by
  rw[<- e2,wD,show(ntOf vs ps n).arcs [cW ws,cR vs ws]=(ntOf vs ps n).arcs [cW ws]++ztw vs ps ws n from ec];rfl
 rw[e2'];refine⟨_,rfl,hJ _ ?_⟩;walk_at"c";walk_at"k";rw[zqb,u5,show(((((ntOf vs ps n).arcs [cW ws]).length:Nat):Int) - (vs.length:Int))=((((ntOf vs ps n).flow ⟨f.a,f.r,f.g,[]⟩).length:Nat):Int) by lia,zvi,efl,List.drop_left];refine⟨_,ints_map _,hJ _ ?_⟩;clear hJ;walk_at"dd";have eG:(ntOf vs ps n).flow f2=zqc ps n ((u4 vs.length).map f2.a) (λm=>(u4 vs.length).map (f2.r m)) f2.g n++f2.t.flatMap λt=>(u4 vs.length).map t:=by
  unfold Nt.flow zqc blk;rw[List.flatMap_def];rfl
 refine⟨vs,ps,n,(u4 vs.length).map f2.a,f2.t.flatMap λt=>(u4 vs.length).map t,λm=>(u4 vs.length).map (f2.r m),f2.g,by rw[eG],by lia,by lia,by lia,by simp,λm _=>by simp,?_⟩;refine⟨_,rfl,_,rfl,vs,ps,(ntOf vs ps n).nd (n+1) 0,side,rfl,y.n1,by lia,by lia,by lia,by lia,ze6 b.ris,?_⟩;exact q _ f2 side met ovr
theorem zsj:FnScope ["yard", "wants", "until", "found"] ["yard", "wants", "until"] (zh0 zxh):=by walk_at"sc"
theorem zmr(M:Md K mg)(T:TopDef K "met_at" zxh)(kJ:mg "sum"=none)(uE:Def P w K mg base "met_most" 7 ["yard", "wants", "until"] (spD K zkc)):Def P w K mg base "met_at" 8 ["yard", "wants", "until"] (spD K zic):=by
 refine zi3 M T zsj (by walk_at"h") (zwa (by walk_at"i")) (zg3 ?_);walk_at"g";have nd:=zsj.nd;refine⟨_,(dSeq (dAsg (zd3 zkc (zk0 (dVar 0) (zk0 (dVar 1) (zk0 (dVar 2) dNil)))) (gN 3))
   (dSeq (dIf (za2 (dOp fEq (dOp fIx (zm0 3) (dC (.int 0))) (dCB fSum (zk0 (zm0 1) dNil)))) (dRet (cE (dTup (zk0 (dC (.str "plan")) (zk0 (dOp fIx (zm0 3) (dC (.int 1))) dNil))))) zz5)
   (dRet (cE (dTup (zk0 (dC (.str "shut")) (zk0 (dOp fIx (zm0 3) (dC (.int 2))) dNil))))))),(zd0 (pset 3 nd (zq0 uE (rmn hr) rfl (za0 (pv 0) (za0 (pv 1) (za0 (pv 2) zg0)))))
   (zd0 (zn5 (zs0 (zz2 (K:=K) rfl (Room.units hr)) (pix w K hr (pv 3) ze0) (zv0 (zh8 (K:=K) rfl rfl) rfl kJ zsk (za0 (pv 1) zg0)) (zz0 _)) (zj0 (zh1 (zo1 (za0 zz6 (za0 (pix w K hr (pv 3) ze0) zg0))))) zg1)
   (zj0 (zh1 (zo1 (za0 zz6 (za0 (pix w K hr (pv 3) ze0) zg0))))))),(zn0 (zy0 (zw0 (zc0 (zi0 0) (zc0 (zi0 1) (zc0 (zi0 2) zo0)))) (rgn 3))
   (zn0 (zm5 (zr0 (zv1 q_eq (RfV.h (RfE.v (zl0 r_ix (zb0 3) rvi))) (RfV.h (RfE.v (zu8 zpz (zx0 (zb0 1) zp1)))))) (zm1 (RfE.c (zs2 (zc0 za7 (zc0 (zl0 r_ix (zb0 3) rvi) zo0))))) zf1)
   (zm1 (RfE.c (zs2 (zc0 za7 (zc0 (zl0 r_ix (zb0 3) rvi) zo0))))))),?_⟩
 rintro ds Qd ⟨vs,ps,ws,n,rfl,y,hn,hN,q⟩;walk_at"ds";walk_at"a";refine⟨vs,ps,ws,n,rfl,y,hn,hN,λM f side met ovr=>hJ _ ?_⟩;clear hJ;have qq:=q M f side met ovr;walk_at"a";refine⟨_,rfl,ws,ints_map ws,?_⟩;walk_at"dd";refine two (λz=>⟨_,rfl,by rw[aF z,aF z]at qq;exact qq⟩) λz=>hJ _ ?_;clear hJ;walk_at"dd";exact⟨_,rfl,by rw[aA z,aA z]at qq;exact qq⟩
end
structure Pp where
 u:Nat
 v:Nat
 a:D
 b:D
 c:D
def Pp.d(p:Pp):D:=.tuple [nI p.u,nI p.v,p.a,p.b,p.c]
def tY(vs:List Va)(ps:List Pp)(ws:List Int):List Ar:=tA (vs.map Va.fill) (ps.map λp=>(p.u,p.v)) ws ((vs.map Va.fill).sum+1)
def IsCut(vs:List Va)(ps:List Pp)(ws:List Int)(r:D):Prop:=∃(L:List Int)(side:List Nat),Best (2+vs.length) (tY vs ps ws) (vV (tY vs ps ws).length 0) 0 1 L side /\
 r=if - bl (tY vs ps ws).length (aU (tY vs ps ws)) (aV (tY vs ps ws)) (λk=>lf L (2 * k+1)) 0=ws.sum then .none else .list (((u4 vs.length).filter λv=>decide (2+v ∉ side)).map nI)
structure ZOk(vs:List Va)(ps:List Pp)(ws:List Int):Prop where
 n1:1<=vs.length
 n2:vs.length<=12
 m2:ps.length<=24
 lw:ws.length=vs.length
 vf:∀v∈vs,0<=v.fill/\v.fill<=v.room
 wr:∀(k:Nat) v y,vs[k]?=some v->ws[k]?=some y->0<=y/\y<=v.room
 pb:∀p∈ps,p.u < vs.length/\p.v < vs.length
section
variable {vs:List Va}{ps:List Pp}{ws:List Int}
theorem zqy{A:List Ar}{s t:Nat}(b:Best n A (vV A.length 0) s t L side):∀v,v≠s->v≠t->bal A.length (zc7 A) L v=0:=λv h1 h2=>by rw[b.up.eqb v h1 h2];exact zep v
theorem ZOk.cut(y:ZOk vs ps ws)(b:Best n (tY vs ps ws) (vV (tY vs ps ws).length 0) 0 1 L side):Cut (vs.map Va.fill) (ps.map λp=>(p.u,p.v)) ws ((vs.map Va.fill).sum+1) (λk=>lf L (2 * k+1)):=by
 refine⟨by rw[u5];exact y.lw,λp hp=>?_,b.within,λw h1 h2=>?_⟩
 ·obtain⟨q,hq,rfl⟩:=vU.mp hp;rw[u5];exact y.pb q hq
 ·have:=zqy b w h1 h2;rw[znr]at this;exact this
theorem ZOk.fill(y:ZOk vs ps ws):∀x∈vs.map Va.fill,0<=x:=λx hx=>by
 obtain⟨v,hv,rfl⟩:=vU.mp hx;exact(y.vf v hv).1
theorem ZOk.wn(y:ZOk vs ps ws):∀x∈ws,0<=x:=λx hx=>by
 obtain⟨k,hk,rfl⟩:=uaC hx;have hl:=y.lw;exact(y.wr k vs[k] _ (u6 (by lia)) (u6 hk)).1
theorem zn01:∀{l:List Int},(∀x∈l,0<=x)->0<=l.sum
|[],_=>by simp
|x :: r,h=>by have:=zn01 (l:=r) λy hy=>h y (by simp[hy]);have:=h x (by simp);rw[xS];lia
theorem ZOk.ar(y:ZOk vs ps ws):∀a∈tY vs ps ws,a.1 < 2+vs.length/\a.2.1 < 2+vs.length/\0<=a.2.2:=λa ha=>by
 have hl:=y.lw;have h1:=y.n1;unfold tY tA at ha;rcases vS.mp ha with ha|ha
 ·rcases vS.mp ha with ha|ha
  ·obtain⟨i,hi,rfl⟩:=vU.mp ha;rw[u9,u5]at hi;exact⟨by show 0 < _;lia,by show 2+i < _;lia,zmz y.fill i⟩
  ·obtain⟨p,hp,rfl⟩:=vU.mp ha;obtain⟨q,hq,rfl⟩:=vU.mp hp;have:=y.pb q hq;have:=zn01 y.fill;exact⟨by show 2+q.u < _;lia,by show 2+q.v < _;lia,by show 0<=(vs.map Va.fill).sum+1;lia⟩
 ·obtain⟨i,hi,rfl⟩:=vU.mp ha;rw[u9]at hi;exact⟨by show 2+i < _;lia,by show 1 < _;lia,zmz y.wn i⟩
theorem IsCut.some{r:D}(y:ZOk vs ps ws)(h:IsCut vs ps ws r):(r=.none/\∀S:List Nat,S.Nodup->(∀v∈S,v < vs.length)->(∀p∈ps,p.v∈S->p.u∈S)->(S.map λv=>fx ws v - fx (vs.map Va.fill) v).sum<=0) \/
  ∃l:List Nat,r=.list (l.map nI)/\l≠[]/\l.Pairwise (· < ·)/\(∀v∈l,v < vs.length)/\(∀p∈ps,p.v∈l->p.u∈l)/\0 < (l.map λv=>fx ws v - fx (vs.map Va.fill) v).sum:=by
 obtain⟨L,side,b,rfl⟩:=h;have c:=y.cut b;have hl:(vs.map Va.fill).length=vs.length:=u5 _;split
 ·rename_i e
  refine .inl ⟨rfl,λS nd hb cl=>c.short e nd (by rw[hl];exact hb) λp hp hv=>?_⟩;obtain⟨q,hq,rfl⟩:=vU.mp hp;exact cl q hq hv
 ·rename_i ne
  obtain⟨k1,k2⟩:=c.beyond (by lia) b.tight b.inn b.out (ze6 b.ris);have k2:=k2 ne;rw[hl]at k2;refine .inr ⟨_,rfl,λz=>?_,List.pairwise_lt_range.filter _,λv hv=>u9.mp (yG.mp hv).1,λp hp hv=>?_,k2⟩
  ·rw[z]at k2;simp at k2
  ·obtain⟨_,h2⟩:=yG.mp hv;have h2:=dL h2;exact yG.mpr ⟨u9.mpr (y.pb p hp).1,bN λh=>h2 (k1 (p.u,p.v) (vU.mpr ⟨p,hp,rfl⟩) h)⟩
end
theorem znm{p:Nat->Prop}[DecidablePred p]:∀l:List Nat,l.filterMap (λk=>if p k then some (nI k)else none)=(l.filter λk=>decide (p k)).map nI
|[]=>rfl
|k :: r=>by
  rw[xB,List.filter_cons,znm r];by_cases h:p k <;> simp[h]
def zjm:DSp:=λds Q=>∃(A:List Ar)(L:List Int)(src:Nat),ds=[.list (A.map dAr),.list ((u4 A.length).map λk=>.int (lf L (2 * k+1))),nI src]/\A.length<=300/\Q (.int (- bl A.length (aU A) (aV A) (λk=>lf L (2 * k+1)) src))
def zoc:DSp:=λds Q=>∃(vs:List Va)(ps:List Pp)(ws:List Int),ds=[.tuple [.list (vs.map Va.d),.list (ps.map Pp.d)],.list (ws.map .int)]/\ZOk vs ps ws/\Q (.tuple [nI (2+vs.length),.list ((tY vs ps ws).map dAr)])
def zgf:DSp:=λds Q=>∃(vs:List Va)(ps:List Pp)(ws:List Int),ds=[.tuple [.list (vs.map Va.d),.list (ps.map Pp.d)],.list (ws.map .int)]/\ZOk vs ps ws/\∀r,IsCut vs ps ws r->Q r
section
variable {P:aN}{w:aQ}{K:Fg}{mg:Str->Option aC}{base:aT}
theorem zol:FnScope ["arcs", "flow", "source", "gone", "come"] ["arcs", "flow", "source"] (zh0 zcg):=by walk_at"sc"
theorem zfw(M:Md K mg)(T:TopDef K "worth" zcg)(kJ:mg "sum"=none)(vA:mg "zip"=none):Def P w K mg base "worth" 1 ["arcs", "flow", "source"] (spD K zjm):=by
 refine zi3 M T zol (by walk_at"h") (zwa (by walk_at"i")) (zg3 ?_);walk_at"g";have nd:=zol.nd;refine⟨_,(dSeq (dAsg (dCB fSum (zk0 (dF (zbd (dZip (zk0 (zm0 0) (zk0 (zm0 1) dNil))) 2 [2] (gT 2 (zf5 (gN 0) (zf5 (gN 1) znl))) (za2 (dOp fEq (dOp fIx (zm0 0) (dC (.int 0))) (zm0 2))) (dVar 1))) dNil)) (gN 3))
   (dSeq (dAsg (dCB fSum (zk0 (dF (zbd (dZip (zk0 (zm0 0) (zk0 (zm0 1) dNil))) 2 [2] (gT 2 (zf5 (gN 0) (zf5 (gN 1) znl))) (za2 (dOp fEq (dOp fIx (zm0 0) (dC (.int 1))) (zm0 2))) (dVar 1))) dNil)) (gN 4))
   (dRet (cE (dOp fSub (zm0 3) (zm0 4)))))),(zd0 (pset 3 nd (zv0 (zh8 (K:=K) rfl rfl) rfl kJ zsk (za0 (zu4 (sc:=zh0 zcg) (N:=["arcs", "flow", "source", "gone", "come"]) (own:=["arc", "amount"]) (ix:=[2]) rfl rfl rfl (by walk_at"csc") (zo01 (K:=K) rfl rfl vA (za0 (pv 0) (za0 (pv 1) zg0))) (λ_ _ _ _=>⟨(zl8 (K:=K) (n:=2) rfl rfl (zs1 (pgn 0 (nds ["arc", "amount", "source"])) (zs1 (pgn 1 (nds ["arc", "amount", "source"])) zn8))),(zng (zs0 (zz2 (K:=K) rfl (Room.units hr)) (pix w K hr (pv 0) ze0) (pv 2) (zz0 _))),(pv 1)⟩)) zg0)))
   (zd0 (pset 4 nd (zv0 (zh8 (K:=K) rfl rfl) rfl kJ zsk (za0 (zu4 (sc:=zh0 zcg) (N:=["arcs", "flow", "source", "gone", "come"]) (own:=["arc", "amount"]) (ix:=[2]) rfl rfl rfl (by walk_at"csc") (zo01 (K:=K) rfl rfl vA (za0 (pv 0) (za0 (pv 1) zg0))) (λ_ _ _ _=>⟨(zl8 (K:=K) (n:=2) rfl rfl (zs1 (pgn 0 (nds ["arc", "amount", "source"])) (zs1 (pgn 1 (nds ["arc", "amount", "source"])) zn8))),(zng (zs0 (zz2 (K:=K) rfl (Room.units hr)) (pix w K hr (pv 0) ze0) (pv 2) (zz0 _))),(pv 1)⟩)) zg0)))
   (zj0 (zh1 (zk1 zj9 (pv 3) (pv 4)))))),(zn0 (zy0 (zu8 zpz (zx0 (RfE.v (RfF.e (zj2 (zo41 (zx0 (zb0 0) (zx0 (zb0 1) zp1))) (zgd (zr1 (zn1 (i:=0) (n:=2) (by decide)) (zr1 (zn1 (i:=1) (n:=2) (by decide)) zq8))) (zr0 (zv1 q_eq (RfV.h (RfE.v (zl0 r_ix (zb0 0) rvi))) (RfV.h (zb0 2)))) (zi0 1)))) zp1)) (rgn 3))
   (zn0 (zy0 (zu8 zpz (zx0 (RfE.v (RfF.e (zj2 (zo41 (zx0 (zb0 0) (zx0 (zb0 1) zp1))) (zgd (zr1 (zn1 (i:=0) (n:=2) (by decide)) (zr1 (zn1 (i:=1) (n:=2) (by decide)) zq8))) (zr0 (zv1 q_eq (RfV.h (RfE.v (zl0 r_ix (zb0 0) rvi))) (RfV.h (zb0 2)))) (zi0 1)))) zp1)) (rgn 4))
   (zm1 (RfE.c (zl0 zij (zb0 3) (zb0 4)))))),?_⟩
 rintro ds Qd ⟨A,L,src,rfl,hA,q⟩;walk_at"ds";obtain⟨x1,g1,s1⟩:=zao (λk=>aU A k=src) (λk=>lf L (2 * k+1)) (u4 A.length);obtain⟨x2,g2,s2⟩:=zao (λk=>aV A k=src) (λk=>lf L (2 * k+1)) (u4 A.length);rw[ziu]at q;have ez:zipD (A.map dAr) ((u4 A.length).map λk=>vQ (lf L (2 * k+1)))=(u4 A.length).map λk=>.tuple [.tuple [nI (aU A k),nI (aV A k),.int (zn9 A k)],.int (lf L (2 * k+1))]:=by
  rw[show((u4 A.length).map λk=>vQ (lf L (2 * k+1)))=((u4 A.length).map λk=>lf L (2 * k+1)).map vQ by rw[wD];rfl,zgv,zwn (by simp),wD];refine x6 λk hk=>?_;have:fx ((u4 A.length).map λk=>lf L (2 * k+1)) k=lf L (2 * k+1):=by
   unfold fx;rw[u8,xA (u9.mp hk)];rfl
  show PyData.tuple [_,vQ (fx _ k)]=_;rw[this];rfl
 walk_at"a";rw[ez];refine zgz (λk=>if aU A k=src then some (.int (lf L (2 * k+1)))else none) (by rw[aW];simp;lia) (λk hk=>?_) ?_
 ·walk_at"cs";walk_at"dd";walk_at"k";exact two (λh=>by rw[aF (by lia)]) λh=>by rw[aA (by lia)]
 rw[g1];walk_at"dd";walk_at"b";rw[ez];refine zgz (λk=>if aV A k=src then some (.int (lf L (2 * k+1)))else none) (by rw[aW];simp;lia) (λk hk=>?_) ?_
 ·walk_at"cs";walk_at"dd";walk_at"k";exact two (λh=>by rw[aF (by lia)]) λh=>by rw[aA (by lia)]
 rw[g2];walk_at"dd";walk_at"f";walk_at"dd";rw[s1,s2];unfold sm at q;rw[Int.neg_sub]at q;exact q
theorem zkd:FnScope ["yard", "wants", "wide", "arcs"] ["yard", "wants"] (zh0 zb4):=by walk_at"sc"
theorem zil(M:Md K mg)(T:TopDef K "timeless" zb4)(jG:mg "enumerate"=none)(kJ:mg "sum"=none)(jQ:Def P w K mg base "node" 1 ["yard", "moment", "vat"] (spD K zq6))(g_SOURCE:mg "SOURCE"=some gv_SOURCE)(r_SOURCE:RelV (.int 0) gv_SOURCE)(g_SINK:mg "SINK"=some gv_SINK)(r_SINK:RelV (.int 1) gv_SINK):Def P w K mg base "timeless" 2 ["yard", "wants"] (spD K zoc):=by
 refine zi3 M T zkd (by walk_at"h") (zwa (by walk_at"i")) (zg3 ?_);walk_at"g";have nd:=zkd.nd;refine⟨_,(dSeq (dAsg (dOp fAdd (dCB fSum (zk0 (dF (zbd (dIt (dOp fIx (zm0 0) (dC (.int 0)))) 1 [] (gN 0) zmf (dOp fIx (zm0 0) (dC (.int 2))))) dNil)) (dC (.int 1))) (gN 2))
   (dSeq (dSet 3 (cF (zbd (zyp (zk0 (dOp fIx (zm0 0) (dC (.int 0))) dNil)) 2 [0] (gT 2 (zf5 (gN 0) (zf5 (gN 1) znl))) zmf (dTup (zk0 (dC (.int 0)) (zk0 (zd3 zq6 (zk0 (dVar 2) (zk0 (dC (.int 0)) (zk0 (dVar 0) dNil)))) (zk0 (dOp fIx (zm0 1) (dC (.int 2))) dNil)))))))
   (dSeq (zjh (cBM "list" mExt (pVar 3) (zk0 (dF (zbd (dIt (dOp fIx (zm0 0) (dC (.int 1)))) 1 [2,0] (gN 0) zmf (dTup (zk0 (zd3 zq6 (zk0 (dVar 2) (zk0 (dC (.int 0)) (zk0 (dOp fIx (zm0 0) (dC (.int 0))) dNil)))) (zk0 (zd3 zq6 (zk0 (dVar 2) (zk0 (dC (.int 0)) (zk0 (dOp fIx (zm0 0) (dC (.int 1))) dNil)))) (zk0 (dVar 1) dNil)))))) dNil)))
   (dSeq (zjh (cBM "list" mExt (pVar 3) (zk0 (dF (zbd (zyp (zk0 (zm0 1) dNil)) 2 [0] (gT 2 (zf5 (gN 0) (zf5 (gN 1) znl))) zmf (dTup (zk0 (zd3 zq6 (zk0 (dVar 2) (zk0 (dC (.int 0)) (zk0 (dVar 0) dNil)))) (zk0 (dC (.int 1)) (zk0 (dVar 1) dNil)))))) dNil)))
   (dFrz 3 [] (dRet (cE (dTup (zk0 (zd3 zq6 (zk0 (dVar 0) (zk0 (dC (.int 1)) (zk0 (dC (.int 0)) dNil)))) (zk0 (dVar 3) dNil)))))))))),(zd0 (pset 2 nd (zk1 (zl1 (K:=K) rfl) (zv0 (zh8 (K:=K) rfl rfl) rfl kJ zsk (za0 (zu4 (sc:=zh0 zb4) (N:=["yard", "wants", "wide", "arcs"]) (own:=["vat"]) (ix:=[]) rfl rfl rfl (by walk_at"csc") (pi_W (K:=K) rfl (pix w K hr (pv 0) ze0)) (λ_ _ _ _=>⟨(pgn 0 (nds ["vat"])),zj3,(pix w K hr (pv 0) ze0)⟩)) zg0)) ze0))
   (zd0 (zh3 (i:=3) (sc:=zh0 zb4) (N:=["yard", "wants", "wide", "arcs"]) (own:=["vat", "told"]) (ix:=[0]) rfl rfl rfl (by walk_at"csc") nd rfl rfl (zua (K:=K) rfl rfl jG (za0 (pix w K hr (pv 0) ze0) zg0)) (λ_ _ _ _=>⟨(zl8 (K:=K) (n:=2) rfl rfl (zs1 (pgn 0 (nds ["vat", "told", "yard"])) (zs1 (pgn 1 (nds ["vat", "told", "yard"])) zn8))),zj3,(zo1 (za0 (zx6 rfl g_SOURCE r_SOURCE) (za0 (zq0 jQ (rmn hr) rfl (za0 (pv 2) (za0 ze0 (za0 (pv 0) zg0)))) (za0 (pix w K hr (pv 1) ze0) zg0))))⟩))
   (zd0 (zf2 (zk8 (K:=K) rfl ğa ğd ğe (zw5 (K:=K) rfl) (pv 3) (za0 (zu4 (sc:=zh0 zb4) (N:=["yard", "wants", "wide", "arcs"]) (own:=["pipe"]) (ix:=[2,0]) rfl rfl rfl (by walk_at"csc") (pi_W (K:=K) rfl (pix w K hr (pv 0) ze0)) (λ_ _ _ _=>⟨(pgn 0 (nds ["pipe", "wide", "yard"])),zj3,(zo1 (za0 (zq0 jQ (rmn hr) rfl (za0 (pv 2) (za0 ze0 (za0 (pix w K hr (pv 0) ze0) zg0)))) (za0 (zq0 jQ (rmn hr) rfl (za0 (pv 2) (za0 ze0 (za0 (pix w K hr (pv 0) ze0) zg0)))) (za0 (pv 1) zg0))))⟩)) zg0)))
   (zd0 (zf2 (zk8 (K:=K) rfl ğa ğd ğe (zw5 (K:=K) rfl) (pv 3) (za0 (zu4 (sc:=zh0 zb4) (N:=["yard", "wants", "wide", "arcs"]) (own:=["vat", "want"]) (ix:=[0]) rfl rfl rfl (by walk_at"csc") (zua (K:=K) rfl rfl jG (za0 (pv 1) zg0)) (λ_ _ _ _=>⟨(zl8 (K:=K) (n:=2) rfl rfl (zs1 (pgn 0 (nds ["vat", "want", "yard"])) (zs1 (pgn 1 (nds ["vat", "want", "yard"])) zn8))),zj3,(zo1 (za0 (zq0 jQ (rmn hr) rfl (za0 (pv 2) (za0 ze0 (za0 (pv 0) zg0)))) (za0 (zx6 rfl g_SINK r_SINK) (za0 (pv 1) zg0))))⟩)) zg0)))
   (zj0 (zh1 (zo1 (za0 (zq0 jQ (rmn hr) rfl (za0 (pv 0) (za0 ze0 (za0 ze0 zg0)))) (za0 (pv 3) zg0))))))))),(zn0 (zy0 (zl0 zf8 (RfE.v (zu8 zpz (zx0 (RfE.v (RfF.e (zj2 (zct (RfE.v (zl0 r_ix (zb0 0) rvi))) (zn1 (i:=0) (n:=1) (by decide)) zg4 (zl0 r_ix (zb0 0) rvi)))) zp1))) rvi) (rgn 2))
   (zn0 (zf3 (RfF.c (zj2 (zae (zx0 (RfE.v (zl0 r_ix (zb0 0) rvi)) zp1)) (zgd (zr1 (zn1 (i:=0) (n:=2) (by decide)) (zr1 (zn1 (i:=1) (n:=2) (by decide)) zq8))) zg4 (zs2 (zc0 zd1 (zc0 (zw0 (zc0 (zi0 2) (zc0 zd1 (zc0 (zi0 0) zo0)))) (zc0 (zl0 r_ix (zb0 1) rvi) zo0)))))))
   (zn0 (zh2 (zkh zvk (zu0 3) (zc0 (RfF.e (zj2 (zct (RfE.v (zl0 r_ix (zb0 0) rvi))) (zn1 (i:=0) (n:=1) (by decide)) zg4 (zs2 (zc0 (zw0 (zc0 (zi0 2) (zc0 zd1 (zc0 (zl0 r_ix (zb0 0) rvi) zo0)))) (zc0 (zw0 (zc0 (zi0 2) (zc0 zd1 (zc0 (zl0 r_ix (zb0 0) rvi) zo0)))) (zc0 (zi0 1) zo0)))))) zo0)))
   (zn0 (zh2 (zkh zvk (zu0 3) (zc0 (RfF.e (zj2 (zae (zx0 (zb0 1) zp1)) (zgd (zr1 (zn1 (i:=0) (n:=2) (by decide)) (zr1 (zn1 (i:=1) (n:=2) (by decide)) zq8))) zg4 (zs2 (zc0 (zw0 (zc0 (zi0 2) (zc0 zd1 (zc0 (zi0 0) zo0)))) (zc0 zd1 (zc0 (zi0 1) zo0)))))) zo0)))
   (zgb 3 [] (zm1 (RfE.c (zs2 (zc0 (zw0 (zc0 (zi0 0) (zc0 zd1 (zc0 zd1 zo0)))) (zc0 (zi0 3) zo0)))))))))),?_⟩
 rintro ds Qd ⟨vs,ps,ws,rfl,y,q⟩;have hn:=y.n2;have hm:=y.m2;have hw:=y.lw;walk_at"ds";walk_at"a";walk_at"k";refine zgk (λv=>.int v.fill) (by rw[aW];lia) (λv hv=>?_) ?_
 ·unfold Va.d;walk_at"cs";walk_at"dd";exact⟨_,rfl,rfl⟩
 have ei:zcq (vs.map λv=>vQ v.fill)=some (vs.map Va.fill):=by
  rw[show(vs.map λv=>vQ v.fill)=(vs.map Va.fill).map vQ by rw[wD];rfl];exact ints_map _
 rw[ei];walk_at"dd";walk_at"b";walk_at"k";rw[zm6];refine zgk (λp=>dAr (0,2+p.1,p.2.fill)) (by rw[aW,yQ];lia) (λp hp=>?_) ?_
 ·obtain⟨i,v⟩:=p;unfold Va.d;walk_at"cs";walk_at"dd";exact⟨vs,_,0,i,rfl,by lia,by lia,_,rfl,by simp[dAr,nI]⟩
 walk_at"f";have e1:(vs.mapIdx λi x=>(i,x)).map (λp=>dAr (0,2+p.1,p.2.fill))=((u4 (vs.map Va.fill).length).map λi=>((0,2+i,fx (vs.map Va.fill) i):Ar)).map dAr:=by
  rw[wD,u5];apply xZ;intro j;rw[u8,u8,xN];by_cases h:j < vs.length
  ·rw[xA h,u6 h];show some (dAr (0,2+j,vs[j].fill))=some (dAr (0,2+j,fx (vs.map Va.fill) j));unfold fx;rw[u8,u6 h];rfl
  ·rw[wA (by lia),wA (by simpa using h)];rfl
 rw[e1];walk_at"a";walk_at"k";refine zgk (λp=>dAr (2+p.u,2+p.v,(vs.map Va.fill).sum+1)) (by rw[aW];lia) (λp hp=>?_) ?_
 ·unfold Pp.d;walk_at"cs";walk_at"dd";exact⟨_,rfl,vs,_,0,p.u,rfl,by lia,by lia,_,rfl,vs,_,0,p.v,rfl,by lia,by lia,by simp[dAr,nI]⟩
 refine⟨by simp;lia,hJ _ ?_⟩;clear hJ;have e2:ps.map (λp=>dAr (2+p.u,2+p.v,(vs.map Va.fill).sum+1))=((ps.map λp=>(p.u,p.v)).map λp=>((2+p.1,2+p.2,(vs.map Va.fill).sum+1):Ar)).map dAr:=by
  rw[wD,wD];rfl
 rw[e2,<- v9];walk_at"a";rw[zm6];refine zgk (λp=>dAr (2+p.1,1,p.2)) (by rw[aW,yQ];lia) (λp hp=>?_) ?_
 ·obtain⟨i,x⟩:=p;walk_at"cs";walk_at"dd";exact⟨vs,_,0,i,rfl,by lia,by lia,by simp[dAr,nI]⟩
 refine⟨by simp;lia,hJ _ ?_⟩;clear hJ;have e3:(ws.mapIdx λi x=>(i,x)).map (λp=>dAr (2+p.1,1,p.2))=((u4 ws.length).map λi=>((2+i,1,fx ws i):Ar)).map dAr:=by
  rw[wD];apply xZ;intro j;rw[u8,u8,xN];by_cases h:j < ws.length
  ·rw[xA h,u6 h];show some (dAr (2+j,1,ws[j]))=some (dAr (2+j,1,fx ws j));unfold fx;rw[u6 h];rfl
  ·rw[wA (by lia),wA (by simpa using h)];rfl
 rw[e3,<- v9];walk_at"dd";refine⟨_,_,rfl,rfl,vs,_,1,0,rfl,by lia,by lia,?_⟩;rw[show 2+1 * vs.length+0=2+vs.length by lia];exact q
theorem zzf:FnScope ["yard", "wants", "told", "found"] ["yard", "wants"] (zh0 zmb):=by walk_at"sc"
theorem zbm(M:Md K mg)(T:TopDef K "cut_off" zmb)(jJ:mg "len"=none)(jE:mg "range"=none)(kJ:mg "sum"=none)(vD:Def P w K mg base "worth" 1 ["arcs", "flow", "source"] (spD K zjm))(kE:DefN P w K mg base "greatest" 4 ["count", "arcs", "source", "sink", "flow"] (spD K zs5))(jQ:Def P w K mg base "node" 1 ["yard", "moment", "vat"] (spD K zq6))(uF:Def P w K mg base "timeless" 2 ["yard", "wants"] (spD K zoc))(g_SOURCE:mg "SOURCE"=some gv_SOURCE)(r_SOURCE:RelV (.int 0) gv_SOURCE)(g_SINK:mg "SINK"=some gv_SINK)(r_SINK:RelV (.int 1) gv_SINK):Def P w K mg base "cut_off" 5 ["yard", "wants"] (spD K zgf):=by
 refine zi3 M T zzf (by walk_at"h") (zwa (by walk_at"i")) (zg3 ?_);walk_at"g";have nd:=zzf.nd;refine⟨_,(dSeq (dAsg (zd3 zoc (zk0 (dVar 0) (zk0 (dVar 1) dNil))) (gN 2))
   (dSeq (dAsg (zqq zs5 (zk0 (dOp fIx (zm0 2) (dC (.int 0))) (zk0 (dOp fIx (zm0 2) (dC (.int 1))) (zk0 (dC (.int 0)) (zk0 (dC (.int 1)) dNil))))) (gN 3))
   (dSeq (dIf (za2 (dOp fEq (zd3 zjm (zk0 (dOp fIx (zm0 2) (dC (.int 1))) (zk0 (dOp fIx (zm0 3) (dC (.int 0))) (zk0 (dC (.int 0)) dNil)))) (dCB fSum (zk0 (zm0 1) dNil)))) (dRet (cE (dC .none))) zz5)
   (dRet (cF (zbd (zih (zk0 (dCB fLen (zk0 (dOp fIx (zm0 0) (dC (.int 0))) dNil)) dNil)) 1 [0,3] (gN 0) (za2 (dOp (fIn true) (zd3 zq6 (zk0 (dVar 1) (zk0 (dC (.int 0)) (zk0 (dVar 0) dNil)))) (dOp fIx (zm0 2) (dC (.int 1))))) (dVar 0))))))),(zd0 (pset 2 nd (zq0 uF (rmn hr) rfl (za0 (pv 0) (za0 (pv 1) zg0))))
   (zd0 (pset 3 nd (zbo kE (rmn hr) rfl (za0 (pix w K hr (pv 2) ze0) (za0 (pix w K hr (pv 2) ze0) (za0 (zx6 rfl g_SOURCE r_SOURCE) (za0 (zx6 rfl g_SINK r_SINK) zg0))))))
   (zd0 (zn5 (zs0 (zz2 (K:=K) rfl (Room.units hr)) (zq0 vD (rmn hr) rfl (za0 (pix w K hr (pv 2) ze0) (za0 (pix w K hr (pv 3) ze0) (za0 (zx6 rfl g_SOURCE r_SOURCE) zg0)))) (zv0 (zh8 (K:=K) rfl rfl) rfl kJ zsk (za0 (pv 1) zg0)) (zz0 _)) (zj0 (zh1 zyg)) zg1)
   (zj0 (zh1 (zu4 (sc:=zh0 zmb) (N:=["yard", "wants", "told", "found"]) (own:=["vat"]) (ix:=[0,3]) rfl rfl rfl (by walk_at"csc") (zt1 rfl jE (za0 (zv0 (zi1 (K:=K) rfl) rfl jJ ze5 (za0 (pix w K hr (pv 0) ze0) zg0)) zg0)) (λ_ _ _ _=>⟨(pgn 0 (nds ["vat", "yard", "found"])),(zng (zs0 (zif (w:=w) (K:=K) (Room.units hr) rfl rfl) (zq0 jQ (rmn hr) rfl (za0 (pv 1) (za0 ze0 (za0 (pv 0) zg0)))) (pix w K hr (pv 2) ze0) (by with_unfolding_all rfl))),(pv 0)⟩))))))),(zn0 (zy0 (zw0 (zc0 (zi0 0) (zc0 (zi0 1) zo0))) (rgn 2))
   (zn0 (zy0 (zfo (zc0 (zl0 r_ix (zb0 2) rvi) (zc0 (zl0 r_ix (zb0 2) rvi) (zc0 zd1 (zc0 zd1 zo0))))) (rgn 3))
   (zn0 (zm5 (zr0 (zv1 q_eq (RfV.h (RfE.v (zw0 (zc0 (zl0 r_ix (zb0 2) rvi) (zc0 (zl0 r_ix (zb0 3) rvi) (zc0 zd1 zo0)))))) (RfV.h (RfE.v (zu8 zpz (zx0 (zb0 1) zp1)))))) (zm1 (RfE.c zog)) zf1)
   (zm1 (RfF.c (zj2 (RfI.j (za4 (zc0 (zu8 zid (zx0 (RfE.v (zl0 r_ix (zb0 0) rvi)) zp1)) zo0))) (zn1 (i:=0) (n:=1) (by decide)) (zr0 (zl0 zm31 (RfE.v (zw0 (zc0 (zi0 1) (zc0 zd1 (zc0 (zi0 0) zo0))))) (RfE.v (zl0 r_ix (zb0 2) rvi)))) (zi0 0))))))),?_⟩
 rintro ds Qd ⟨vs,ps,ws,rfl,y,q⟩;have hn:=y.n2;have hm:=y.m2;have hw:=y.lw;walk_at"ds";walk_at"a";refine⟨vs,ps,ws,rfl,y,hJ _ ?_⟩;clear hJ;have hA:(tY vs ps ws).length<=48:=by unfold tY;rw[zjf,u5,u5];lia
 have ar:=y.ar;have ub:∀L side,Best (2+vs.length) (tY vs ps ws) (vV (tY vs ps ws).length 0) 0 1 L side->IsCut vs ps ws (if - bl (tY vs ps ws).length (aU (tY vs ps ws)) (aV (tY vs ps ws)) (λk=>lf L (2 * k+1)) 0=ws.sum then .none else .list (((u4 vs.length).filter λv=>decide (2+v ∉ side)).map nI)):=λL side b=>⟨L,side,b,rfl⟩
 generalize hG:tY vs ps ws=A at hA ar ub;walk_at"a";refine⟨_,rfl,_,rfl,2+vs.length,A,0,1,.none,vV A.length 0,rfl,.inl ⟨rfl,rfl⟩,yK,by lia,by lia,λa ha=>⟨(ar a ha).1,(ar a ha).2.1⟩,λk a x h1 h2=>?_,by lia,by lia,by decide,λL side b=>hJ _ ?_⟩
 ·rw[xF]at h2;split at h2
  ·cases h2;exact⟨by lia,(ar a (wI h1)).2.2⟩
  ·cases h2
 clear hJ;have hu:=ub L side b;have hsd:=zj1 _ side (ze6 b.ris) b.bd;walk_at"a";refine⟨_,rfl,_,rfl,A,L,0,rfl,by lia,ws,ints_map ws,?_⟩;walk_at"dd";refine two (λh=>?_) λh=>hJ _ ?_
 ·rw[aF h]at hu;exact q _ hu
 clear hJ;rw[aA h]at hu;walk_at"dd";walk_at"k";rw[u5];refine⟨by lia,by lia,?_⟩;rw[vZ];unfold rngD;refine zgz (λk=>if 2+k ∉ side then some (nI k)else none) (by rw[aW];simp;lia) (λk hk=>?_) ?_
 ·walk_at"cs";walk_at"dd";rw[show(0:Int)+(k:Int)=(k:Int) by lia];refine⟨vs,_,0,k,rfl,by lia,by lia,_,rfl,?_⟩;have i1:((side.map nI).any λy=>eqF y (.int ((2+0 * vs.length+k:Nat):Int)))=decide (2+0 * vs.length+k∈side):=zs21 _ _;have i2:2+0 * vs.length+k=2+k:=by lia
  walk_at"dd";rw[i1,i2];refine⟨zaz side,two (λh=>?_) λh=>?_⟩
  ·rw[aF (by simpa using h)]
  ·rw[aA (by simpa using h)]
 rw[znm];exact q _ hu
end
structure Soon(vs:List Va)(ps:List Pi)(ws:List Int)(u m:Nat)(f:Fm)(pt:List D):Prop where
 le:m<=u
 met:Met vs ps ws m ws.sum f
 pt:(m=0/\pt=[]) \/ ∃(M:Int)(side:List Nat),1<=m/\pt=ptN vs ps (m - 1) side/\Ovr vs ps ws (m - 1) M side/\M < ws.sum
def Late(vs:List Va)(ps:List Pi)(ws:List Int)(u l:Nat):Prop:=∀n M,u<=n->n<=l->(ntOf vs ps n).Val (cW ws) M->M=ws.sum
def Pi.pp(p:Pi):Pp:=⟨p.u,p.v,.int (p.len:Int),.int p.pr,p.g.d⟩
def zaa:DSp:=λds Q=>∃(vs:List Va)(ps:List Pi)(ws:List Int)(u l:Nat)(f:Fm),ds=[dY vs ps,.list (ws.map .int),.int (l:Int),.list ((zab ps l f.g l).map Le.d)]/\YOk vs ps ws/\l<=60/\(l+1) * vs.length<=61/\Met vs ps ws l ws.sum f/\u<=l/\Late vs ps ws u l /\
 ∀m f pt,Soon vs ps ws u m f pt->Q (.tuple [.str "met",.int (m:Int),.list ((zab ps m f.g m).map Le.d),.list pt])
def zpf:DSp:=λds Q=>∃(vs:List Va)(ps:List Pi)(ws:List Int)(u l:Nat),ds=[dY vs ps,.list (ws.map .int),.int (l:Int)]/\YOk vs ps ws/\ZOk vs (ps.map Pi.pp) ws/\l<=60/\(l+1) * vs.length<=61/\u<=l/\Late vs ps ws u l/\(∀r,IsCut vs (ps.map Pi.pp) ws r->r=.none) /\
 ∀m f pt,Soon vs ps ws u m f pt->Q (.tuple [.str "met",.int (m:Int),.list ((zab ps m f.g m).map Le.d),.list pt])
theorem Met.lt{vs:List Va}{ps:List Pi}{M:Int}{f:Fm}(h:Met vs ps ws n M f)(hl:ws.length=vs.length)(ne:M≠ws.sum):M < ws.sum:=by
 have:=h.val.le;rw[zsl,hl];rw[zsl,hl]at ne;exact Int.lt_iff_le_and_ne.mpr ⟨this,ne⟩
section
variable {P:aN}{w:aQ}{K:Fg}{mg:Str->Option aC}{base:aT}
theorem zvc:FnScope ["yard", "wants", "last", "plan", "met", "shut", "part", "middle", "found"] ["yard", "wants", "last", "plan"] (zh0 zfa):=by walk_at"sc"
theorem zfi(M:Md K mg)(T:TopDef K "first_met" zfa)(qO:Def P w K mg base "met_at" 8 ["yard", "wants", "until"] (spD K zic)):Def P w K mg base "first_met" 9 ["yard", "wants", "last", "plan"] (spD K zaa):=by
 refine zi3 M T zvc (by walk_at"h") (zwa (by walk_at"i")) (zg3 ?_);walk_at"g";have nd:=zvc.nd;refine⟨_,(dSeq (dAsg (dVar 2) (gN 4))
   (dSeq (dAsg (dUn fNeg (dC (.int 1))) (gN 5))
   (dSeq (dAsg (dF (dLst dNil)) (gN 6))
   (dSeq (zgp (za2 (dOp fGt (dOp fSub (zm0 4) (zm0 5)) (dC (.int 1)))) (dSeq (dAsg (dOp fDiv (dOp fAdd (zm0 4) (zm0 5)) (dC (.int 2))) (gN 7))
   (dSeq (dAsg (zd3 zic (zk0 (dVar 0) (zk0 (dVar 1) (zk0 (dVar 7) dNil)))) (gN 8))
   (dIf (za2 (dOp fEq (dOp fIx (zm0 8) (dC (.int 0))) (dC (.str "plan")))) (dSeq (dAsg (dVar 7) (gN 4))
   (dAsg (dOp fIx (zm0 8) (dC (.int 1))) (gN 3))) (dSeq (dAsg (dVar 7) (gN 5))
   (dAsg (dOp fIx (zm0 8) (dC (.int 1))) (gN 6)))))))
   (dRet (cE (dTup (zk0 (dC (.str "met")) (zk0 (dVar 4) (zk0 (dVar 3) (zk0 (dVar 6) dNil))))))))))),(zd0 (pset 4 nd (pv 2))
   (zd0 (pset 5 nd (zxb1 zk91 ze0))
   (zd0 (pset 6 nd (zi2 zg0))
   (zd0 (zma aR (zs0 zll (zk1 zj9 (pv 4) (pv 5)) ze0 (zz0 _)) (zd0 (pset 7 nd (zk1 zu1 (zk1 (zl1 (K:=K) rfl) (pv 4) (pv 5)) ze0))
   (zd0 (pset 8 nd (zq0 qO (rmn hr) rfl (za0 (pv 0) (za0 (pv 1) (za0 (pv 7) zg0)))))
   (zj0 (zn5 (zs0 (zz2 (K:=K) rfl (Room.units hr)) (pix w K hr (pv 8) ze0) zz6 (zz0 _)) (zd0 (pset 4 nd (pv 7))
   (zj0 (pset 3 nd (pix w K hr (pv 8) ze0)))) (zd0 (pset 5 nd (pv 7))
   (zj0 (pset 6 nd (pix w K hr (pv 8) ze0)))))))))
   (zj0 (zh1 (zo1 (za0 zz6 (za0 (pv 4) (za0 (pv 3) (za0 (pv 6) zg0))))))))))),(zn0 (zy0 (zi0 2) (rgn 4))
   (zn0 (zy0 (za81 zd1) (rgn 5))
   (zn0 (zy0 (RfF.e (zb7 zo0)) (rgn 6))
   (zn0 (zoa (zr0 (zl0 r_gt (RfE.v (zl0 zij (zb0 4) (zb0 5))) rvi)) (zn0 (zy0 (zl0 zsf (RfE.v (zl0 zf8 (zb0 4) (zb0 5))) rvi) (rgn 7))
   (zn0 (zy0 (zw0 (zc0 (zi0 0) (zc0 (zi0 1) (zc0 (zi0 7) zo0)))) (rgn 8))
   (zm5 (zr0 (zv1 q_eq (RfV.h (RfE.v (zl0 r_ix (zb0 8) rvi))) (RfV.h (RfE.v za7)))) (zn0 (zy0 (zi0 7) (rgn 4))
   (zy0 (zl0 r_ix (zb0 8) rvi) (rgn 3))) (zn0 (zy0 (zi0 7) (rgn 5))
   (zy0 (zl0 r_ix (zb0 8) rvi) (rgn 6)))))))
   (zm1 (RfE.c (zs2 (zc0 za7 (zc0 (zi0 4) (zc0 (zi0 3) (zc0 (zi0 6) zo0))))))))))),?_⟩
 rintro ds Qd ⟨vs,ps,ws,u,l,f,rfl,y,hl,hN,hm,hu,late,q⟩;walk_at"ds";walk_at"dn";walk_at"dn";walk_at"dn";refine zf0 λJ hJ=>?_;refine⟨λμ U=>∃(m:Nat)(s:Int)(f:Fm)(pt:List D)(s7 s8:Sl),μ=((m:Int) - s).toNat/\m<=l/\-1<=s/\s < (m:Int)/\s < (u:Int)/\Met vs ps ws m ws.sum f/\((s=-1/\pt=[]) \/ ∃(M:Int)(side:List Nat),0<=s/\pt=ptN vs ps s.toNat side/\Ovr vs ps ws s.toNat M side/\M < ws.sum)/\U=[.sh (dY vs ps),.sh (.list (ws.map .int)),.sh (.int (l:Int)),.sh (.list ((zab ps m f.g m).map Le.d)),.sh (.int (m:Int)),.sh (.int s),.sh (.list pt),s7,s8],⟨_,l,-1,f,[],.un,.un,rfl,u7 _,by lia,by lia,by lia,hm,.inl ⟨rfl,rfl⟩,rfl⟩,?_⟩;rintro μ U ⟨m,s,f,pt,s7,s8,rfl,h1,h2,h3,h4,met,hp,rfl⟩;walk_at"dd";refine two (λz=>?_) λz=>hJ _ ?_
 ·walk_at"c";walk_at"f";obtain⟨h,eh⟩:=xT (show 0<=((m:Int)+s) / 2 by lia);have e1:s < (h:Int):=by lia
  have e2:(h:Int) < (m:Int):=by lia
  rw[eh];clear eh;have hN2:(h+1) * vs.length<=61:=wZ (yE _ (by lia)) hN;walk_at"a";refine⟨vs,ps,ws,h,rfl,y,by lia,hN2,λM f' side met' ovr=>hJ _ ?_⟩;clear hJ;by_cases e:M=ws.sum
  ·subst e;rw[aF rfl,aF rfl];walk_at"dd";walk_at"k";walk_at"dn";walk_at"dd";exact⟨_,rfl,((h:Int) - s).toNat,by lia,h,s,f',pt,_,_,rfl,by lia,h2,by lia,h4,met',hp,rfl⟩
  ·rw[aA e,aA e];walk_at"dd";walk_at"k";rw[aA (by decide +kernel)];have hu2:h < u:=by
    rcases wT h u with x|x
    ·exact x
    ·exact aJ (late h M x (by lia) met'.val) e
   walk_at"dn";walk_at"dd";exact⟨_,rfl,((m:Int) - (h:Int)).toNat,by lia,m,(h:Int),f,_,_,_,rfl,h1,by lia,e2,by lia,met,.inr ⟨M,side,by lia,by rw[vZ],ovr,met'.lt y.lw e⟩,rfl⟩
 ·clear hJ;walk_at"dd";refine q m f pt ⟨by lia,met,?_⟩;rcases hp with⟨e,e2⟩|⟨M,side,e,e2,e3,e4⟩
  ·exact .inl ⟨by lia,e2⟩
  ·obtain⟨n,rfl⟩:=xT e;rw[vZ]at e2 e3;obtain rfl:m=n+1:=by lia
   exact .inr ⟨M,side,by lia,e2,e3,e4⟩
theorem zeh:FnScope ["yard", "wants", "last", "vats", "found"] ["yard", "wants", "last"] (zh0 zwe):=by walk_at"sc"
theorem zfn(M:Md K mg)(T:TopDef K "soonest" zwe)(qO:Def P w K mg base "met_at" 8 ["yard", "wants", "until"] (spD K zic))(uN:Def P w K mg base "cut_off" 5 ["yard", "wants"] (spD K zgf))(qX:Def P w K mg base "first_met" 9 ["yard", "wants", "last", "plan"] (spD K zaa)):Def P w K mg base "soonest" 10 ["yard", "wants", "last"] (spD K zpf):=by
 refine zi3 M T zeh (by walk_at"h") (zwa (by walk_at"i")) (zg3 ?_);walk_at"g";have nd:=zeh.nd;refine⟨_,(dSeq (dAsg (zd3 zgf (zk0 (dVar 0) (zk0 (dVar 1) dNil))) (gN 3))
   (dSeq (dIf (za2 (dOp zov (zm0 3) (dC .none))) (dRet (cE (dTup (zk0 (dC (.str "never")) (zk0 (dVar 3) dNil))))) zz5)
   (dSeq (dAsg (zd3 zic (zk0 (dVar 0) (zk0 (dVar 1) (zk0 (dVar 2) dNil)))) (gN 4))
   (dSeq (dIf (za2 (dOp fEq (dOp fIx (zm0 4) (dC (.int 0))) (dC (.str "shut")))) (dRet (cE (dTup (zk0 (dC (.str "later")) (zk0 (dOp fIx (zm0 4) (dC (.int 1))) dNil))))) zz5)
   (dRet (cE (zd3 zaa (zk0 (dVar 0) (zk0 (dVar 1) (zk0 (dVar 2) (zk0 (dOp fIx (zm0 4) (dC (.int 1))) dNil))))))))))),(zd0 (pset 3 nd (zq0 uN (rmn hr) rfl (za0 (pv 0) (za0 (pv 1) zg0))))
   (zd0 (zn5 (zs0 zss (pv 3) zyg (zz0 _)) (zj0 (zh1 (zo1 (za0 zz6 (za0 (pv 3) zg0))))) zg1)
   (zd0 (pset 4 nd (zq0 qO (rmn hr) rfl (za0 (pv 0) (za0 (pv 1) (za0 (pv 2) zg0)))))
   (zd0 (zn5 (zs0 (zz2 (K:=K) rfl (Room.units hr)) (pix w K hr (pv 4) ze0) zz6 (zz0 _)) (zj0 (zh1 (zo1 (za0 zz6 (za0 (pix w K hr (pv 4) ze0) zg0))))) zg1)
   (zj0 (zh1 (zq0 qX (rmn hr) rfl (za0 (pv 0) (za0 (pv 1) (za0 (pv 2) (za0 (pix w K hr (pv 4) ze0) zg0))))))))))),(zn0 (zy0 (zw0 (zc0 (zi0 0) (zc0 (zi0 1) zo0))) (rgn 3))
   (zn0 (zm5 (zr0 (zl0 zv41 (zb0 3) (RfE.v zog))) (zm1 (RfE.c (zs2 (zc0 za7 (zc0 (zi0 3) zo0))))) zf1)
   (zn0 (zy0 (zw0 (zc0 (zi0 0) (zc0 (zi0 1) (zc0 (zi0 2) zo0)))) (rgn 4))
   (zn0 (zm5 (zr0 (zv1 q_eq (RfV.h (RfE.v (zl0 r_ix (zb0 4) rvi))) (RfV.h (RfE.v za7)))) (zm1 (RfE.c (zs2 (zc0 za7 (zc0 (zl0 r_ix (zb0 4) rvi) zo0))))) zf1)
   (zm1 (RfE.c (zw0 (zc0 (zi0 0) (zc0 (zi0 1) (zc0 (zi0 2) (zc0 (zl0 r_ix (zb0 4) rvi) zo0))))))))))),?_⟩
 rintro ds Qd ⟨vs,ps,ws,u,l,rfl,y,zo,hl,hN,hu,late,hc,q⟩;have ed:ps.map Pi.d=(ps.map Pi.pp).map Pp.d:=by rw[wD];rfl
 walk_at"ds";walk_at"a";refine⟨vs,ps.map Pi.pp,ws,by unfold dY;rw[ed],zo,λr hr=>?_⟩;rw[hc r hr];walk_at"b";walk_at"b";refine⟨vs,ps,ws,l,rfl,y,hl,hN,λM f side met ovr=>hJ _ ?_⟩;clear hJ;have e:=late l M hu (u7 _) met.val;subst e;rw[aF rfl,aF rfl];walk_at"a";walk_at"k";rw[aA (by decide +kernel)];walk_at"f";walk_at"dd";exact⟨_,rfl,vs,ps,ws,u,l,f,rfl,y,hl,hN,met,hu,late,q⟩
end
theorem ga(h:List Int)(v:Nat)(hv:v < h.length):atI (h.map vQ) ((v:Nat):Int)=some (.int (h.getD v 0)):=zre (by lia) (by rw[vZ,u8,v6,u6 hv];rfl)
theorem gm{α:Type}{l:List α}(f:α->D){x:α}(h:l[i]?=some x):atI (l.map f) ((i:Nat):Int)=some (f x):=zre (by lia) (by rw[vZ,u8,h];rfl)
def zq1:DSp:=λds Q=>∃(ns:List Int)(k:Nat),ds=[.list (ns.map .int),.int (k:Int)]/\k<=1000/\∀m:Int,Q (.int m)
def za3:DSp:=λds Q=>∃i:Int,ds=[.int i]/\Q (.bool true)
def Sms(n:Nat)(l:List Int):Prop:=l.length=n/\∀x∈l,0<=x/\x < 100000000000
def zp9:DSp:=λds Q=>∃(cs:List Int)(n:Nat),ds=[.list (cs.map .int),.int (n:Int)]/\cs.length<=80/\1<=n/\n<=4/\∀l,Sms n l->Q (.list (l.map .int))
def zx2:DSp:=λds Q=>∃(g:Gt)(m:Nat),ds=[g.d,.int (m:Int)]/\g.ok/\Q (.int (g.at m))
def zzb:DSp:=λds Q=>∃(c:Int)(n:Nat)(w:Int),ds=[.int c,.int (n:Int),.int w]/\2<=n/\n<=3/\0<=w/\w < 100000000000/\∀p:Pi,PiOk n p->p.len<=3->(∀m,p.g.at m<=100000000000)->Q p.d
structure Yw(fl:List Int)(ps:List Pi):Prop where
 n1:1<=fl.length
 n3:fl.length<=3
 f:∀x∈fl,0<=x/\x < 100000000000
 m4:ps.length<=4
 p:∀p∈ps,PiOk fl.length p/\p.len<=3/\∀m,p.g.at m<=100000000000
def zxb:DSp:=λds Q=>∃ns:List Int,ds=[.list (ns.map .int)]/\ns.length<=63/\∀fl ps,Yw fl ps->Q (.tuple [.list (fl.map .int),.list (ps.map Pi.d)])
section
variable {P:aN}{w:aQ}{K:Fg}{mg:Str->Option aC}{base:aT}
theorem zp8:FnScope ["script", "k"] ["script", "k"] (zh0 zf6):=by walk_at"sc"
theorem zfd(M:Md K mg)(T:TopDef K "_law_cell_at" zf6)(jJ:mg "len"=none):Def P w K mg base "_law_cell_at" 1 ["script", "k"] (spD K zq1):=by
 refine zi3 M T zp8 (by walk_at"h") (zwa (by walk_at"i")) (zg3 ?_);walk_at"g";have nd:=zp8.nd;refine⟨_,(dSeq (dIf (za2 (dOp fLt (zm0 1) (dCB fLen (zk0 (zm0 0) dNil)))) (dRet (cE (dOp fIx (zm0 0) (zm0 1)))) zz5)
   (dRet (cE (dC (.int 0))))),(zd0 (zn5 (zs0 zyt (pv 1) (zv0 (zi1 (K:=K) rfl) rfl jJ ze5 (za0 (pv 0) zg0)) (zz0 _)) (zj0 (zh1 (pix w K hr (pv 0) (pv 1)))) zg1)
   (zj0 (zh1 ze0))),(zn0 (zm5 (zr0 (zl0 r_lt (zb0 1) (RfE.v (zu8 zid (zx0 (zb0 0) zp1))))) (zm1 (RfE.c (zl0 r_ix (zb0 0) (zb0 1)))) zf1)
   (zm1 (RfE.c zd1))),?_⟩
 rintro ds Qd ⟨ns,k,rfl,hk,q⟩;walk_at"ds";walk_at"a";rw[u5];refine two (λh=>⟨_,ga ns k (by lia),q _⟩) λh=>hJ _ ?_;clear hJ;walk_at"dd";exact q _
theorem zcb:FnScope ["found"] ["found"] (zh0 zk9):=by walk_at"sc"
theorem zvg(M:Md K mg)(T:TopDef K "_law_whole" zk9)(kt:Kit K)(uY:mg "bool"=none)(vG:mg "int"=none)(jL:mg "isinstance"=none):Def P w K mg base "_law_whole" 1 ["found"] (spD K za3):=by
 refine zi3 M T zcb (by walk_at"h") (zwa (by walk_at"i")) (zg3 ?_);walk_at"g";have nd:=zcb.nd;refine⟨_,(dRet (cE (zh51 (dIs "int" (zm0 0)) (ze91 (dIs "bool" (zm0 0)))))),(zj0 (zh1 (zv11 (zv0 (zz9 (K:=K) rfl) rfl jL zg2 (za0 (pv 0) (za0 (zrd (v:=.ty "int") rfl vG zn71 rfl) zg0))) (zv01 (zw71 (zv0 (zz9 (K:=K) rfl) rfl jL zg2 (za0 (pv 0) (za0 (zrd (v:=.ty "bool") rfl uY ze21 rfl) zg0)))))))),(zm1 (RfE.c (zus (zrz kt (by simp) (zb0 0)) (zf41 (zrz kt (by simp) (zb0 0)))))),?_⟩;rintro ds Qd ⟨i,rfl,q⟩;walk_at"ds";walk_at"dd";exact⟨λ_=>trivial,λ_=>trivial,q⟩
theorem zrb:FnScope ["cells", "count", "sums", "k", "at", "made"] ["cells", "count"] (zh0 zg8):=by walk_at"sc"
theorem zrh(M:Md K mg)(T:TopDef K "_law_sums" zg8)(jJ:mg "len"=none)(jE:mg "range"=none):Def P w K mg base "_law_sums" 1 ["cells", "count"] (spD K zp9):=by
 refine zi3 M T zrb (by walk_at"h") (zwa (by walk_at"i")) (zg3 ?_);walk_at"g";have nd:=zrb.nd;refine⟨_,(dSeq (dSet 2 (cF (zbd (zih (zk0 (dVar 1) dNil)) 1 [] (gN 0) zmf (dVar 0))))
   (dSeq (dFor (zih (zk0 (dCB fLen (zk0 (zm0 0) dNil)) dNil)) (gN 3) (dSeq (dAsg (dOp fMod (zm0 3) (zm0 1)) (gN 4))
   (dSeq (dAsg (dOp fAdd (dOp fMul (dOp fMod (dOp fIx (zm0 0) (zm0 3)) (dOp fPow (dC (.int 10)) (dC (.int 11)))) (dOp fAdd (dC (.int 16807)) (zm0 3))) (dOp fMod (dOp fDiv (dOp fIx (zm0 0) (zm0 3)) (dC (.int 5))) (dC (.int 1013)))) (gN 5))
   (dPut (pVar 2) (dVar 4) (dOp fMod (dOp fAdd (dOp fMul (dOp fIx (zm0 2) (zm0 4)) (dC (.int 5))) (zm0 5)) (dOp fPow (dC (.int 10)) (dC (.int 11))))))))
   (zhp 2))),(zd0 (zh3 (i:=2) (sc:=zh0 zg8) (N:=["cells", "count", "sums", "k", "at", "made"]) (own:=["k"]) (ix:=[]) rfl rfl rfl (by walk_at"csc") nd rfl rfl (zt1 rfl jE (za0 (pv 1) zg0)) (λ_ _ _ _=>⟨(pgn 0 (nds ["k"])),zj3,(pv 0)⟩))
   (zd0 (zt3 aR rfl (zt1 rfl jE (za0 (zv0 (zi1 (K:=K) rfl) rfl jJ ze5 (za0 (pv 0) zg0)) zg0)) (pgn 3 nd) (zd0 (pset 4 nd (zk1 zm2 (pv 3) (pv 1)))
   (zd0 (pset 5 nd (zk1 (zl1 (K:=K) rfl) (zk1 zcc (zk1 zm2 (pix w K hr (pv 0) (pv 3)) (zk1 zry ze0 ze0)) (zk1 (zl1 (K:=K) rfl) ze0 (pv 3))) (zk1 zm2 (zk1 zu1 (pix w K hr (pv 0) (pv 3)) ze0) ze0)))
   (zj0 (zax (zk1 zm2 (zk1 (zl1 (K:=K) rfl) (zk1 zcc (pix w K hr (pv 2) (pv 4)) ze0) (pv 5)) (zk1 zry ze0 ze0)) (zsu (pv 2) (pv 4) (zpp (Room.units hr))))))))
   (zj0 (zh1 (pv 2))))),(zn0 (zf3 (RfF.c (zj2 (RfI.j (za4 (zc0 (zi0 1) zo0))) (zn1 (i:=0) (n:=1) (by decide)) zg4 (zi0 0))))
   (zn0 (zj4 (za4 (zc0 (zu8 zid (zx0 (zb0 0) zp1)) zo0)) (rgn 3) (zn0 (zy0 (zl0 zy9 (zb0 3) (zb0 1)) (rgn 4))
   (zn0 (zy0 (zl0 zf8 (RfE.v (zl0 zl11 (RfE.v (zl0 zy9 (RfE.v (zl0 r_ix (zb0 0) (zb0 3))) (RfE.v (zl0 zg91 rvi rvi)))) (RfE.v (zl0 zf8 rvi (zb0 3))))) (RfE.v (zl0 zy9 (RfE.v (zl0 zsf (RfE.v (zl0 r_ix (zb0 0) (zb0 3))) rvi)) rvi))) (rgn 5))
   (zbv (zl0 zy9 (RfE.v (zl0 zf8 (RfE.v (zl0 zl11 (RfE.v (zl0 r_ix (zb0 2) (zb0 4))) rvi)) (zb0 5))) (RfE.v (zl0 zg91 rvi rvi))) (zu0 2) (zi0 4)))))
   (zza (i:=2)))),?_⟩
 rintro ds Qd ⟨cs,n,rfl,hl,n1,n4,q⟩;walk_at"ds";walk_at"a";refine⟨by lia,by lia,?_⟩;rw[vZ];unfold rngD;refine zgk (λk:Nat=>.int (k:Int)) (by rw[aW,wE];lia) (λk _=>?_) (hJ _ ?_)
 ·walk_at"cs";walk_at"dd";rw[show(0:Int)+(k:Int)=(k:Int) by lia]
 clear hJ;have e0:(u4 n).map (λk:Nat=>vQ (k:Int))=((u4 n).map λk:Nat=>(k:Int)).map .int:=by rw[wD];rfl
 rw[e0];have i0:Sms n ((u4 n).map λk:Nat=>(k:Int)):=⟨by simp,λx hx=>by
  obtain⟨k,hk,rfl⟩:=vU.mp hx;have:=u9.mp hk;lia⟩
 walk_at"a";rw[u5];refine⟨by lia,by lia,?_⟩;rw[vZ];unfold rngD;refine zb2 (λ_ U=>∃(l:List Int)(s3 s4 s5:Sl),Sms n l/\U=[.sh (.list (cs.map .int)),.sh (.int (n:Int)),.ow (.li (l.map .int)),s3,s4,s5]) ⟨_,.un,.un,.un,i0,rfl⟩ ?_ ?_
 ·rintro i k U hx ⟨l,s3,s4,s5,S,rfl⟩;obtain⟨h1,h2⟩:=v8.mp hx;simp at h1 h2;subst h2;rw[show(0:Int)+(i:Int)=(i:Int) by lia];have a0:=yR (i:Int) (b:=(n:Int)) (by lia);have a1:=yS (i:Int) (b:=(n:Int)) (by lia);obtain⟨j,hj⟩:=xT a0;have ll:=S.1;walk_at"a";refine⟨by lia,hJ _ ?_⟩;clear hJ;rw[hj]at a1 ⊢;walk_at"a";refine⟨_,ga cs i (by lia),by decide,?_⟩;walk_at"dd";refine⟨.inr ⟨by lia,by lia⟩,_,ga cs i (by lia),?_⟩;walk_at"dd";walk_at"f";generalize cs.getD i 0 % 100000000000 * (16807+(i:Int))+cs.getD i 0 / 5 % 1013=made;walk_at"dd";refine⟨_,ga l j (by lia),?_⟩;walk_at"dd";refine⟨.inr ⟨by decide,by decide⟩,by decide,j,ztg (by rw[u5];lia),l.set j ((l.getD j 0 * 5+made) % 100000000000),.sh (.int (i:Int)),.sh (.int (j:Int)),.sh (.int made),⟨by rw[wK];exact ll,λx hx=>?_⟩,?_⟩
  ·rcases List.mem_or_eq_of_mem_set hx with z|z
   ·exact S.2 x z
   ·rw[z];exact⟨yR _ (by decide),yS _ (by decide)⟩
  ·rw[zX]
 ·rintro U ⟨l,s3,s4,s5,S,rfl⟩;walk_at"f";walk_at"dd";exact q l S
theorem zta:FnScope ["gate", "moment"] ["gate", "moment"] (zh0 zz8):=by walk_at"sc"
theorem zwf(M:Md K mg)(T:TopDef K "_law_width" zz8) :Def P w K mg base "_law_width" 1 ["gate", "moment"] (spD K zx2):=by
 refine zi3 M T zta (by walk_at"h") (zwa (by walk_at"i")) (zg3 ?_);walk_at"g";have nd:=zta.nd;refine⟨_,(dSeq (dIf (dAnd (za2 (dOp fEq (dOp fIx (zm0 0) (dC (.int 0))) (dC (.str "late")))) (za2 (dOp fLt (zm0 1) (dOp fIx (zm0 0) (dC (.int 2)))))) (dRet (cE (dC (.int 0)))) zz5)
   (dSeq (dIf (dAnd (za2 (dOp fEq (dOp fIx (zm0 0) (dC (.int 0))) (dC (.str "tidal")))) (za2 (dOp fGt (dOp fMod (zm0 1) (dOp fIx (zm0 0) (dC (.int 3)))) (dC (.int 0))))) (dRet (cE (dOp fIx (zm0 0) (dC (.int 2))))) zz5)
   (dRet (cE (dOp fIx (zm0 0) (dC (.int 1))))))),(zd0 (zn5 (PW.pt (zel (zs0 (zz2 (K:=K) rfl (Room.units hr)) (pix w K hr (pv 0) ze0) zz6 (zz0 _)) (zag (zs0 zyt (pv 1) (pix w K hr (pv 0) ze0) (zz0 _))))) (zj0 (zh1 ze0)) zg1)
   (zd0 (zn5 (PW.pt (zel (zs0 (zz2 (K:=K) rfl (Room.units hr)) (pix w K hr (pv 0) ze0) zz6 (zz0 _)) (zag (zs0 zll (zk1 zm2 (pv 1) (pix w K hr (pv 0) ze0)) ze0 (zz0 _))))) (zj0 (zh1 (pix w K hr (pv 0) ze0))) zg1)
   (zj0 (zh1 (pix w K hr (pv 0) ze0))))),(zn0 (zm5 (zgl (zr0 (zv1 q_eq (RfV.h (RfE.v (zl0 r_ix (zb0 0) rvi))) (RfV.h (RfE.v za7)))) (zr0 (zl0 r_lt (zb0 1) (RfE.v (zl0 r_ix (zb0 0) rvi))))) (zm1 (RfE.c zd1)) zf1)
   (zn0 (zm5 (zgl (zr0 (zv1 q_eq (RfV.h (RfE.v (zl0 r_ix (zb0 0) rvi))) (RfV.h (RfE.v za7)))) (zr0 (zl0 r_gt (RfE.v (zl0 zy9 (zb0 1) (RfE.v (zl0 r_ix (zb0 0) rvi)))) rvi))) (zm1 (RfE.c (zl0 r_ix (zb0 0) rvi))) zf1)
   (zm1 (RfE.c (zl0 r_ix (zb0 0) rvi))))),?_⟩
 rintro ds Qd ⟨g,m,rfl,ok,q⟩;walk_at"ds";cases g with
|st x =>
  unfold Gt.d;walk_at"a";walk_at"k";rw[aA (by decide +kernel)];walk_at"b";walk_at"k";rw[aA (by decide +kernel)];walk_at"f";walk_at"dd";exact⟨_,rfl,q⟩
|la x f =>
  unfold Gt.d;walk_at"a";walk_at"k";walk_at"k";refine two (λh=>?_) λh=>hJ _ ?_
  ·have e:Gt.at (.la x f) m=0:=aA (by lia);rw[e]at q;exact q
  walk_at"c";walk_at"k";rw[aA (by decide +kernel)];walk_at"f";walk_at"dd";have e:Gt.at (.la x f) m=x:=aF (by lia);rw[e]at q;exact⟨_,rfl,q⟩
|ti x y t =>
  obtain⟨o1,o2⟩:=ok;unfold Gt.d;walk_at"a";walk_at"k";rw[aA (by decide +kernel)];walk_at"b";walk_at"k";walk_at"k";refine⟨by lia,two (λh=>⟨_,rfl,?_⟩) λh=>hJ _ ?_⟩
  ·have e:Gt.at (.ti x y t) m=y:=aA (by lia);rw[e]at q;exact q
  clear hJ;walk_at"dd";have e:Gt.at (.ti x y t) m=x:=aF (by lia);rw[e]at q;exact⟨_,rfl,q⟩
theorem zad:FnScope ["cell", "many", "most", "here", "there", "wide", "gate"] ["cell", "many", "most"] (zh0 zja):=by walk_at"sc"
theorem zni(M:Md K mg)(T:TopDef K "_law_pipe" zja) :Def P w K mg base "_law_pipe" 1 ["cell", "many", "most"] (spD K zzb):=by
 refine zi3 M T zad (by walk_at"h") (zwa (by walk_at"i")) (zg3 ?_);walk_at"g";have nd:=zad.nd;refine⟨_,(dSeq (dAsg (dOp fMod (zm0 0) (zm0 1)) (gN 3))
   (dSeq (dAsg (dOp fMod (dOp fAdd (dOp fAdd (zm0 3) (dC (.int 1))) (dOp fMod (dOp fDiv (zm0 0) (dC (.int 3))) (dOp fSub (zm0 1) (dC (.int 1))))) (zm0 1)) (gN 4))
   (dSeq (dAsg (dOp fAdd (dC (.int 1)) (zm0 2)) (gN 5))
   (dSeq (dIf (za2 (dOp fEq (dOp fMod (dOp fDiv (zm0 0) (dC (.int 18))) (dC (.int 3))) (dC (.int 0)))) (dAsg (dOp fAdd (dC (.int 1)) (dOp fMod (zm0 2) (dC (.int 9)))) (gN 5)) zz5)
   (dSeq (dAsg (dTup (zk0 (dC (.str "steady")) (zk0 (dVar 5) dNil))) (gN 6))
   (dSeq (dIf (za2 (dOp fEq (dOp fMod (dOp fDiv (zm0 0) (dC (.int 54))) (dC (.int 3))) (dC (.int 1)))) (dAsg (dTup (zk0 (dC (.str "late")) (zk0 (dVar 5) (zk0 (dOp fMod (dOp fDiv (zm0 0) (dC (.int 162))) (dC (.int 3))) dNil)))) (gN 6)) zz5)
   (dSeq (dIf (za2 (dOp fEq (dOp fMod (dOp fDiv (zm0 0) (dC (.int 54))) (dC (.int 3))) (dC (.int 2)))) (dAsg (dTup (zk0 (dC (.str "tidal")) (zk0 (dVar 5) (zk0 (dOp fAdd (dC (.int 1)) (dOp fDiv (zm0 2) (dC (.int 2)))) (zk0 (dOp fAdd (dC (.int 2)) (dOp fMod (dOp fDiv (zm0 0) (dC (.int 162))) (dC (.int 2)))) dNil))))) (gN 6)) zz5)
   (dRet (cE (dTup (zk0 (dVar 3) (zk0 (dVar 4) (zk0 (dOp fIx (dF (dLst (zk0 (dC (.int 1)) (zk0 (dC (.int 1)) (zk0 (dC (.int 2)) (zk0 (dC (.int 1)) (zk0 (dC (.int 3)) dNil))))))) (dOp fMod (dOp fDiv (zm0 0) (dC (.int 6))) (dC (.int 5)))) (zk0 (dOp fMod (dOp fDiv (zm0 0) (dC (.int 324))) (dC (.int 1000001))) (zk0 (dVar 6) dNil))))))))))))))),(zd0 (pset 3 nd (zk1 zm2 (pv 0) (pv 1)))
   (zd0 (pset 4 nd (zk1 zm2 (zk1 (zl1 (K:=K) rfl) (zk1 (zl1 (K:=K) rfl) (pv 3) ze0) (zk1 zm2 (zk1 zu1 (pv 0) ze0) (zk1 zj9 (pv 1) ze0))) (pv 1)))
   (zd0 (pset 5 nd (zk1 (zl1 (K:=K) rfl) ze0 (pv 2)))
   (zd0 (zn5 (zs0 (zz2 (K:=K) rfl (Room.units hr)) (zk1 zm2 (zk1 zu1 (pv 0) ze0) ze0) ze0 (zz0 _)) (zj0 (pset 5 nd (zk1 (zl1 (K:=K) rfl) ze0 (zk1 zm2 (pv 2) ze0)))) zg1)
   (zd0 (pset 6 nd (zo1 (za0 zz6 (za0 (pv 5) zg0))))
   (zd0 (zn5 (zs0 (zz2 (K:=K) rfl (Room.units hr)) (zk1 zm2 (zk1 zu1 (pv 0) ze0) ze0) ze0 (zz0 _)) (zj0 (pset 6 nd (zo1 (za0 zz6 (za0 (pv 5) (za0 (zk1 zm2 (zk1 zu1 (pv 0) ze0) ze0) zg0)))))) zg1)
   (zd0 (zn5 (zs0 (zz2 (K:=K) rfl (Room.units hr)) (zk1 zm2 (zk1 zu1 (pv 0) ze0) ze0) ze0 (zz0 _)) (zj0 (pset 6 nd (zo1 (za0 zz6 (za0 (pv 5) (za0 (zk1 (zl1 (K:=K) rfl) ze0 (zk1 zu1 (pv 2) ze0)) (za0 (zk1 (zl1 (K:=K) rfl) ze0 (zk1 zm2 (zk1 zu1 (pv 0) ze0) ze0)) zg0))))))) zg1)
   (zj0 (zh1 (zo1 (za0 (pv 3) (za0 (pv 4) (za0 (pix w K hr (zi2 (za0 ze0 (za0 ze0 (za0 ze0 (za0 ze0 (za0 ze0 zg0)))))) (zk1 zm2 (zk1 zu1 (pv 0) ze0) ze0)) (za0 (zk1 zm2 (zk1 zu1 (pv 0) ze0) ze0) (za0 (pv 6) zg0))))))))))))))),(zn0 (zy0 (zl0 zy9 (zb0 0) (zb0 1)) (rgn 3))
   (zn0 (zy0 (zl0 zy9 (RfE.v (zl0 zf8 (RfE.v (zl0 zf8 (zb0 3) rvi)) (RfE.v (zl0 zy9 (RfE.v (zl0 zsf (zb0 0) rvi)) (RfE.v (zl0 zij (zb0 1) rvi)))))) (zb0 1)) (rgn 4))
   (zn0 (zy0 (zl0 zf8 rvi (zb0 2)) (rgn 5))
   (zn0 (zm5 (zr0 (zv1 q_eq (RfV.h (RfE.v (zl0 zy9 (RfE.v (zl0 zsf (zb0 0) rvi)) rvi))) (RfV.h rvi))) (zy0 (zl0 zf8 rvi (RfE.v (zl0 zy9 (zb0 2) rvi))) (rgn 5)) zf1)
   (zn0 (zy0 (zs2 (zc0 za7 (zc0 (zi0 5) zo0))) (rgn 6))
   (zn0 (zm5 (zr0 (zv1 q_eq (RfV.h (RfE.v (zl0 zy9 (RfE.v (zl0 zsf (zb0 0) rvi)) rvi))) (RfV.h rvi))) (zy0 (zs2 (zc0 za7 (zc0 (zi0 5) (zc0 (zl0 zy9 (RfE.v (zl0 zsf (zb0 0) rvi)) rvi) zo0)))) (rgn 6)) zf1)
   (zn0 (zm5 (zr0 (zv1 q_eq (RfV.h (RfE.v (zl0 zy9 (RfE.v (zl0 zsf (zb0 0) rvi)) rvi))) (RfV.h rvi))) (zy0 (zs2 (zc0 za7 (zc0 (zi0 5) (zc0 (zl0 zf8 rvi (RfE.v (zl0 zsf (zb0 2) rvi))) (zc0 (zl0 zf8 rvi (RfE.v (zl0 zy9 (RfE.v (zl0 zsf (zb0 0) rvi)) rvi))) zo0))))) (rgn 6)) zf1)
   (zm1 (RfE.c (zs2 (zc0 (zi0 3) (zc0 (zi0 4) (zc0 (zl0 r_ix (RfE.v (RfF.e (zb7 (zc0 zd1 (zc0 zd1 (zc0 zd1 (zc0 zd1 (zc0 zd1 zo0)))))))) (RfE.v (zl0 zy9 (RfE.v (zl0 zsf (zb0 0) rvi)) rvi))) (zc0 (zl0 zy9 (RfE.v (zl0 zsf (zb0 0) rvi)) rvi) (zc0 (zi0 6) zo0))))))))))))))),?_⟩
 rintro ds Qd ⟨c,n,w,rfl,n2,n3,w0,w1,q⟩;walk_at"ds";walk_at"a";have u0:=yR c (b:=(n:Int)) (by lia);have u1:=yS c (b:=(n:Int)) (by lia);obtain⟨u,hu⟩:=xT u0;refine⟨by lia,hJ _ ?_⟩;clear hJ;rw[hu]at u1 ⊢;walk_at"a";have v0:=yR ((u:Int)+1+c / 3 % ((n:Int) - 1)) (b:=(n:Int)) (by lia);have v1:=yS ((u:Int)+1+c / 3 % ((n:Int) - 1)) (b:=(n:Int)) (by lia);obtain⟨v,hv⟩:=xT v0;refine⟨by lia,by lia,hJ _ ?_⟩;clear hJ;rw[hv]at v1 ⊢;walk_at"dn";refine za6 (λU=>∃x:Int,1<=x/\x<=100000000000/\U=[.sh (.int c),.sh (.int (n:Int)),.sh (.int w),.sh (.int (u:Int)),.sh (.int (v:Int)),.sh (.int x),.un]) ?_ ?_
 ·walk_at"dd";exact two (λ_=>⟨_,by lia,by lia,rfl⟩) λ_=>⟨_,by lia,by lia,rfl⟩
 rintro U ⟨x,x0,x1,rfl⟩;walk_at"dn";refine za6 (λU=>∃g:Gt,g.okk/\(∀m,g.at m<=100000000000)/\U=[.sh (.int c),.sh (.int (n:Int)),.sh (.int w),.sh (.int (u:Int)),.sh (.int (v:Int)),.sh (.int x),.sh g.d]) ?_ ?_
 ·walk_at"dd";refine two (λ_=>?_) λ_=>⟨.st x,⟨trivial,λ_=>by show 0<=x;lia⟩,λ_=>x1,rfl⟩
  obtain⟨f,hf⟩:=xT (show 0<=c / 162 % 3 by lia);rw[hf];refine⟨.la x f,⟨trivial,λm=>?_⟩,λm=>?_,rfl⟩
  ·show 0<=if f<=m then x else 0
   split <;> lia
  ·show(if f<=m then x else 0)<=_;split <;> lia
 rintro U ⟨g,hg,gb,rfl⟩;refine za6 (λU=>∃g:Gt,g.okk/\(∀m,g.at m<=100000000000)/\U=[.sh (.int c),.sh (.int (n:Int)),.sh (.int w),.sh (.int (u:Int)),.sh (.int (v:Int)),.sh (.int x),.sh g.d]) ?_ ?_
 ·walk_at"dd";refine two (λ_=>?_) λ_=>⟨g,hg,gb,rfl⟩
  obtain⟨f,hf⟩:=xT (show 0<=2+c / 162 % 2 by lia);rw[hf];refine⟨.ti x (1+w / 2) f,⟨⟨by lia,by lia⟩,λm=>?_⟩,λm=>?_,rfl⟩
  ·show 0<=if m % f=0 then x else _
   split <;> lia
  ·show(if m % f=0 then x else _)<=_;split <;> lia
 clear hg gb g;rintro U ⟨g,hg,gb,rfl⟩;walk_at"dd";obtain⟨l,l1,l2,hl⟩:∃l:Nat,1<=l/\l<=3/\atI [vQ 1,vQ 1,vQ 2,vQ 1,vQ 3] (c / 6 % 5)=some (.int (l:Int)):=by
  rcases(show c / 6 % 5=0 \/ c / 6 % 5=1 \/ c / 6 % 5=2 \/ c / 6 % 5=3 \/ c / 6 % 5=4 by lia)with h|h|h|h|h <;> rw[h]
  ·exact⟨1,by decide,by decide,rfl⟩
  ·exact⟨1,by decide,by decide,rfl⟩
  ·exact⟨2,by decide,by decide,rfl⟩
  ·exact⟨1,by decide,by decide,rfl⟩
  ·exact⟨3,by decide,by decide,rfl⟩
 exact⟨_,hl,q ⟨u,v,l,_,g⟩ ⟨by show u < n;lia,by show v < n;lia,l1,by show l<=20;lia,hg⟩ l2 gb⟩
theorem zdc:FnScope ["script", "cells", "many", "count", "wide"] ["script"] (zh0 zi8):=by walk_at"sc"
theorem zoi(M:Md K mg)(T:TopDef K "_law_yard" zi8)(jE:mg "range"=none)(jM:Def P w K mg base "_law_cell_at" 1 ["script", "k"] (spD K zq1))(qK:Def P w K mg base "_law_sums" 1 ["cells", "count"] (spD K zp9))(qY:Def P w K mg base "_law_pipe" 1 ["cell", "many", "most"] (spD K zzb)):Def P w K mg base "_law_yard" 2 ["script"] (spD K zxb):=by
 refine zi3 M T zdc (by walk_at"h") (zwa (by walk_at"i")) (zg3 ?_);walk_at"g";have nd:=zdc.nd;refine⟨_,(dSeq (dAsg (dSl (zm0 0) zxc (zvx (dC (.int 80)))) (gN 1))
   (dSeq (dAsg (dOp fAdd (dC (.int 1)) (dOp fMod (zd3 zq1 (zk0 (dVar 0) (zk0 (dC (.int 0)) dNil))) (dC (.int 3)))) (gN 2))
   (dSeq (dAsg (dC (.int 0)) (gN 3))
   (dSeq (dIf (za2 (dOp fGt (zm0 2) (dC (.int 1)))) (dAsg (dOp fAdd (dC (.int 1)) (dOp fMod (dOp fDiv (zd3 zq1 (zk0 (dVar 0) (zk0 (dC (.int 0)) dNil))) (dC (.int 3))) (dC (.int 4)))) (gN 3)) zz5)
   (dSeq (dAsg (zd3 zp9 (zk0 (dSl (zm0 1) (zvx (dC (.int 1))) zxc) (zk0 (dC (.int 4)) dNil))) (gN 4))
   (dRet (cE (dTup (zk0 (zd3 zp9 (zk0 (dVar 1) (zk0 (dVar 2) dNil))) (zk0 (dF (zbd (zih (zk0 (dVar 3) dNil)) 1 [2,0,4] (gN 0) zmf (zd3 zzb (zk0 (zd3 zq1 (zk0 (dVar 2) (zk0 (dOp fAdd (dC (.int 4)) (zm0 0)) dNil))) (zk0 (dVar 1) (zk0 (dOp fIx (zm0 3) (zm0 0)) dNil)))))) dNil)))))))))),(zd0 (pset 1 nd (zrc (sl_W (K:=K) rfl) (pv 0) zqd (zm9 ze0)))
   (zd0 (pset 2 nd (zk1 (zl1 (K:=K) rfl) ze0 (zk1 zm2 (zq0 jM (rmn hr) rfl (za0 (pv 0) (za0 ze0 zg0))) ze0)))
   (zd0 (pset 3 nd ze0)
   (zd0 (zn5 (zs0 zll (pv 2) ze0 (zz0 _)) (zj0 (pset 3 nd (zk1 (zl1 (K:=K) rfl) ze0 (zk1 zm2 (zk1 zu1 (zq0 jM (rmn hr) rfl (za0 (pv 0) (za0 ze0 zg0))) ze0) ze0)))) zg1)
   (zd0 (pset 4 nd (zq0 qK (rmn hr) rfl (za0 (zrc (sl_W (K:=K) rfl) (pv 1) (zm9 ze0) zqd) (za0 ze0 zg0))))
   (zj0 (zh1 (zo1 (za0 (zq0 qK (rmn hr) rfl (za0 (pv 1) (za0 (pv 2) zg0))) (za0 (zu4 (sc:=zh0 zi8) (N:=["script", "cells", "many", "count", "wide"]) (own:=["k"]) (ix:=[2,0,4]) rfl rfl rfl (by walk_at"csc") (zt1 rfl jE (za0 (pv 3) zg0)) (λ_ _ _ _=>⟨(pgn 0 (nds ["k", "many", "script", "wide"])),zj3,(zq0 qY (rmn hr) rfl (za0 (zq0 jM (rmn hr) rfl (za0 (pv 2) (za0 (zk1 (zl1 (K:=K) rfl) ze0 (pv 0)) zg0))) (za0 (pv 1) (za0 (pix w K hr (pv 3) (pv 0)) zg0))))⟩)) zg0)))))))))),(zn0 (zy0 (zp31 (zb0 0) znd (zjc zd1)) (rgn 1))
   (zn0 (zy0 (zl0 zf8 rvi (RfE.v (zl0 zy9 (RfE.v (zw0 (zc0 (zi0 0) (zc0 zd1 zo0)))) rvi))) (rgn 2))
   (zn0 (zy0 zd1 (rgn 3))
   (zn0 (zm5 (zr0 (zl0 r_gt (zb0 2) rvi)) (zy0 (zl0 zf8 rvi (RfE.v (zl0 zy9 (RfE.v (zl0 zsf (RfE.v (zw0 (zc0 (zi0 0) (zc0 zd1 zo0)))) rvi)) rvi))) (rgn 3)) zf1)
   (zn0 (zy0 (zw0 (zc0 (zp31 (zb0 1) (zjc zd1) znd) (zc0 zd1 zo0))) (rgn 4))
   (zm1 (RfE.c (zs2 (zc0 (zw0 (zc0 (zi0 1) (zc0 (zi0 2) zo0))) (zc0 (RfF.e (zj2 (RfI.j (za4 (zc0 (zi0 3) zo0))) (zn1 (i:=0) (n:=1) (by decide)) zg4 (zw0 (zc0 (zw0 (zc0 (zi0 2) (zc0 (zl0 zf8 rvi (zb0 0)) zo0))) (zc0 (zi0 1) (zc0 (zl0 r_ix (zb0 3) (zb0 0)) zo0)))))) zo0)))))))))),?_⟩
 rintro ds Qd ⟨ns,rfl,hl,q⟩;walk_at"ds";walk_at"a";walk_at"f";rw[zqb,show cutG ns none (some 80)=ns.take 80 from zbr ns 80,xY (by lia)];walk_at"a";refine⟨ns,0,rfl,by lia,λm=>?_⟩;walk_at"dd";obtain⟨n,hn⟩:=xT (show 0<=1+m % 3 by lia);have n1:1<=n:=by lia
 have n3:n<=3:=by lia
 walk_at"f";rw[hn];walk_at"dn";refine za6 (λU=>∃c:Nat,c<=4/\(c=0 \/ 2<=n)/\U=[.sh (.list (ns.map .int)),.sh (.list (ns.map .int)),.sh (.int (n:Int)),.sh (.int (c:Int)),.un]) ?_ ?_
 ·walk_at"dd";refine two (λz=>⟨ns,0,rfl,by lia,λm'=>?_⟩) λz=>⟨0,by lia,.inl rfl,rfl⟩
  walk_at"dd";refine⟨(1+m' / 3 % 4).toNat,by lia,.inr (by lia),?_⟩;rw[show((1+m' / 3 % 4).toNat:Int)=1+m' / 3 % 4 by lia]
 rintro U ⟨c,c4,cn,rfl⟩;walk_at"a";rw[zqb,show cutG ns (some 1) none=ns.drop 1 from zvi ns 1];refine⟨_,4,rfl,by rw[xV];lia,by lia,by lia,λwd hwd=>hJ _ ?_⟩;clear hJ;walk_at"dd";refine⟨ns,n,rfl,by lia,n1,by lia,λfl hfl=>⟨by lia,by lia,?_⟩⟩;rw[vZ];unfold rngD;refine zoc1 (λp:Pi=>PiOk n p/\p.len<=3/\∀m,p.g.at m<=100000000000) Pi.d (by rw[aW,wE];lia) (λk hk=>?_) λps hp1 hp2=>q fl ps ⟨by rw[hfl.1];exact n1,by rw[hfl.1];exact n3,hfl.2,by rw[hp1,wE];exact c4,λp hp=>by rw[hfl.1];exact hp2 p hp⟩;have hk:=u9.mp hk;rw[show(0:Int)+(k:Int)=(k:Int) by lia];have wl:=hwd.1;have wm:0<=wd.getD k 0/\wd.getD k 0 < 100000000000:=hwd.2 _ (by rw[v6,u6 (by lia)];exact w6 _);walk_at"cs";walk_at"dd";refine⟨ns,4+k,by congr 2,by lia,λm'=>?_⟩;walk_at"dd";refine⟨_,ga wd k (by lia),m',n,_,rfl,by lia,n3,wm.1,wm.2,λp h1 h2 h3=>⟨p,⟨h1,h2,h3⟩,rfl⟩⟩
end
def gL(L:List Le)(m i:Nat):Int:=su L λl=>if l.t=m/\l.at_=i then l.am else 0
theorem zt41(l:Le)(r:List Le)(m i:Nat):gL (l :: r) m i=(if l.t=m/\l.at_=i then l.am else 0)+gL r m i:=za1 ..
theorem zmj(L:List Le)(l:Le)(m i:Nat):gL (L++[l]) m i=gL L m i+if l.t=m/\l.at_=i then l.am else 0:=by unfold gL;rw[zt5,za1,zu5];lia
theorem zp11{α:Type}{l:List α}{f:α->Int}(h:∀x∈l,0<=f x):0<=su l f:=by
 have:=zoy (l:=l) (f:=λ_=>0) (g:=f) h
 rwa [zlc]at this
theorem zf91{M I:Nat}(c:Nat->Nat->Prop)[∀m i,Decidable (c m i)]:∀{es:List Le},(∀e∈es,e.t < M/\e.at_ < I)->(su es λe=>if c e.t e.at_ then e.am else 0)=su (u4 M) λm=>su (u4 I) λi=>if c m i then gL es m i else 0
|[],_=>by
  rw[zu5];refine(su_zero' λm _=>su_zero' λi _=>?_).symm;show(if c m i then gL [] m i else 0)=0;split
  ·rfl
  ·rfl
|e :: r,h=>by
  obtain⟨hm,hi⟩:=h e (by simp);have ih:=zf91 c (es:=r) λe he=>h e (by simp[he]);have e1:(su (u4 M) λm=>su (u4 I) λi=>if c m i then gL (e :: r) m i else 0)=(su (u4 M) λm=>su (u4 I) λi=>if m=e.t then(if i=e.at_ then(if c e.t e.at_ then e.am else 0)else 0)else 0)+su (u4 M) λm=>su (u4 I) λi=>if c m i then gL r m i else 0:=by
   rw[<- zla];refine zp0 λm _=>?_;rw[<- zla];refine zp0 λi _=>?_;rw[zt41];by_cases a:m=e.t
   ·by_cases b:i=e.at_
    ·subst a;subst b;rw[aF rfl,aF rfl];by_cases hc:c e.t e.at_
     ·rw[aF hc,aF hc,aF hc,aF ⟨rfl,rfl⟩]
     ·rw[aA hc,aA hc,aA hc];rfl
    ·rw[aF a,aA b,show(if e.t=m/\e.at_=i then e.am else 0)=0 from aA (λz=>b z.2.symm),zZ,zZ]
   ·rw[aA a,show(if e.t=m/\e.at_=i then e.am else 0)=0 from aA (λz=>a z.1.symm),zZ,zZ]
  rw[za1,ih,e1];congr 1;have e2:∀m,(su (u4 I) λi=>if m=e.t then(if i=e.at_ then(if c e.t e.at_ then e.am else 0)else 0)else 0)=if m=e.t then(if c e.t e.at_ then e.am else 0)else 0:=λm=>by
   by_cases a:m=e.t
   ·rw[aF a];rw[zp0 (g:=λi=>if i=e.at_ then(if c e.t e.at_ then e.am else 0)else 0) λi _=>aF a];exact zx8 (λ_=>if c e.t e.at_ then e.am else 0) hi
   ·rw[aA a];exact su_zero' λi _=>aA a
  rw[zp0 λm _=>e2 m];exact(zx8 (λ_=>if c e.t e.at_ then e.am else 0) hm).symm
theorem zl31{ps:List Pi}(hi:i < ps.length)(h:m+pl ps i<=n):i∈pb ps m n:=by
 unfold pb;refine yJ.mpr ⟨(i,ps[i]),?_,?_⟩
 ·exact wI (i:=i) (by rw[xN,u6 hi];rfl)
 ·have:pl ps i=ps[i].len:=by unfold pl;rw[u6 hi];rfl
  show(if m+ps[i].len<=n then some i else none)=some i;rw[aF (by lia)]
theorem zco{ps:List Pi} :(pb ps m n).Nodup/\∀i∈pb ps m n,i < ps.length/\m+pl ps i<=n:=by
 rw[<- zhe];exact zcj ps m n _ (u7 _)
def arr(ps:List Pi)(L:List Le)(m k:Nat):Int:=su L λl=>if l.t+pl ps l.at_=m/\zt2 ps l.at_=k then l.am else 0
def outL(ps:List Pi)(L:List Le)(m k:Nat):Int:=su L λl=>if l.t=m/\zb1 ps l.at_=k then l.am else 0
def lieR(ps:List Pi)(fl:List Int)(L:List Le)(m k:Nat):Int:=fl.getD k 0+(su L λl=>if l.t+pl ps l.at_<=m/\zt2 ps l.at_=k then l.am else 0) - su L λl=>if l.t<=m/\zb1 ps l.at_=k then l.am else 0
theorem zy8(ps:List Pi)(fl:List Int)(L:List Le)(m k:Nat):lieR ps fl L m k=(if m=0 then fl.getD k 0 else lieR ps fl L (m - 1) k)+arr ps L m k - outL ps L m k:=by
 unfold lieR arr outL;cases m with
|zero =>
  rw[aF rfl];congr 1
  ·congr 1;exact zp0 λl _=>by simp only[Nat.le_zero]
  ·exact zp0 λl _=>by simp only[Nat.le_zero]
|succ m =>
  rw[aA (yF m),z5];have e1:(su L λl=>if l.t+pl ps l.at_<=m+1/\zt2 ps l.at_=k then l.am else 0)=(su L λl=>if l.t+pl ps l.at_<=m/\zt2 ps l.at_=k then l.am else 0)+su L λl=>if l.t+pl ps l.at_=m+1/\zt2 ps l.at_=k then l.am else 0:=by
   rw[<- zla];refine zp0 λl _=>?_;by_cases g:zt2 ps l.at_=k
   ·simp only[g,and_true];split <;> split <;> split <;> lia
   ·simp only[g,and_false,if_false];rfl
  have e2:(su L λl=>if l.t<=m+1/\zb1 ps l.at_=k then l.am else 0)=(su L λl=>if l.t<=m/\zb1 ps l.at_=k then l.am else 0)+su L λl=>if l.t=m+1/\zb1 ps l.at_=k then l.am else 0:=by
   rw[<- zla];refine zp0 λl _=>?_;by_cases g:zb1 ps l.at_=k
   ·simp only[g,and_true];split <;> split <;> split <;> lia
   ·simp only[g,and_false,if_false];rfl
  rw[e1,e2];lia
structure Pln(u:Nat)(fl:List Int)(ps:List Pi)(L:List Le):Prop where
 lt:∀l∈L,l.t < u/\l.at_ < ps.length/\1<=l.am
 cap:∀m i,i < ps.length->gL L m i<=zj8 ps i m
 nn:∀m k,m<=u->k < fl.length->0<=lieR ps fl L m k
section
variable {u n:Nat}{fl:List Int}{ps:List Pi}{L:List Le}{vs:List Va}{f:Fm}
theorem Pln.g0(p:Pln u fl ps L)(m i:Nat):0<=gL L m i:=zp11 λl hl=>by
 have:=(p.lt l hl).2.2;split <;> lia
theorem Pln.inn(p:Pln u fl ps L)(hn:u<=n)(hg:f.g=gL L){m k:Nat}(hm:m<=n):(ntOf vs ps n).inn f m k=arr ps L m k:=by
 have e1:∀m',(su (pb ps m' n) λi=>if m'+pl ps i=m/\zt2 ps i=k then gL L m' i else 0)=su (u4 ps.length) λi=>if m'+pl ps i=m/\zt2 ps i=k then gL L m' i else 0:=λm'=>by
  rw[<- zjl _ zco.1 λi hi=>(zco.2 i hi).1];refine zp0 λi hi=>?_;by_cases c:m'+pl ps i=m/\zt2 ps i=k
  ·rw[aF (zl31 (u9.mp hi) (by lia))]
  ·rw[aA c];split <;> rfl
 show(su (u4 n) λm'=>su (pb ps m' n) λi=>if m'+pl ps i=m/\zt2 ps i=k then f.g m' i else 0)=_;rw[hg,zp0 λm' _=>e1 m'];exact(zf91 (λm' i=>m'+pl ps i=m/\zt2 ps i=k) (M:=n) (I:=ps.length) λl hl=>⟨by have:=(p.lt l hl).1;lia,(p.lt l hl).2.1⟩).symm
theorem Pln.out(p:Pln u fl ps L)(hg:f.g=gL L){m k:Nat}:(ntOf vs ps n).out f m k<=outL ps L m k:=by
 show(if m < n then su (pb ps m n) λi=>if zb1 ps i=k then f.g m i else 0 else 0)<=_;have e:outL ps L m k=su (u4 ps.length) λi=>if zb1 ps i=k then gL L m i else 0:=by
  have:=zf91 (λm' i=>m'=m/\zb1 ps i=k) (M:=u+m+1) (I:=ps.length) (es:=L) λl hl=>⟨by have:=(p.lt l hl).1;lia,(p.lt l hl).2.1⟩
  unfold outL;rw[this,<- zx8 (n:=u+m+1) (k:=m) (λm'=>su (u4 ps.length) λi=>if zb1 ps i=k then gL L m' i else 0) (by lia)];refine zp0 λm' _=>?_;by_cases c:m'=m
  ·rw[aF c];exact zp0 λi _=>by simp only[c,true_and]
  ·rw[aA c];exact su_zero' λi _=>aA λz=>c z.1
 have nn:∀i,0<=if zb1 ps i=k then gL L m i else 0:=λi=>by split;exact p.g0 m i;exact wR 0
 rw[e];split
 ·rw[hg];exact su_sub' (λi _=>nn i) zco.1 λi hi=>(zco.2 i hi).1
 ·exact zp11 λi _=>nn i
theorem Pln.outz(p:Pln u fl ps L){k:Nat}(h:u<=m):outL ps L m k=0:=su_zero' λl hl=>aA λz=>by have:=(p.lt l hl).1;lia
theorem Pln.arr0(p:Pln u fl ps L){k:Nat}:0<=arr ps L m k:=zp11 λl hl=>by
 have:=(p.lt l hl).2.2;split <;> lia
structure Vok(u:Nat)(fl:List Int)(ps:List Pi)(L:List Le)(vs:List Va)(ws:List Int):Prop where
 n:vs.length=fl.length
 w:ws.length=fl.length
 f:∀(k:Nat) v,vs[k]?=some v->v.fill=fl.getD k 0
 r:∀(k:Nat) v,vs[k]?=some v->v.fill<=v.room/\∀m,m<=u->lieR ps fl L m k<=v.room
 ww:∀k,k < fl.length->0<=cW ws k/\cW ws k<=lieR ps fl L u k
theorem Pln.lk(p:Pln u fl ps L)(Yv:Yw fl ps)(V:Vok u fl ps L vs ws)(hn:u<=n):(ntOf vs ps n).Lk [cW ws] ⟨λk=>fl.getD k 0,λm k=>if m < u then lieR ps fl L m k else cW ws k,gL L,[cW ws]⟩:=by
 have hN:(ntOf vs ps n).N=fl.length:=V.n;have at_:∀k,k < fl.length->∃v,vs[k]?=some v/\(ntOf vs ps n).fl k=fl.getD k 0/\(ntOf vs ps n).rm k=v.room:=λk hk=>by
  have hkv:k < vs.length:=by rw[V.n];exact hk
  have e:vs[k]?=some vs[k]:=u6 hkv;refine⟨_,e,?_,?_⟩
  ·show((vs[k]?).map Va.fill).getD 0=_;rw[e];exact V.f k _ e
  ·show((vs[k]?).map Va.room).getD 0=_;rw[e];rfl
 have f0:∀k,k < fl.length->0<=fl.getD k 0:=λk hk=>by
  have:fl.getD k 0∈fl:=by rw[v6,u6 hk];exact w6 hk
  exact(Yv.f _ this).1
 refine⟨rfl,λk hk=>?_,λm k hm hk=>?_,λm i hm hi=>?_,λx hx k hk=>?_,λm k hm hk=>?_⟩
 ·rw[hN]at hk;obtain⟨v,e,e1,e2⟩:=at_ k hk;rw[e1];exact⟨f0 k hk,wR _⟩
 ·rw[hN]at hk;obtain⟨v,e,e1,e2⟩:=at_ k hk;rw[e2];show 0<=(if m < u then lieR ps fl L m k else cW ws k)/\(if m < u then lieR ps fl L m k else cW ws k)<=_;have h1:=(V.r k v e).2;have h2:=V.ww k hk;have h3:=h1 u (u7 _);split
  ·exact⟨p.nn m k (by lia) hk,h1 m (by lia)⟩
  ·lia
 ·exact⟨p.g0 m i,p.cap m i (zco.2 i hi).1⟩
 ·rw[hN]at hk;have hx:x=(cW ws,cW ws):=by simpa using hx
  subst hx;exact⟨(V.ww k hk).1,wR _⟩
 ·rw[hN]at hk;have hm:m<=n:=hm;rw[p.inn hn rfl hm];have o1:=p.out (vs:=vs) (n:=n) (f:=⟨λk=>fl.getD k 0,λm k=>if m < u then lieR ps fl L m k else cW ws k,gL L,[cW ws]⟩) rfl (m:=m) (k:=k);have rr:=zy8 ps fl L m k;have a0:=p.arr0 (m:=m) (k:=k);have w1:=V.ww k hk;show _+(if m < n then(if m < u then lieR ps fl L m k else cW ws k)else su [cW ws] λt=>t k)<=(if m=0 then fl.getD k 0 else if m - 1 < u then lieR ps fl L (m - 1) k else cW ws k)+_;rw[za1,zu5,x8];by_cases e:m < u
  ·rw[aF (by lia),aF e];by_cases z:m=0
   ·rw[aF z]at rr ⊢;lia
   ·rw[aA z]at rr ⊢;rw[aF (by lia)];lia
  ·have oz:=p.outz (k:=k) (show u<=m by lia);rw[aA e];have e3:(if m < n then cW ws k else cW ws k)=cW ws k:=by split <;> rfl
   rw[e3];by_cases z:m=u
   ·subst z;by_cases z:m=0
    ·rw[aF z]at rr ⊢;lia
    ·rw[aA z]at rr ⊢;rw[aF (by lia)];lia
   ·rw[aA (by lia),aA (by lia)];lia
end
def rg(N:Nat)(φ:Nat->Int):List Int:=(u4 N).map φ
theorem zdh(N:Nat)(φ:Nat->Int):(rg N φ).length=N:=by simp[rg]
theorem zs71{k:Nat}(h:k < N):(rg N φ).getD k 0=φ k:=by
 unfold rg;rw[v6,u8,xA h];rfl
theorem zzp{k:Nat}(h:k < N):atI ((rg N φ).map vQ) ((k:Nat):Int)=some (.int (φ k)):=by
 rw[ga _ k (by rw[zdh];exact h),zs71 h]
theorem ziz{k:Nat}(h:k < N):((rg N φ).map vQ)[((k:Nat):Int).toNat]?=some (.int (φ k)):=by
 unfold rg;rw[vZ,u8,u8,xA h];rfl
theorem ze2(h:∀k,k < N->φ k=ψ k):rg N φ=rg N ψ:=x6 λk hk=>h k (u9.mp hk)
theorem zmh{v:Nat}(x:Int)(hv:v < N)(h1:ψ v=x)(h2:∀k,k < N->k≠v->ψ k=φ k):((rg N φ).map vQ).set v (.int x)=(rg N ψ).map vQ:=by
 unfold rg;refine yC (by simp) λi p q=>?_;simp at q;rw[List.getElem_set];by_cases e:v=i
 ·subst e;simp[h1]
 ·rw[aA e];simp[h2 i q (λz=>e z.symm)]
theorem zq11(l:List Int):l=rg l.length (λk=>l.getD k 0):=by
 refine yC (by simp[rg]) λi p q=>?_;simp[rg,u6 p]
theorem zob{α:Type}{l:List α}{x:α}(h:l[i]?=some x):l.take (i+1)=l.take i++[x]:=by
 rw[List.take_add_one,h];rfl
theorem zge{α:Type}(l:List α)(x:α)(f:α->Int):su (l++[x]) f=su l f+f x:=by rw[zt5,za1,zu5];lia
structure Go(u:Nat)(fl:List Int)(ps:List Pi)(m:Nat)(L:List Le):Prop where
 lt:∀l∈L,l.t < u/\l.at_ < ps.length/\1<=l.am/\l.t < m
 cap:∀j i,i < ps.length->gL L j i<=zj8 ps i j
 nn:∀j k,j < m->k < fl.length->0<=lieR ps fl L j k
 ln:L.length<=80 * m
theorem zdw{ps:List Pi}{fl:List Int}{L:List Le}{l:Le}{j k:Nat}(hp:1<=pl ps l.at_)(h:j<=l.t):lieR ps fl (L++[l]) j k=lieR ps fl L j k - if j=l.t/\zb1 ps l.at_=k then l.am else 0:=by
 unfold lieR;rw[zge,zge,aA (λz=>by lia)];by_cases e:j=l.t
 ·by_cases z:zb1 ps l.at_=k
  ·rw[aF ⟨by lia,z⟩,aF ⟨e,z⟩];lia
  ·rw[aA (λy=>z y.2),aA (λy=>z y.2)];lia
 ·rw[aA (λy=>e (by lia)),aA (λy=>e y.1)];lia
def stL(ps:List Pi)(fl:List Int)(L:List Le)(m k:Nat):Int:=if m=0 then fl.getD k 0 else lieR ps fl L (m - 1) k
theorem zp61(g:Gt):Fit 1 g.d:=by
 cases g <;> exact Fit.tup λe he=>by
  simp at he;rcases he with rfl|rfl|rfl|rfl <;> first|exact Fit.int _|exact Fit.str (by decide +kernel)
theorem zm81(p:Pi):Fit 2 p.d:=Fit.tup λe he=>by
 simp at he;rcases he with rfl|rfl|rfl|rfl|rfl
 ·exact Fit.int _
 ·exact Fit.int _
 ·exact Fit.int _
 ·exact Fit.int _
 ·exact zp61 _
def zba:DSp:=λds Q=>∃(cs fl:List Int)(ps:List Pi)(u:Nat),ds=[.list (cs.map .int),.list (fl.map .int),.list (ps.map Pi.d),.int (u:Int)]/\Yw fl ps/\cs.length<=80/\u<=3 /\
 ∀(L:List Le)(τ:Nat->Int),Pln u fl ps L->(∀k,k < fl.length->fl.getD k 0<=τ k)->(∀m k,m<=u->k < fl.length->lieR ps fl L m k<=τ k)->Q (.tuple [.list ((rg fl.length (lieR ps fl L u)).map .int),.list ((rg fl.length τ).map .int)])
section
variable {P:aN}{w:aQ}{K:Fg}{mg:Str->Option aC}{base:aT}
theorem zeb:FnScope ["cells", "fills", "pipes", "until", "lies", "tops", "plan", "moment", "one", "used", "cell", "at", "most", "amount", "k"] ["cells", "fills", "pipes", "until"] (zh0 zb6):=by walk_at"sc"
theorem zbg(M:Md K mg)(T:TopDef K "_law_drawn" zb6)(jJ:mg "len"=none)(jX:mg "list"=none)(vH:mg "max"=none)(uU:mg "min"=none)(jE:mg "range"=none)(jN:Def P w K mg base "_law_width" 1 ["gate", "moment"] (spD K zx2)):Def P w K mg base "_law_drawn" 2 ["cells", "fills", "pipes", "until"] (spD K zba):=by
 refine zi3 M T zeb (by walk_at"h") (zwa (by walk_at"i")) (zg3 ?_);walk_at"g";have nd:=zeb.nd;refine⟨_,(dSeq (dSet 4 (cF (dCF zeq (zk0 (zm0 1) dNil))))
   (dSeq (dSet 5 (cF (dCF zeq (zk0 (zm0 1) dNil))))
   (dSeq (dSet 6 (cF (dLst dNil)))
   (dSeq (dFor (zih (zk0 (dOp fAdd (zm0 3) (dC (.int 1))) dNil)) (gN 7) (dSeq (zz81 6 (gN 8) (dIf (za2 (dOp fEq (dOp fAdd (dOp fIx (zm0 8) (dC (.int 0))) (dOp fIx (dOp fIx (zm0 2) (dOp fIx (zm0 8) (dC (.int 1)))) (dC (.int 2)))) (zm0 7))) (zfq (λi j=>i+j) (pVar 4) (dOp fIx (dOp fIx (zm0 2) (dOp fIx (zm0 8) (dC (.int 1)))) (dC (.int 1))) (dOp fIx (zm0 8) (dC (.int 2)))) zz5))
   (dSeq (dSet 9 (cF (zbd (dIt (zm0 2)) 1 [] (gN 0) zmf (dC (.int 0)))))
   (dSeq (dFor (dIt (dVar 0)) (gN 10) (dSeq (dIf (dOr (za2 (dOp fEq (zm0 7) (zm0 3))) (dOr (za2 (dOp fEq (zm0 2) (dF (dLst dNil)))) (za2 (dOp fNe (dOp fMod (zm0 10) (zm0 3)) (zm0 7))))) zw41 zz5)
   (dSeq (dAsg (dOp fMod (dOp fDiv (zm0 10) (dC (.int 3))) (dCB fLen (zk0 (zm0 2) dNil))) (gN 11))
   (dSeq (dAsg (dCB zfz (zk0 (dOp fIx (zm0 4) (dOp fIx (dOp fIx (zm0 2) (zm0 11)) (dC (.int 0)))) (zk0 (dOp fSub (zd3 zx2 (zk0 (dOp fIx (dOp fIx (zm0 2) (zm0 11)) (dC (.int 4))) (zk0 (dVar 7) dNil))) (dOp fIx (zm0 9) (zm0 11))) dNil))) (gN 12))
   (dSeq (dAsg (dVar 12) (gN 13))
   (dSeq (dIf (za2 (dOp fGt (dOp fMod (dOp fDiv (zm0 10) (dC (.int 12))) (dC (.int 3))) (dC (.int 0)))) (dAsg (dOp fMod (dOp fDiv (zm0 10) (dC (.int 36))) (dOp fAdd (zm0 12) (dC (.int 1)))) (gN 13)) zz5)
   (dIf (za2 (dOp fGt (zm0 13) (dC (.int 0)))) (dSeq (zjh (cBM "list" mApp (pVar 6) (zk0 (dTup (zk0 (dVar 7) (zk0 (dVar 11) (zk0 (dVar 13) dNil)))) dNil)))
   (dSeq (zfq (λi j=>i - j) (pVar 4) (dOp fIx (dOp fIx (zm0 2) (zm0 11)) (dC (.int 0))) (dVar 13))
   (zfq (λi j=>i+j) (pVar 9) (dVar 11) (dVar 13)))) zz5)))))))
   (dFor (zih (zk0 (dCB fLen (zk0 (zm0 1) dNil)) dNil)) (gN 14) (dPut (pVar 5) (dVar 14) (dCB zsz (zk0 (dOp fIx (zm0 5) (zm0 14)) (zk0 (dOp fIx (zm0 4) (zm0 14)) dNil)))))))))
   (dFrz 5 [] (dFrz 4 [] (dRet (cE (dTup (zk0 (dVar 4) (zk0 (dVar 5) dNil))))))))))),(zd0 (pset 4 nd (zk6 (zq5 (K:=K) rfl) rfl jX zva (za0 (pv 1) zg0)))
   (zd0 (pset 5 nd (zk6 (zq5 (K:=K) rfl) rfl jX zva (za0 (pv 1) zg0)))
   (zd0 (pset 6 nd (zi2 zg0))
   (zd0 (zt3 aR rfl (zt1 rfl jE (za0 (zk1 (zl1 (K:=K) rfl) (pv 3) ze0) zg0)) (pgn 7 nd) (zd0 (zt3 aR rfl (pi_W (K:=K) rfl (pv 6)) (pgn 8 nd) (zj0 (zn5 (zs0 (zz2 (K:=K) rfl (Room.units hr)) (zk1 (zl1 (K:=K) rfl) (pix w K hr (pv 8) ze0) (pix w K hr (pix w K hr (pv 2) (pix w K hr (pv 8) ze0)) ze0)) (pv 7) (zz0 _)) (zj0 (zqa (pv 4) (pix w K hr (pix w K hr (pv 2) (pix w K hr (pv 8) ze0)) ze0) (zjt (K:=K) (Room.units hr) rfl) (pix w K hr (pv 8) ze0) zyf (zpp (Room.units hr)))) zg1)))
   (zd0 (zh3 (i:=9) (sc:=zh0 zb6) (N:=["cells", "fills", "pipes", "until", "lies", "tops", "plan", "moment", "one", "used", "cell", "at", "most", "amount", "k"]) (own:=["pipe"]) (ix:=[]) rfl rfl rfl (by walk_at"csc") nd rfl rfl (pi_W (K:=K) rfl (pv 2)) (λ_ _ _ _=>⟨(pgn 0 (nds ["pipe"])),zj3,ze0⟩))
   (zd0 (zt3 aR rfl (pi_W (K:=K) rfl (pv 0)) (pgn 10 nd) (zd0 (zn5 (PW.pt (zhh (zs0 (zz2 (K:=K) rfl (Room.units hr)) (pv 7) (pv 3) (zz0 _)) (zhh (zs0 (zz2 (K:=K) rfl (Room.units hr)) (pv 2) (zi2 zg0) (zz0 _)) (zzg (zs0 (zpn (K:=K) rfl (Room.units hr)) (zk1 zm2 (pv 10) (pv 3)) (pv 7) (zz0 _)))))) (zj0 zee) zg1)
   (zd0 (pset 11 nd (zk1 zm2 (zk1 zu1 (pv 10) ze0) (zv0 (zi1 (K:=K) rfl) rfl jJ ze5 (za0 (pv 2) zg0))))
   (zd0 (pset 12 nd (zv0 (zlq rfl) rfl uU zi11 (za0 (pix w K hr (pv 4) (pix w K hr (pix w K hr (pv 2) (pv 11)) ze0)) (za0 (zk1 zj9 (zq0 jN (rmn hr) rfl (za0 (pix w K hr (pix w K hr (pv 2) (pv 11)) ze0) (za0 (pv 7) zg0))) (pix w K hr (pv 9) (pv 11))) zg0))))
   (zd0 (pset 13 nd (pv 12))
   (zd0 (zn5 (zs0 zll (zk1 zm2 (zk1 zu1 (pv 10) ze0) ze0) ze0 (zz0 _)) (zj0 (pset 13 nd (zk1 zm2 (zk1 zu1 (pv 10) ze0) (zk1 (zl1 (K:=K) rfl) (pv 12) ze0)))) zg1)
   (zj0 (zn5 (zs0 zll (pv 13) ze0 (zz0 _)) (zd0 (zf2 (zk8 (K:=K) rfl ğa ğb ğc zk2 (pv 6) (za0 (zo1 (za0 (pv 7) (za0 (pv 11) (za0 (pv 13) zg0)))) zg0)))
   (zd0 (zqa (pv 4) (pix w K hr (pix w K hr (pv 2) (pv 11)) ze0) (zjt (K:=K) (Room.units hr) rfl) (pv 13) zyk (zpp (Room.units hr)))
   (zj0 (zqa (pv 9) (pv 11) (zjt (K:=K) (Room.units hr) rfl) (pv 13) zyf (zpp (Room.units hr)))))) zg1))))))))
   (zj0 (zt3 aR rfl (zt1 rfl jE (za0 (zv0 (zi1 (K:=K) rfl) rfl jJ ze5 (za0 (pv 1) zg0)) zg0)) (pgn 14 nd) (zj0 (zax (zv0 (znq rfl) rfl vH zk61 (za0 (pix w K hr (pv 5) (pv 14)) (za0 (pix w K hr (pv 4) (pv 14)) zg0))) (zsu (pv 5) (pv 14) (zpp (Room.units hr)))))))))))
   (zj0 (zh1 (zo1 (za0 (pv 4) (za0 (pv 5) zg0))))))))),(zn0 (zf3 (RfF.c (zqz zzk (zx0 (zb0 1) zp1))))
   (zn0 (zf3 (RfF.c (zqz zzk (zx0 (zb0 1) zp1))))
   (zn0 (zf3 (RfF.c (zb7 zo0)))
   (zn0 (zj4 (za4 (zc0 (zl0 zf8 (zb0 3) rvi) zo0)) (rgn 7) (zn0 (zh41 (i:=6) (rgn 8) (zm5 (zr0 (zv1 q_eq (RfV.h (RfE.v (zl0 zf8 (RfE.v (zl0 r_ix (zb0 8) rvi)) (RfE.v (zl0 r_ix (RfE.v (zl0 r_ix (zb0 2) (RfE.v (zl0 r_ix (zb0 8) rvi)))) rvi))))) (RfV.h (zb0 7)))) (zra (zu0 4) (zl0 r_ix (RfE.v (zl0 r_ix (zb0 2) (RfE.v (zl0 r_ix (zb0 8) rvi)))) rvi) (zl0 r_ix (zb0 8) rvi)) zf1))
   (zn0 (zf3 (RfF.c (zj2 (zct (zb0 2)) (zn1 (i:=0) (n:=1) (by decide)) zg4 zd1)))
   (zn0 (zj4 (zgq (zi0 0)) (rgn 10) (zn0 (zm5 (zlh (zr0 (zv1 q_eq (RfV.h (zb0 7)) (RfV.h (zb0 3)))) (zlh (zr0 (zv1 q_eq (RfV.h (zb0 2)) (zp21 zyn))) (zr0 (zv1 q_ne (RfV.h (RfE.v (zl0 zy9 (zb0 10) (zb0 3)))) (RfV.h (zb0 7)))))) zft zf1)
   (zn0 (zy0 (zl0 zy9 (RfE.v (zl0 zsf (zb0 10) rvi)) (RfE.v (zu8 zid (zx0 (zb0 2) zp1)))) (rgn 11))
   (zn0 (zy0 (zu8 zm91 (zx0 (RfE.v (zl0 r_ix (zb0 4) (RfE.v (zl0 r_ix (RfE.v (zl0 r_ix (zb0 2) (zb0 11))) rvi)))) (zx0 (RfE.v (zl0 zij (RfE.v (zw0 (zc0 (zl0 r_ix (RfE.v (zl0 r_ix (zb0 2) (zb0 11))) rvi) (zc0 (zi0 7) zo0)))) (RfE.v (zl0 r_ix (zb0 9) (zb0 11))))) zp1))) (rgn 12))
   (zn0 (zy0 (zi0 12) (rgn 13))
   (zn0 (zm5 (zr0 (zl0 r_gt (RfE.v (zl0 zy9 (RfE.v (zl0 zsf (zb0 10) rvi)) rvi)) rvi)) (zy0 (zl0 zy9 (RfE.v (zl0 zsf (zb0 10) rvi)) (RfE.v (zl0 zf8 (zb0 12) rvi))) (rgn 13)) zf1)
   (zm5 (zr0 (zl0 r_gt (zb0 13) rvi)) (zn0 (zh2 (zkh zhd (zu0 6) (zc0 (zs2 (zc0 (zi0 7) (zc0 (zi0 11) (zc0 (zi0 13) zo0)))) zo0)))
   (zn0 (zra (zu0 4) (zl0 r_ix (RfE.v (zl0 r_ix (zb0 2) (zb0 11))) rvi) (zi0 13))
   (zra (zu0 9) (zi0 11) (zi0 13)))) zf1)))))))
   (zj4 (za4 (zc0 (zu8 zid (zx0 (zb0 1) zp1)) zo0)) (rgn 14) (zbv (zu8 zh71 (zx0 (RfE.v (zl0 r_ix (zb0 5) (zb0 14))) (zx0 (RfE.v (zl0 r_ix (zb0 4) (zb0 14))) zp1))) (zu0 5) (zi0 14)))))))
   (zgb 5 [] (zgb 4 [] (zm1 (RfE.c (zs2 (zc0 (zi0 4) (zc0 (zi0 5) zo0))))))))))),?_⟩
 rintro ds Qd ⟨cs,fl,ps,u,rfl,Yv,hc,hu,q⟩;have n1:=Yv.n1;have n3:=Yv.n3;have m4:=Yv.m4;have pgp:∀i,i < ps.length->∃p,ps[i]?=some p/\zb1 ps i=p.u/\zt2 ps i=p.v/\pl ps i=p.len/\p.u < fl.length/\p.v < fl.length/\1<=p.len/\p.g.ok/\∀m,zj8 ps i m=p.g.at m/\0<=p.g.at m:=λi hi=>by
  have e:ps[i]?=some ps[i]:=u6 hi;obtain⟨h1,h2,h3,_,h5,h6⟩:=(Yv.p _ (w6 hi)).1;exact⟨_,e,by unfold zb1;rw[e];rfl,by unfold zt2;rw[e];rfl,by unfold pl;rw[e];rfl,h1,h2,h3,h5,λm=>⟨by unfold zj8;rw[e];rfl,h6 m⟩⟩
 walk_at"ds";walk_at"dn";walk_at"dn";walk_at"dn";walk_at"a";rw[show((u:Int)+1).toNat=u+1 by lia];unfold rngD;refine⟨by lia,by lia,?_⟩;refine zb2 (λm U=>∃(L:List Le)(τ:Nat->Int)(s7 s8 s9 s10 s11 s12 s13 s14:Sl),Go u fl ps m L/\(∀k,k < fl.length->fl.getD k 0<=τ k)/\(∀j k,j < m->k < fl.length->lieR ps fl L j k<=τ k)/\U=[.sh (.list (cs.map .int)),.sh (.list (fl.map .int)),.sh (.list (ps.map Pi.d)),.sh (.int (u:Int)),.ow (.li ((rg fl.length (stL ps fl L m)).map .int)),.ow (.li ((rg fl.length τ).map .int)),.ow (.li (L.map Le.d)),s7,s8,s9,s10,s11,s12,s13,s14]) ⟨[],λk=>fl.getD k 0,.un,.un,.un,.un,.un,.un,.un,.un,⟨λl hl=>by simp at hl,λj i hi=>?_,λj k hj=>by lia,by simp⟩,λk _=>wR _,λj k hj=>by lia,?_⟩ ?_ ?_
 ·obtain⟨p,_,_,_,_,_,_,_,_,hw⟩:=pgp i hi;rw[(hw j).1];exact(hw j).2
 ·have e:rg fl.length (stL ps fl [] 0)=rg fl.length λk=>fl.getD k 0:=ze2 λk _=>aF rfl;rw[e,<- zq11];rfl
 ·rintro m x U hx ⟨L,τ,s7,s8,s9,s10,s11,s12,s13,s14,G,hf,ht,rfl⟩;obtain⟨h1,h2⟩:=v8.mp hx;simp at h1 h2;subst h2;rw[show(0:Int)+(m:Int)=(m:Int) by lia];walk_at"dd";refine zf0 λJ hJ=>?_;refine zsv (xs:=L) (enc:=Le.d) (i:=6) rfl (λa j U=>∃s8:Sl,U=[.sh (.list (cs.map .int)),.sh (.list (fl.map .int)),.sh (.list (ps.map Pi.d)),.sh (.int (u:Int)),.ow (.li ((rg fl.length (λk=>stL ps fl L m k+su (L.take j) λl=>if l.t+pl ps l.at_=m/\zt2 ps l.at_=k then l.am else 0)).map .int)),.ow (.li ((rg fl.length τ).map .int)),.io a (.li (L.map Le.d)),.sh (.int (m:Int)),s8,s9,s10,s11,s12,s13,s14]) (λa=>⟨s8,?_⟩) (λa j U' hw=>by obtain⟨s8,rfl⟩:=hw;rfl) ?_ ?_
  ·have e:rg fl.length (stL ps fl L m)=rg fl.length (λk=>stL ps fl L m k+su (L.take 0) λl=>if l.t+pl ps l.at_=m/\zt2 ps l.at_=k then l.am else 0):=ze2 λk _=>by rw[zG,zu5,x8]
   rw[e];rfl
  ·rintro a j l U hl ⟨s8,rfl⟩;have hlm:=G.lt l (wI hl);obtain⟨p,ep,e1,e2,e3,pu,pv,p1,pok,hw⟩:=pgp l.at_ hlm.2.1;have gp:atI (ps.map Pi.d) ((l.at_:Nat):Int)=some (.tuple [.int (p.u:Int),.int (p.v:Int),.int (p.len:Int),.int p.pr,p.g.d]):=gm Pi.d ep;rw[zob hl];simp only[zge];generalize hφ:(λk=>stL ps fl L m k+su (L.take j) λl=>if l.t+pl ps l.at_=m/\zt2 ps l.at_=k then l.am else 0)=φ;have hψ:∀k,stL ps fl L m k+((su (L.take j) λl=>if l.t+pl ps l.at_=m/\zt2 ps l.at_=k then l.am else 0)+if l.t+pl ps l.at_=m/\zt2 ps l.at_=k then l.am else 0)=φ k+if l.t+p.len=m/\p.v=k then l.am else 0:=λk=>by subst hφ;rw[e2,e3];exact(uaF _ _ _).symm
   simp only[hψ];clear hφ hψ;obtain⟨lt,la,lm⟩:=l;generalize L.map Le.d=LD;dsimp only[Le.d]at gp ⊢;walk_at"dd";refine⟨_,rfl,_,rfl,?_⟩;walk_at"dd";refine⟨_,gp,?_⟩;walk_at"dd";walk_at"k";refine two (λz=>⟨_,rfl,?_⟩) λz=>⟨.sh (.tuple [.int (lt:Int),.int (la:Int),.int lm]),?_⟩
   ·walk_at"dd";refine⟨_,gp,?_⟩;walk_at"dd";walk_at"k";refine⟨by lia,_,ziz pv,_,rfl,?_⟩;walk_at"dd";refine⟨p.v,ztg (by rw[u5,zdh];exact pv),.sh (.tuple [.int (lt:Int),.int (la:Int),.int lm]),?_⟩;rw[zmh (ψ:=λk=>φ k+if lt+p.len=m/\p.v=k then lm else 0) _ pv (by rw[aF ⟨by lia,rfl⟩]) λk _ hk=>by rw[aA λy=>hk y.2.symm];lia]
   ·rw[ze2 (φ:=φ) (ψ:=λk=>φ k+if lt+p.len=m/\p.v=k then lm else 0) λk _=>by rw[aA λy=>z (by lia)];lia]
  ·rintro a U ⟨s8,rfl⟩;rw[xH];walk_at"f";have e:rg fl.length (λk=>stL ps fl L m k+su L λl=>if l.t+pl ps l.at_=m/\zt2 ps l.at_=k then l.am else 0)=rg fl.length (lieR ps fl L m):=ze2 λk _=>by
    rw[zy8];have:outL ps L m k=0:=su_zero' λl hl=>aA λz=>by have:=(G.lt l hl).2.2.2;lia
    rw[this,yT];rfl
   rw[e];walk_at"dd";walk_at"a";refine zgk (λ_:Pi=>.int 0) (by rw[aW];lia) (λp _=>rfl) (hJ _ ?_);clear hJ;have eu:ps.map (λ_=>vQ 0)=(rg ps.length (gL L m)).map .int:=by
    unfold rg;rw[wD];refine yC (by simp) λi h1 h2=>?_;have:gL L m i=0:=su_zero' λl hl=>aA λz=>by have:=(G.lt l hl).2.2.2;lia
    simp[this]
   rw[eu];have R0:∀k,k < fl.length->0<=lieR ps fl L m k:=λk hk=>by
    rw[zy8];have:outL ps L m k=0:=su_zero' λl hl=>aA λz=>by have:=(G.lt l hl).2.2.2;lia
    have a0:0<=arr ps L m k:=zp11 λl hl=>by have:=(G.lt l hl).2.2.1;split <;> lia
    rw[this];split
    ·have:fl.getD k 0∈fl:=by rw[v6,u6 hk];exact w6 hk
     have:=(Yv.f _ this).1;lia
    ·have:=G.nn (m - 1) k (by lia) hk;lia
   walk_at"a";refine zb2 (λi U=>∃(L':List Le)(s8 s10 s11 s12 s13:Sl),(∀l∈L',l.t < u/\l.at_ < ps.length/\1<=l.am/\l.t < m+1)/\(∀j i,i < ps.length->gL L' j i<=zj8 ps i j)/\(∀j k,j < m+1->k < fl.length->0<=lieR ps fl L' j k)/\(∀j k,j < m->k < fl.length->lieR ps fl L' j k<=τ k)/\L'.length<=80 * m+i/\U=[.sh (.list (cs.map .int)),.sh (.list (fl.map .int)),.sh (.list (ps.map Pi.d)),.sh (.int (u:Int)),.ow (.li ((rg fl.length (lieR ps fl L' m)).map .int)),.ow (.li ((rg fl.length τ).map .int)),.ow (.li (L'.map Le.d)),.sh (.int (m:Int)),s8,.ow (.li ((rg ps.length (gL L' m)).map .int)),s10,s11,s12,s13,s14]) ⟨L,s8,s10,s11,s12,s13,λl hl=>⟨(G.lt l hl).1,(G.lt l hl).2.1,(G.lt l hl).2.2.1,by have:=(G.lt l hl).2.2.2;lia⟩,G.cap,λj k hj hk=>?_,ht,G.ln,rfl⟩ ?_ ?_
   ·by_cases e:j=m
    ·subst e;exact R0 k hk
    ·exact G.nn j k (by lia) hk
   ·clear hJ;rintro i c U hc2 ⟨L',s8,s10,s11,s12,s13,lt,cap,nn,ht',ln,rfl⟩;have hi:i < 80:=by have:=(v8.mp hc2).1;lia
    have skip:∀s10 s11 s12 s13:Sl,∃(L'_1:List Le)(s8_1 s10_1 s11_1 s12_1 s13_1:Sl),(∀l∈L'_1,l.t < u/\l.at_ < ps.length/\1<=l.am/\l.t < m+1)/\(∀j i,i < ps.length->gL L'_1 j i<=zj8 ps i j)/\(∀j k,j < m+1->k < fl.length->0<=lieR ps fl L'_1 j k)/\(∀j k,j < m->k < fl.length->lieR ps fl L'_1 j k<=τ k)/\L'_1.length<=80 * m+(i+1)/\[.sh (.list (cs.map .int)),.sh (.list (fl.map .int)),.sh (.list (ps.map Pi.d)),.sh (.int (u:Int)),.ow (.li ((rg fl.length (lieR ps fl L' m)).map .int)),.ow (.li ((rg fl.length τ).map .int)),.ow (.li (L'.map Le.d)),.sh (.int (m:Int)),s8,.ow (.li ((rg ps.length (gL L' m)).map .int)),s10,s11,s12,s13,s14]=[.sh (.list (cs.map .int)),.sh (.list (fl.map .int)),.sh (.list (ps.map Pi.d)),.sh (.int (u:Int)),.ow (.li ((rg fl.length (lieR ps fl L'_1 m)).map .int)),.ow (.li ((rg fl.length τ).map .int)),.ow (.li (L'_1.map Le.d)),.sh (.int (m:Int)),s8_1,.ow (.li ((rg ps.length (gL L'_1 m)).map .int)),s10_1,s11_1,s12_1,s13_1,s14]:=λs10 s11 s12 s13=>⟨L',s8,s10,s11,s12,s13,lt,cap,nn,ht',by lia,rfl⟩
    walk_at"a";refine two (λz=>skip _ _ _ _) λz=>?_;rw[za11,List.isEmpty_map];have fw:Fit 3 (.list (ps.map Pi.d)):=zr41 λp _=>zm81 p;refine⟨fw.shaped (by decide),rfl,two (λe=>skip _ _ _ _) λe=>?_⟩;have hm:m < u:=by lia
    have hps:1<=ps.length:=by
     cases ps with
    |nil=>simp at e
    |cons a r=>simp
    refine⟨by lia,two (λz=>skip _ _ _ _) λz=>hJ _ ?_⟩;walk_at"c";rw[u5];have a0:=yR (c / 3) (b:=(ps.length:Int)) (by lia);have a1:=yS (c / 3) (b:=(ps.length:Int)) (by lia);obtain⟨at_,ha⟩:=xT a0;refine⟨by lia,hJ _ ?_⟩;clear hJ;rw[ha]at a1 ⊢;have hat:at_ < ps.length:=by lia
    obtain⟨p,ep,e1,e2,e3,pu,pv,p1,pok,hw⟩:=pgp at_ hat;have gp:atI (ps.map Pi.d) ((at_:Nat):Int)=some (.tuple [.int (p.u:Int),.int (p.v:Int),.int (p.len:Int),.int p.pr,p.g.d]):=gm Pi.d ep;have r0:=nn m p.u (by lia) pu;have c0:=cap m at_ hat;rw[(hw m).1]at c0;walk_at"a";refine⟨_,gp,?_⟩;walk_at"dd";walk_at"k";refine⟨_,zzp pu,_,gp,?_⟩;walk_at"dd";refine⟨_,rfl,p.g,m,rfl,pok,_,zzp hat,?_⟩;walk_at"dd";have b0:0<=(if p.g.at m - gL L' m at_ < lieR ps fl L' m p.u then p.g.at m - gL L' m at_ else lieR ps fl L' m p.u)/\(if p.g.at m - gL L' m at_ < lieR ps fl L' m p.u then p.g.at m - gL L' m at_ else lieR ps fl L' m p.u)<=lieR ps fl L' m p.u/\(if p.g.at m - gL L' m at_ < lieR ps fl L' m p.u then p.g.at m - gL L' m at_ else lieR ps fl L' m p.u)<=p.g.at m - gL L' m at_:=by split <;> lia
    walk_at"f";generalize(if p.g.at m - gL L' m at_ < lieR ps fl L' m p.u then p.g.at m - gL L' m at_ else lieR ps fl L' m p.u)=mo at b0 ⊢;obtain⟨b0,b1,b2⟩:=b0;walk_at"dn";refine za6 (λU=>∃am:Int,0<=am/\am<=mo/\U=[.sh (.list (cs.map .int)),.sh (.list (fl.map .int)),.sh (.list (ps.map Pi.d)),.sh (.int (u:Int)),.ow (.li ((rg fl.length (lieR ps fl L' m)).map .int)),.ow (.li ((rg fl.length τ).map .int)),.ow (.li (L'.map Le.d)),.sh (.int (m:Int)),s8,.ow (.li ((rg ps.length (gL L' m)).map .int)),.sh (.int c),.sh (.int (at_:Int)),.sh (.int mo),.sh (.int am),s14]) ?_ ?_
    ·walk_at"dd";refine two (λ_=>⟨by lia,_,yR _ (by lia),?_,rfl⟩) λ_=>⟨mo,b0,wR _,rfl⟩
     have:=yS (c / 36) (b:=mo+1) (by lia);lia
    rintro U ⟨am,d0,d1,rfl⟩;walk_at"dd";refine two (λz=>?_) λz=>skip _ _ _ _;walk_at"a";refine⟨by rw[u5];lia,hJ _ ?_⟩;clear hJ;have sn:∀j k,j < m+1->lieR ps fl (L'++[⟨m,at_,am⟩]) j k=lieR ps fl L' j k - if j=m/\p.u=k then am else 0:=λj k hj=>by
     have:=zdw (ps:=ps) (fl:=fl) (L:=L') (l:=⟨m,at_,am⟩) (j:=j) (k:=k) (by show 1<=pl ps at_;lia) (by show j<=m;lia);rw[this];show _ - (if j=m/\zb1 ps at_=k then am else 0)=_;rw[e1]
    walk_at"a";refine⟨_,gp,?_⟩;walk_at"dd";walk_at"k";refine⟨by lia,_,ziz pu,?_⟩;walk_at"dd";refine⟨p.u,ztg (by rw[u5,zdh];exact pu),hJ _ ?_⟩;clear hJ;rw[zmh (ψ:=lieR ps fl (L'++[⟨m,at_,am⟩]) m) _ pu (by rw[sn m p.u (by lia),aF ⟨rfl,rfl⟩]) λk _ hk=>by rw[sn m k (by lia),aA λy=>hk y.2.symm];lia];walk_at"dd";refine⟨by lia,_,ziz hat,?_⟩;walk_at"dd";refine⟨at_,ztg (by rw[u5,zdh];exact hat),L'++[⟨m,at_,am⟩],s8,.sh (.int c),.sh (.int (at_:Int)),.sh (.int mo),.sh (.int am),λl hl=>?_,λj i hi=>?_,λj k hj hk=>?_,λj k hj hk=>?_,by rw[vR];show _+1<=_;lia,?_⟩
    ·rcases vS.mp hl with y|y
     ·exact lt l y
     ·have y:=zW.mp y;subst y;exact⟨hm,hat,by show 1<=am;lia,yU m⟩
    ·rw[zmj];show _+(if m=j/\at_=i then am else 0)<=_;by_cases y:m=j/\at_=i
     ·obtain⟨rfl,rfl⟩:=y;rw[aF ⟨rfl,rfl⟩,(hw m).1];lia
     ·rw[aA y];have:=cap j i hi;lia
    ·rw[sn j k hj];by_cases y:j=m/\p.u=k
     ·obtain⟨rfl,rfl⟩:=y;rw[aF ⟨rfl,rfl⟩];lia
     ·rw[aA y];have:=nn j k hj hk;lia
    ·rw[sn j k (by lia),aA λy=>by lia];have:=ht' j k hj hk;lia
    ·rw[zmh (ψ:=gL (L'++[⟨m,at_,am⟩]) m) _ hat (by rw[zmj];show _+(if m=m/\at_=at_ then am else 0)=_;rw[aF ⟨rfl,rfl⟩]) λk _ hk=>by rw[zmj];show _+(if m=m/\at_=k then am else 0)=_;rw[aA λy=>hk y.2.symm];lia,v9];rfl
   ·rintro U ⟨L',s8,s10,s11,s12,s13,lt,cap,nn,ht',ln,rfl⟩;walk_at"f";walk_at"dd";rw[u5,vZ];refine⟨by lia,by lia,?_⟩;refine zb2 (λi U=>∃s14:Sl,U=[.sh (.list (cs.map .int)),.sh (.list (fl.map .int)),.sh (.list (ps.map Pi.d)),.sh (.int (u:Int)),.ow (.li ((rg fl.length (lieR ps fl L' m)).map .int)),.ow (.li ((rg fl.length (λk=>if k < i then max (τ k) (lieR ps fl L' m k)else τ k)).map .int)),.ow (.li (L'.map Le.d)),.sh (.int (m:Int)),s8,.ow (.li ((rg ps.length (gL L' m)).map .int)),s10,s11,s12,s13,s14]) ⟨s14,?_⟩ ?_ ?_
    ·rw[ze2 (φ:=τ) (ψ:=λk=>if k < 0 then max (τ k) (lieR ps fl L' m k)else τ k) λk _=>(aA (Nat.not_lt_zero k)).symm]
    ·rintro i k U hk ⟨s14,rfl⟩;obtain⟨h1,h2⟩:=v8.mp hk;simp at h1 h2;subst h2;rw[show(0:Int)+(i:Int)=(i:Int) by lia];walk_at"dd";have hi:i < fl.length:=by lia
     refine⟨_,zzp hi,_,zzp hi,?_⟩;walk_at"dd";refine⟨i,ztg (by rw[u5,zdh];exact hi),.sh (.int (i:Int)),?_⟩;rw[zmh (ψ:=λk=>if k < i+1 then max (τ k) (lieR ps fl L' m k)else τ k) _ hi ?_ λk _ hk=>?_]
     ·rw[aF (yU i),aA (w9 i)];split <;> lia
     ·by_cases e:k < i
      ·rw[aF e,aF (by lia)]
      ·rw[aA e,aA (by lia)]
    ·rintro U ⟨s14,rfl⟩;rw[wE];refine⟨L',λk=>if k < fl.length then max (τ k) (lieR ps fl L' m k)else τ k,.sh (.int (m:Int)),s8,.ow (.li ((rg ps.length (gL L' m)).map .int)),s10,s11,s12,s13,s14,⟨lt,cap,nn,by lia⟩,λk hk=>?_,λj k hj hk=>?_,?_⟩
     ·show _<=if k < fl.length then max (τ k) (lieR ps fl L' m k)else τ k
      rw[aF hk];exact yN (hf k hk) (Int.le_max_left _ _)
     ·show _<=if k < fl.length then max (τ k) (lieR ps fl L' m k)else τ k
      rw[aF hk];by_cases e:j=m
      ·subst e;exact Int.le_max_right _ _
      ·exact yN (ht' j k (by lia) hk) (Int.le_max_left _ _)
     ·rw[ze2 (φ:=stL ps fl L' (m+1)) (ψ:=lieR ps fl L' m) λk _=>aA (yF m)]
 ·rintro U ⟨L,τ,s7,s8,s9,s10,s11,s12,s13,s14,G,hf,ht,rfl⟩;rw[wE]at G ht;rw[wE];walk_at"f";walk_at"dd";refine⟨_,_,rfl,rfl,_,_,rfl,rfl,?_⟩;have e:rg fl.length (stL ps fl L (u+1))=rg fl.length (lieR ps fl L u):=ze2 λk _=>aA (yF u);rw[e];exact q L τ ⟨λl hl=>⟨(G.lt l hl).1,(G.lt l hl).2.1,(G.lt l hl).2.2.1⟩,G.cap,λm k hm=>G.nn m k (by lia)⟩ hf λm k hm=>ht m k (by lia)
end
theorem zw91(G:Nat->Nat->Int)(m:Nat)(φ:Le->Int):∀is:List Nat,su (pmL G m is) φ=su is λi=>if 0 < G m i then φ ⟨m,i,G m i⟩else 0
|[]=>rfl
|i :: r=>by
  have ih:=zw91 G m φ r;unfold pmL at ih ⊢;rw[xB,za1];by_cases h:0 < G m i
  ·simp only[aF h];rw[za1,ih]
  ·simp only[aA h];rw[ih];lia
theorem zje(ps:List Pi)(n:Nat)(G:Nat->Nat->Int)(φ:Le->Int):∀k,su (zab ps n G k) φ=su (u4 k) λm=>su (pb ps m n) λi=>if 0 < G m i then φ ⟨m,i,G m i⟩else 0
|0=>rfl
|k+1=>by rw[zzc,zt5,zje ps n G φ k,wY,zt5,za1,zu5,zw91];lia
section
variable {vs:List Va}{ps:List Pi}{ws:List Int}{n:Nat}{f:Fm}{M:Int}
theorem zzl(g0:∀m i,m < n->i∈pb ps m n->0<=f.g m i)(m k:Nat):arr ps (zab ps n f.g n) m k=(ntOf vs ps n).inn f m k:=by
 unfold arr;rw[zje];show _=su (u4 n) λm'=>su (pb ps m' n) λi=>if m'+pl ps i=m/\zt2 ps i=k then f.g m' i else 0
 refine zp0 λm' hm=>zp0 λi hi=>?_;by_cases h:0 < f.g m' i
 ·rw[aF h]
 ·have:=g0 m' i (u9.mp hm) hi;rw[aA h];split <;> lia
theorem zqj(g0:∀m i,m < n->i∈pb ps m n->0<=f.g m i)(m k:Nat):outL ps (zab ps n f.g n) m k=(ntOf vs ps n).out f m k:=by
 unfold outL;rw[zje];have e:∀m'∈u4 n,(su (pb ps m' n) λi=>if 0 < f.g m' i then(if m'=m/\zb1 ps i=k then f.g m' i else 0)else 0)=if m'=m then su (pb ps m' n) (λi=>if zb1 ps i=k then f.g m' i else 0)else 0:=λm' hm=>by
  by_cases z:m'=m
  ·rw[aF z];refine zp0 λi hi=>?_;have:=g0 m' i (u9.mp hm) hi;by_cases h:0 < f.g m' i
   ·rw[aF h];by_cases w:zb1 ps i=k
    ·rw[aF ⟨z,w⟩,aF w]
    ·rw[aA (λq=>w q.2),aA w]
   ·rw[aA h];split <;> lia
  ·rw[aA z];exact su_zero' λi _=>by rw[aA (λq:m'=m/\_=>z q.1)];split <;> rfl
 rw[show(su (u4 n) λm'=>su (pb ps m' n) λi=>if 0 < f.g m' i then(if(⟨m',i,f.g m' i⟩:Le).t=m/\zb1 ps (⟨m',i,f.g m' i⟩:Le).at_=k then(⟨m',i,f.g m' i⟩:Le).am else 0)else 0)=_ from zp0 e];show _=if m < n then su (pb ps m n) (λi=>if zb1 ps i=k then f.g m i else 0)else 0
 by_cases h:m < n
 ·rw[aF h];exact zx8 (λm'=>su (pb ps m' n) λi=>if zb1 ps i=k then f.g m' i else 0) h
 ·rw[aA h];exact su_zero' λm' hm=>aA (by have:=u9.mp hm;lia)
theorem zh91{is:List Nat}{l:Le}(h:l∈pmL G m is):∃i∈is,0 < G m i/\l=⟨m,i,G m i⟩:=by
 obtain⟨i,hi,e⟩:=yJ.mp h;by_cases z:0 < G m i
 ·rw[aF z]at e;exact⟨i,hi,z,(wV.inj e).symm⟩
 ·rw[aA z]at e;cases e
theorem zmx{k:Nat}{l:Le}(h:l∈zab ps n G k):∃m i,m < k/\i∈pb ps m n/\0 < G m i/\l=⟨m,i,G m i⟩:=by
 obtain⟨x,hx,hl⟩:=List.mem_flatten.mp h;obtain⟨m,hm,rfl⟩:=vU.mp hx;obtain⟨i,hi,z,e⟩:=zh91 hl;exact⟨m,i,u9.mp hm,hi,z,e⟩
theorem zp01(g0:∀m i,m < n->i∈pb ps m n->0<=f.g m i/\f.g m i<=zj8 ps i m)(hi:i < ps.length)(hw:0<=zj8 ps i m):gL (zab ps n f.g n) m i<=zj8 ps i m:=by
 unfold gL;rw[zje];have e:∀m'∈u4 n,(su (pb ps m' n) λi'=>if 0 < f.g m' i' then(if(⟨m',i',f.g m' i'⟩:Le).t=m/\(⟨m',i',f.g m' i'⟩:Le).at_=i then(⟨m',i',f.g m' i'⟩:Le).am else 0)else 0)=if m'=m then(if i∈pb ps m' n then f.g m' i else 0)else 0:=λm' hm=>by
  by_cases z:m'=m
  ·rw[aF z,<- zjl _ zco.1 λi hi=>(zco.2 i hi).1,<- zx8 (λi'=>if i'∈pb ps m' n then f.g m' i' else 0) hi];refine zp0 λi' _=>?_;by_cases y:i'∈pb ps m' n
   ·rw[aF y];have:=(g0 m' i' (u9.mp hm) y).1;show(if 0 < f.g m' i' then(if m'=m/\i'=i then f.g m' i' else 0)else 0)=_;by_cases x:i'=i
    ·have q:m'=m/\i'=i:=⟨z,x⟩
     rw[aF x,aF q,aF y];split <;> lia
    ·have q:¬(m'=m/\i'=i):=λq=>x q.2;rw[aA x,aA q];split <;> rfl
   ·rw[aA y];by_cases x:i'=i
    ·rw[aF x,aA y]
    ·rw[aA x]
  ·rw[aA z];exact su_zero' λi' _=>by
    show(if 0 < f.g m' i' then(if m'=m/\i'=i then f.g m' i' else 0)else 0)=_;have q:¬(m'=m/\i'=i):=λq=>z q.1;rw[aA q];split <;> rfl
 rw[zp0 e];by_cases hm:m < n
 ·rw[zx8 (λm'=>if i∈pb ps m' n then f.g m' i else 0) hm];split
  ·rename_i y;exact(g0 m i hm y).2
  ·exact hw
 ·rw[su_zero' λm' h=>aA (by have:=u9.mp h;lia)];exact hw
theorem Met.pln{fl:List Int}(Yv:Yw fl ps)(hN:vs.length=fl.length)(hf:∀k,k < fl.length->(ntOf vs ps n).fl k=fl.getD k 0)(mt:Met vs ps ws n M f)(e:M=ws.sum) :
  Pln n fl ps (zab ps n f.g n)/\(∀m k,m<=n->k < fl.length->lieR ps fl (zab ps n f.g n) m k<=(ntOf vs ps n).rm k)/\∀k,k < fl.length->cW ws k<=lieR ps fl (zab ps n f.g n) n k:=by
 obtain⟨t,s,ht,hw⟩:=mt.wn e;have g0:∀m i,m < n->i∈pb ps m n->0<=f.g m i/\f.g m i<=zj8 ps i m:=λm i hm hi=>mt.fl.g m i hm hi;have sb:∀k,k < vs.length->(0<=t k/\t k<=cW ws k)/\0<=s k/\s k<=cR vs ws k:=λk hk=>⟨mt.fl.s (cW ws,t) (by rw[ht];simp) k hk,mt.fl.s (cR vs ws,s) (by rw[ht];simp) k hk⟩
 have st:∀k,(su f.t λt=>t k)=t k+s k:=λk=>by rw[ht,za1,za1,zu5];lia
 have key:∀m k,m<=n->k < fl.length->lieR ps fl (zab ps n f.g n) m k=if m < n then f.r m k else t k+s k:=λm k=>by
  induction m with
 |zero =>
   intro hm hk;rw[zy8,zzl (vs:=vs) λm i hm hi=>(g0 m i hm hi).1,zqj (vs:=vs) λm i hm hi=>(g0 m i hm hi).1,aF rfl];have b:=mt.fl.b 0 k hm (by rw[<- hN]at hk;exact hk);rw[st,aF rfl,mt.src k (by lia),hf k hk]at b;have b:_=(ntOf vs ps n).out f 0 k+(if 0 < n then f.r 0 k else t k+s k):=b;lia
 |succ m ih =>
   intro hm hk;rw[zy8,zzl (vs:=vs) λm i hm hi=>(g0 m i hm hi).1,zqj (vs:=vs) λm i hm hi=>(g0 m i hm hi).1,aA (yF m),z5,ih (by lia) hk,aF (by lia)];have b:=mt.fl.b (m+1) k hm (by rw[<- hN]at hk;exact hk);rw[st,aA (yF m),z5]at b;have b:_=(ntOf vs ps n).out f (m+1) k+(if m+1 < n then f.r (m+1) k else t k+s k):=b;lia
 have er:∀k,cR vs ws k=(ntOf vs ps n).rm k - cW ws k:=λ_=>rfl;refine⟨⟨λl hl=>?_,λm i hi=>zp01 g0 hi ?_,λm k hm hk=>?_⟩,λm k hm hk=>?_,λk hk=>?_⟩
 ·obtain⟨m,i,hm,hi,z,rfl⟩:=zmx hl;exact⟨hm,(zco.2 i hi).1,by show 1<=f.g m i;lia⟩
 ·unfold zj8;rw[u6 hi];exact(Yv.p _ (w6 hi)).1.2.2.2.2.2 m
 ·rw[key m k hm hk];by_cases z:m < n
  ·rw[aF z];exact(mt.fl.r m k z (by rw[<- hN]at hk;exact hk)).1
  ·rw[aA z];have:=sb k (by lia);lia
 ·rw[key m k hm hk];by_cases z:m < n
  ·rw[aF z];exact(mt.fl.r m k z (by rw[<- hN]at hk;exact hk)).2
  ·rw[aA z];have:=sb k (by lia);have:=er k;lia
 ·rw[key n k (u7 _) hk,aA (w9 _)];have:=sb k (by lia);have:=hw k (by lia);lia
end
theorem zxf{α:Type}{l:List α}{f:α->Int}(h:∀x∈l,0<=f x)(j:Nat):su (l.take j) f<=su l f:=by
 have e:su l f=su (l.take j) f+su (l.drop j) f:=by rw[<- zt5,y3]
 have:=zp11 (l:=l.drop j) (f:=f) λx hx=>h x (List.mem_of_mem_drop hx);lia
def zv7:DSp:=λds Q=>∃(vs:List Va)(ps:List Pi)(fl:List Int)(L:List Le)(n:Nat),ds=[.list (vs.map Va.d),.list (ps.map Pi.d),.list (L.map Le.d),.int (n:Int)]/\Yw fl ps/\n<=60/\vs.length=fl.length/\(∀(k:Nat) v,vs[k]?=some v->v.fill=fl.getD k 0/\∀m,m<=n->lieR ps fl L m k<=v.room)/\Pln n fl ps L/\Q (.list ((rg fl.length (lieR ps fl L n)).map .int))
section
variable {P:aN}{w:aQ}{K:Fg}{mg:Str->Option aC}{base:aT}
theorem zs8:FnScope ["vats", "pipes", "plan", "until", "lies", "moment", "used", "one", "k"] ["vats", "pipes", "plan", "until"] (zh0 zn2):=by walk_at"sc"
theorem zed(M:Md K mg)(T:TopDef K "_law_brought" zn2)(jJ:mg "len"=none)(jE:mg "range"=none)(jN:Def P w K mg base "_law_width" 1 ["gate", "moment"] (spD K zx2)):Def P w K mg base "_law_brought" 2 ["vats", "pipes", "plan", "until"] (spD K zv7):=by
 refine zi3 M T zs8 (by walk_at"h") (zwa (by walk_at"i")) (zg3 ?_);walk_at"g";have nd:=zs8.nd;refine⟨_,(dSeq (dSet 4 (cF (zbd (dIt (zm0 0)) 1 [] (gN 0) zmf (dOp fIx (zm0 0) (dC (.int 2))))))
   (dSeq (dFor (zih (zk0 (dOp fAdd (zm0 3) (dC (.int 1))) dNil)) (gN 5) (dSeq (dSet 6 (cF (zbd (dIt (zm0 1)) 1 [] (gN 0) zmf (dC (.int 0)))))
   (dSeq (dFor (dIt (dVar 2)) (gN 7) (dIf (za2 (dOp fEq (dOp fAdd (dOp fIx (zm0 7) (dC (.int 0))) (dOp fIx (dOp fIx (zm0 1) (dOp fIx (zm0 7) (dC (.int 1)))) (dC (.int 2)))) (zm0 5))) (zfq (λi j=>i+j) (pVar 4) (dOp fIx (dOp fIx (zm0 1) (dOp fIx (zm0 7) (dC (.int 1)))) (dC (.int 1))) (dOp fIx (zm0 7) (dC (.int 2)))) zz5))
   (dSeq (dFor (dIt (dVar 2)) (gN 7) (dIf (za2 (dOp fEq (dOp fIx (zm0 7) (dC (.int 0))) (zm0 5))) (dSeq (zfq (λi j=>i - j) (pVar 4) (dOp fIx (dOp fIx (zm0 1) (dOp fIx (zm0 7) (dC (.int 1)))) (dC (.int 0))) (dOp fIx (zm0 7) (dC (.int 2))))
   (dSeq (zfq (λi j=>i+j) (pVar 6) (dOp fIx (zm0 7) (dC (.int 1))) (dOp fIx (zm0 7) (dC (.int 2))))
   (dIf (dOr (za2 (dOp fGt (dOp fIx (zm0 6) (dOp fIx (zm0 7) (dC (.int 1)))) (zd3 zx2 (zk0 (dOp fIx (dOp fIx (zm0 1) (dOp fIx (zm0 7) (dC (.int 1)))) (dC (.int 4))) (zk0 (dVar 5) dNil))))) (za2 (dOp fLt (dOp fIx (zm0 4) (dOp fIx (dOp fIx (zm0 1) (dOp fIx (zm0 7) (dC (.int 1)))) (dC (.int 0)))) (dC (.int 0))))) (dRet (cE (dC .none))) zz5))) zz5))
   (dFor (zih (zk0 (dCB fLen (zk0 (zm0 0) dNil)) dNil)) (gN 8) (dIf (za2 (dOp fGt (dOp fIx (zm0 4) (zm0 8)) (dOp fIx (dOp fIx (zm0 0) (zm0 8)) (dC (.int 1))))) (dRet (cE (dC .none))) zz5))))))
   (zhp 4))),(zd0 (zh3 (i:=4) (sc:=zh0 zn2) (N:=["vats", "pipes", "plan", "until", "lies", "moment", "used", "one", "k"]) (own:=["vat"]) (ix:=[]) rfl rfl rfl (by walk_at"csc") nd rfl rfl (pi_W (K:=K) rfl (pv 0)) (λ_ _ _ _=>⟨(pgn 0 (nds ["vat"])),zj3,(pix w K hr (pv 0) ze0)⟩))
   (zd0 (zt3 aR rfl (zt1 rfl jE (za0 (zk1 (zl1 (K:=K) rfl) (pv 3) ze0) zg0)) (pgn 5 nd) (zd0 (zh3 (i:=6) (sc:=zh0 zn2) (N:=["vats", "pipes", "plan", "until", "lies", "moment", "used", "one", "k"]) (own:=["pipe"]) (ix:=[]) rfl rfl rfl (by walk_at"csc") nd rfl rfl (pi_W (K:=K) rfl (pv 1)) (λ_ _ _ _=>⟨(pgn 0 (nds ["pipe"])),zj3,ze0⟩))
   (zd0 (zt3 aR rfl (pi_W (K:=K) rfl (pv 2)) (pgn 7 nd) (zj0 (zn5 (zs0 (zz2 (K:=K) rfl (Room.units hr)) (zk1 (zl1 (K:=K) rfl) (pix w K hr (pv 7) ze0) (pix w K hr (pix w K hr (pv 1) (pix w K hr (pv 7) ze0)) ze0)) (pv 5) (zz0 _)) (zj0 (zqa (pv 4) (pix w K hr (pix w K hr (pv 1) (pix w K hr (pv 7) ze0)) ze0) (zjt (K:=K) (Room.units hr) rfl) (pix w K hr (pv 7) ze0) zyf (zpp (Room.units hr)))) zg1)))
   (zd0 (zt3 aR rfl (pi_W (K:=K) rfl (pv 2)) (pgn 7 nd) (zj0 (zn5 (zs0 (zz2 (K:=K) rfl (Room.units hr)) (pix w K hr (pv 7) ze0) (pv 5) (zz0 _)) (zd0 (zqa (pv 4) (pix w K hr (pix w K hr (pv 1) (pix w K hr (pv 7) ze0)) ze0) (zjt (K:=K) (Room.units hr) rfl) (pix w K hr (pv 7) ze0) zyk (zpp (Room.units hr)))
   (zd0 (zqa (pv 6) (pix w K hr (pv 7) ze0) (zjt (K:=K) (Room.units hr) rfl) (pix w K hr (pv 7) ze0) zyf (zpp (Room.units hr)))
   (zj0 (zn5 (PW.pt (zhh (zs0 zll (pix w K hr (pv 6) (pix w K hr (pv 7) ze0)) (zq0 jN (rmn hr) rfl (za0 (pix w K hr (pix w K hr (pv 1) (pix w K hr (pv 7) ze0)) ze0) (za0 (pv 5) zg0))) (zz0 _)) (zzg (zs0 zyt (pix w K hr (pv 4) (pix w K hr (pix w K hr (pv 1) (pix w K hr (pv 7) ze0)) ze0)) ze0 (zz0 _))))) (zj0 (zh1 zyg)) zg1)))) zg1)))
   (zj0 (zt3 aR rfl (zt1 rfl jE (za0 (zv0 (zi1 (K:=K) rfl) rfl jJ ze5 (za0 (pv 0) zg0)) zg0)) (pgn 8 nd) (zj0 (zn5 (zs0 zll (pix w K hr (pv 4) (pv 8)) (pix w K hr (pix w K hr (pv 0) (pv 8)) ze0) (zz0 _)) (zj0 (zh1 zyg)) zg1))))))))
   (zj0 (zh1 (pv 4))))),(zn0 (zf3 (RfF.c (zj2 (zct (zb0 0)) (zn1 (i:=0) (n:=1) (by decide)) zg4 (zl0 r_ix (zb0 0) rvi))))
   (zn0 (zj4 (za4 (zc0 (zl0 zf8 (zb0 3) rvi) zo0)) (rgn 5) (zn0 (zf3 (RfF.c (zj2 (zct (zb0 1)) (zn1 (i:=0) (n:=1) (by decide)) zg4 zd1)))
   (zn0 (zj4 (zgq (zi0 2)) (rgn 7) (zm5 (zr0 (zv1 q_eq (RfV.h (RfE.v (zl0 zf8 (RfE.v (zl0 r_ix (zb0 7) rvi)) (RfE.v (zl0 r_ix (RfE.v (zl0 r_ix (zb0 1) (RfE.v (zl0 r_ix (zb0 7) rvi)))) rvi))))) (RfV.h (zb0 5)))) (zra (zu0 4) (zl0 r_ix (RfE.v (zl0 r_ix (zb0 1) (RfE.v (zl0 r_ix (zb0 7) rvi)))) rvi) (zl0 r_ix (zb0 7) rvi)) zf1))
   (zn0 (zj4 (zgq (zi0 2)) (rgn 7) (zm5 (zr0 (zv1 q_eq (RfV.h (RfE.v (zl0 r_ix (zb0 7) rvi))) (RfV.h (zb0 5)))) (zn0 (zra (zu0 4) (zl0 r_ix (RfE.v (zl0 r_ix (zb0 1) (RfE.v (zl0 r_ix (zb0 7) rvi)))) rvi) (zl0 r_ix (zb0 7) rvi))
   (zn0 (zra (zu0 6) (zl0 r_ix (zb0 7) rvi) (zl0 r_ix (zb0 7) rvi))
   (zm5 (zlh (zr0 (zl0 r_gt (RfE.v (zl0 r_ix (zb0 6) (RfE.v (zl0 r_ix (zb0 7) rvi)))) (RfE.v (zw0 (zc0 (zl0 r_ix (RfE.v (zl0 r_ix (zb0 1) (RfE.v (zl0 r_ix (zb0 7) rvi)))) rvi) (zc0 (zi0 5) zo0)))))) (zr0 (zl0 r_lt (RfE.v (zl0 r_ix (zb0 4) (RfE.v (zl0 r_ix (RfE.v (zl0 r_ix (zb0 1) (RfE.v (zl0 r_ix (zb0 7) rvi)))) rvi)))) rvi))) (zm1 (RfE.c zog)) zf1))) zf1))
   (zj4 (za4 (zc0 (zu8 zid (zx0 (zb0 0) zp1)) zo0)) (rgn 8) (zm5 (zr0 (zl0 r_gt (RfE.v (zl0 r_ix (zb0 4) (zb0 8))) (RfE.v (zl0 r_ix (RfE.v (zl0 r_ix (zb0 0) (zb0 8))) rvi)))) (zm1 (RfE.c zog)) zf1))))))
   (zza (i:=4)))),?_⟩
 rintro ds Qd ⟨vs,ps,fl,L,n,rfl,Yv,hn,hN,hv,G,q⟩;have n1:=Yv.n1;have n3:=Yv.n3;have m4:=Yv.m4;have pgp:∀l∈L,∃p,ps[l.at_]?=some p/\zb1 ps l.at_=p.u/\zt2 ps l.at_=p.v/\pl ps l.at_=p.len/\p.u < fl.length/\p.v < fl.length/\p.g.ok/\∀m,zj8 ps l.at_ m=p.g.at m:=λl hl=>by
  have hi:=(G.lt l hl).2.1;have e:ps[l.at_]?=some ps[l.at_]:=u6 hi;obtain⟨h1,h2,h3,_,h5,h6⟩:=(Yv.p _ (w6 hi)).1;exact⟨_,e,by unfold zb1;rw[e];rfl,by unfold zt2;rw[e];rfl,by unfold pl;rw[e];rfl,h1,h2,h5,λm=>by unfold zj8;rw[e];rfl⟩
 walk_at"ds";walk_at"a";refine zgk (λv=>.int v.fill) (by rw[aW];lia) (λv _=>?_) (hJ _ ?_)
 ·unfold Va.d;walk_at"cs";walk_at"dd";exact⟨_,rfl,rfl⟩
 clear hJ;have ef:vs.map (λv=>vQ v.fill)=(rg fl.length (stL ps fl L 0)).map .int:=by
  unfold rg;rw[wD];refine yC (by simp[hN]) λi h1 h2=>?_;simp at h1;have:=(hv i vs[i] (u6 h1)).1;simp[this,stL]
 rw[ef];walk_at"a";rw[show((n:Int)+1).toNat=n+1 by lia];unfold rngD;refine⟨by lia,by lia,?_⟩;refine zb2 (λm U=>∃s5 s6 s7 s8:Sl,U=[.sh (.list (vs.map Va.d)),.sh (.list (ps.map Pi.d)),.sh (.list (L.map Le.d)),.sh (.int (n:Int)),.ow (.li ((rg fl.length (stL ps fl L m)).map .int)),s5,s6,s7,s8]) ⟨.un,.un,.un,.un,rfl⟩ ?_ ?_
 ·rintro m x U hx ⟨s5,s6,s7,s8,rfl⟩;clear hJ;obtain⟨h1,h2⟩:=v8.mp hx;simp at h1 h2;subst h2;rw[show(0:Int)+(m:Int)=(m:Int) by lia];walk_at"dd";walk_at"a";refine zgk (λ_:Pi=>.int 0) (by rw[aW];lia) (λp _=>rfl) (hJ _ ?_);clear hJ;have eu:ps.map (λ_=>vQ 0)=(rg ps.length λ_=>0).map .int:=by
   unfold rg;rw[wD];exact yC (by simp) λi h1 h2=>by simp
  rw[eu];walk_at"a";refine zb2 (λj U=>∃s7:Sl,U=[.sh (.list (vs.map Va.d)),.sh (.list (ps.map Pi.d)),.sh (.list (L.map Le.d)),.sh (.int (n:Int)),.ow (.li ((rg fl.length (λk=>stL ps fl L m k+su (L.take j) λl=>if l.t+pl ps l.at_=m/\zt2 ps l.at_=k then l.am else 0)).map .int)),.sh (.int (m:Int)),.ow (.li ((rg ps.length λ_=>0).map .int)),s7,s8]) ⟨s7,?_⟩ ?_ ?_
  ·rw[ze2 (φ:=stL ps fl L m) (ψ:=λk=>stL ps fl L m k+su (L.take 0) λl=>if l.t+pl ps l.at_=m/\zt2 ps l.at_=k then l.am else 0) λk _=>by rw[zG,zu5,x8]]
  ·rintro j l U hl ⟨s7,rfl⟩;obtain⟨p,ep,e1,e2,e3,pu,pv,pok,hw⟩:=pgp l (wI hl);have gp:atI (ps.map Pi.d) ((l.at_:Nat):Int)=some (.tuple [.int (p.u:Int),.int (p.v:Int),.int (p.len:Int),.int p.pr,p.g.d]):=gm Pi.d ep;rw[zob hl];simp only[zge];generalize hφ:(λk=>stL ps fl L m k+su (L.take j) λl=>if l.t+pl ps l.at_=m/\zt2 ps l.at_=k then l.am else 0)=φ;have hψ:∀k,stL ps fl L m k+((su (L.take j) λl=>if l.t+pl ps l.at_=m/\zt2 ps l.at_=k then l.am else 0)+if l.t+pl ps l.at_=m/\zt2 ps l.at_=k then l.am else 0)=φ k+if l.t+p.len=m/\p.v=k then l.am else 0:=λk=>by subst hφ;rw[e2,e3];exact(uaF _ _ _).symm
   simp only[hψ];clear hφ hψ;obtain⟨lt,la,lm⟩:=l;generalize L.map Le.d=LD;dsimp only[Le.d]at gp ⊢;walk_at"dd";refine⟨_,rfl,_,rfl,?_⟩;walk_at"dd";refine⟨_,gp,?_⟩;walk_at"dd";walk_at"k";refine two (λz=>⟨_,rfl,?_⟩) λz=>⟨.sh (.tuple [.int (lt:Int),.int (la:Int),.int lm]),?_⟩
   ·walk_at"dd";refine⟨_,gp,?_⟩;walk_at"dd";walk_at"k";refine⟨by lia,_,ziz pv,_,rfl,?_⟩;walk_at"dd";refine⟨p.v,ztg (by rw[u5,zdh];exact pv),.sh (.tuple [.int (lt:Int),.int (la:Int),.int lm]),?_⟩;rw[zmh (ψ:=λk=>φ k+if lt+p.len=m/\p.v=k then lm else 0) _ pv (by rw[aF ⟨by lia,rfl⟩]) λk _ hk=>by rw[aA λy=>hk y.2.symm];lia]
   ·rw[ze2 (φ:=φ) (ψ:=λk=>φ k+if lt+p.len=m/\p.v=k then lm else 0) λk _=>by rw[aA λy=>z (by lia)];lia]
  ·rintro U ⟨s7,rfl⟩;rw[xH];walk_at"b";refine zb2 (λj U=>∃s7:Sl,U=[.sh (.list (vs.map Va.d)),.sh (.list (ps.map Pi.d)),.sh (.list (L.map Le.d)),.sh (.int (n:Int)),.ow (.li ((rg fl.length (λk=>stL ps fl L m k+arr ps L m k - su (L.take j) λl=>if l.t=m/\zb1 ps l.at_=k then l.am else 0)).map .int)),.sh (.int (m:Int)),.ow (.li ((rg ps.length (gL (L.take j) m)).map .int)),s7,s8]) ⟨s7,?_⟩ ?_ ?_
   ·rw[ze2 (φ:=λk=>stL ps fl L m k+su L λl=>if l.t+pl ps l.at_=m/\zt2 ps l.at_=k then l.am else 0) (ψ:=λk=>stL ps fl L m k+arr ps L m k - su (L.take 0) λl=>if l.t=m/\zb1 ps l.at_=k then l.am else 0) λk _=>by rw[zG,zu5,yT];rfl];rfl
   ·rintro j l U hl ⟨s7,rfl⟩;have hlm:=G.lt l (wI hl);obtain⟨p,ep,e1,e2,e3,pu,pv,pok,hw⟩:=pgp l (wI hl);have gp:atI (ps.map Pi.d) ((l.at_:Nat):Int)=some (.tuple [.int (p.u:Int),.int (p.v:Int),.int (p.len:Int),.int p.pr,p.g.d]):=gm Pi.d ep;have amn:∀(c:Le->Prop) [DecidablePred c],∀l∈L,0<=if c l then l.am else 0:=λc _ l hl=>by have:=(G.lt l hl).2.2;split <;> lia
    have c1:=zxf (amn λx=>x.t=m/\x.at_=l.at_) (j+1);have c2:=zxf (amn λx=>x.t=m/\zb1 ps x.at_=p.u) (j+1);have c3:=G.cap m l.at_ hlm.2.1;have c4:=G.nn m p.u (by lia) pu;have c5:=zy8 ps fl L m p.u;rw[zob hl,zge]at c1 c2;rw[hw m]at c3;have f1:l.t=m->gL (L.take j) m l.at_+l.am<=p.g.at m:=λz=>by
     have c1:gL (L.take j) m l.at_+(if l.t=m/\l.at_=l.at_ then l.am else 0)<=gL L m l.at_:=c1;rw[aF ⟨z,rfl⟩]at c1;lia
    have f2:l.t=m->0<=(stL ps fl L m p.u+arr ps L m p.u - su (L.take j) λl=>if l.t=m/\zb1 ps l.at_=p.u then l.am else 0) - l.am:=λz=>by
     rw[aF ⟨z,e1⟩]at c2;have c5:lieR ps fl L m p.u=stL ps fl L m p.u+arr ps L m p.u - su L λl=>if l.t=m/\zb1 ps l.at_=p.u then l.am else 0:=c5
     lia
    clear c1 c2 c3 c4 c5;have gs:gL (L.take j++[l]) m=λi=>gL (L.take j) m i+if l.t=m/\l.at_=i then l.am else 0:=funext λi=>zmj _ _ _ _
    rw[zob hl,gs];simp only[zge];generalize hφ:(λk=>stL ps fl L m k+arr ps L m k - su (L.take j) λl=>if l.t=m/\zb1 ps l.at_=k then l.am else 0)=φ;have hψ:∀k,stL ps fl L m k+arr ps L m k - ((su (L.take j) λl=>if l.t=m/\zb1 ps l.at_=k then l.am else 0)+if l.t=m/\zb1 ps l.at_=k then l.am else 0)=φ k - if l.t=m/\p.u=k then l.am else 0:=λk=>by subst hφ;rw[e1];exact(Int.sub_sub _ _ _).symm
    have f2:l.t=m->0<=φ p.u - l.am:=λz=>by subst hφ;exact f2 z
    simp only[hψ];clear hφ hψ gs;generalize gL (L.take j) m=υ at f1 ⊢;have hat:=hlm.2.1;obtain⟨lt,la,lm⟩:=l;generalize L.map Le.d=LD;dsimp only[Le.d]at gp f1 f2 hat ⊢;walk_at"dd";walk_at"k";refine two (λz=>?_) λz=>⟨.sh (.tuple [.int (lt:Int),.int (la:Int),.int lm]),?_⟩
    ·have z:lt=m:=by lia
     have f1:=f1 z;have f2:=f2 z;walk_at"a";walk_at"k";refine⟨_,gp,?_⟩;walk_at"dd";walk_at"k";refine⟨by lia,_,ziz pu,_,rfl,?_⟩;walk_at"dd";refine⟨p.u,ztg (by rw[u5,zdh];exact pu),hJ _ ?_⟩;clear hJ;rw[zmh (ψ:=λk=>φ k - if lt=m/\p.u=k then lm else 0) _ pu (by rw[aF ⟨z,rfl⟩]) λk _ hk=>by rw[aA λy=>hk y.2.symm];lia];walk_at"a";walk_at"k";refine⟨by lia,_,ziz hat,_,rfl,?_⟩;walk_at"dd";refine⟨la,ztg (by rw[u5,zdh];exact hat),hJ _ ?_⟩;clear hJ;rw[zmh (ψ:=λi=>υ i+if lt=m/\la=i then lm else 0) _ hat (by rw[aF ⟨z,rfl⟩]) λk _ hk=>by rw[aA λy=>hk y.2.symm];lia];walk_at"dd";walk_at"k";refine⟨_,zzp hat,_,rfl,?_⟩;walk_at"dd";refine⟨_,gp,?_⟩;walk_at"dd";refine⟨_,rfl,p.g,m,rfl,pok,?_⟩;walk_at"dd";rw[aF z,aA (by lia)];walk_at"k";refine⟨_,gp,?_⟩;walk_at"dd";walk_at"k";refine⟨_,zzp pu,?_⟩;walk_at"dd";rw[aF z,aA (by lia)];exact⟨_,rfl⟩
    ·rw[ze2 (φ:=φ) (ψ:=λk=>φ k - if lt=m/\p.u=k then lm else 0) λk _=>by rw[aA λy=>z (by lia)];lia,ze2 (φ:=υ) (ψ:=λi=>υ i+if lt=m/\la=i then lm else 0) λk _=>by rw[aA λy=>z (by lia)];lia]
   ·rintro U ⟨s7,rfl⟩;rw[xH];walk_at"f";have e:rg fl.length (λk=>stL ps fl L m k+arr ps L m k - su L λl=>if l.t=m/\zb1 ps l.at_=k then l.am else 0)=rg fl.length (lieR ps fl L m):=ze2 λk _=>(zy8 ps fl L m k).symm;rw[e];walk_at"dd";rw[u5,vZ];refine⟨by lia,by lia,?_⟩;refine zb2 (λi U=>∃s8:Sl,U=[.sh (.list (vs.map Va.d)),.sh (.list (ps.map Pi.d)),.sh (.list (L.map Le.d)),.sh (.int (n:Int)),.ow (.li ((rg fl.length (lieR ps fl L m)).map .int)),.sh (.int (m:Int)),.ow (.li ((rg ps.length (gL L m)).map .int)),s7,s8]) ⟨s8,rfl⟩ ?_ ?_
    ·rintro i k U hk ⟨s8,rfl⟩;obtain⟨h1,h2⟩:=v8.mp hk;simp at h1 h2;subst h2;rw[show(0:Int)+(i:Int)=(i:Int) by lia];have ev:vs[i]?=some vs[i]:=u6 h1;have hr:=(hv i _ ev).2 m (by lia);walk_at"dd";refine⟨_,zzp (by lia),_,gm Va.d ev,?_⟩;unfold Va.d;walk_at"dd";walk_at"k";rw[aA (by lia)];exact⟨_,rfl⟩
    ·rintro U ⟨s8,rfl⟩;refine⟨.sh (.int (m:Int)),.ow (.li ((rg ps.length (gL L m)).map .int)),s7,s8,?_⟩;rw[ze2 (φ:=stL ps fl L (m+1)) (ψ:=lieR ps fl L m) λk _=>aA (yF m)]
 ·rintro U ⟨s5,s6,s7,s8,rfl⟩;rw[wE];walk_at"f";walk_at"dd";rw[ze2 (φ:=stL ps fl L (n+1)) (ψ:=lieR ps fl L n) λk _=>aA (yF n)];exact q
end
theorem su_snoc'{α:Type}(l:List α)(x:α)(f:α->Int):su (l++[x]) f=su l f+f x:=by rw[zt5,za1,zu5];lia
theorem zsb{α β:Type}(l:List α)(r:List β)(f:α->β->Int):(su l λa=>su r λb=>f a b)=su r λb=>su l λa=>f a b:=by
 induction l with
|nil=>rw[zu5];exact(su_zero' λ_ _=>rfl).symm
|cons a l ih=>rw[za1,ih,<- zla];exact zp0 λb _=>(za1 a l λa=>f a b).symm
theorem zzv(n d:Nat)(g:Nat->Int):(su (u4 (n+1)) λm=>if d<=m then g (m - d)else 0)=su (u4 (n+1)) λm=>if m+d<=n then g m else 0:=by
 induction n with
|zero =>
  rw[wY,zY,k8,za1,za1,zu5];by_cases e:d=0
  ·subst e;rfl
  ·rw[aA (by lia),aA (by lia)];rfl
|succ n ih =>
  rw[show(su (u4 (n+1+1)) λm=>if d<=m then g (m - d)else 0)=(su (u4 (n+1)) λm=>if d<=m then g (m - d)else 0)+(if d<=n+1 then g (n+1 - d)else 0) by rw[wY,su_snoc'],ih];by_cases e:d<=n+1
  ·rw[aF e];have e1:(su (u4 (n+1+1)) λm=>if m+d<=n+1 then g m else 0)=(su (u4 (n+1+1)) λm=>if m+d<=n then g m else 0)+su (u4 (n+1+1)) λm=>if m=n+1 - d then g m else 0:=by
    rw[<- zla];refine zp0 λm _=>?_;by_cases z:m=n+1 - d
    ·rw[aF z,aF (by lia),aA (by lia)];lia
    ·by_cases y:m+d<=n
     ·rw[aA z,aF y,aF (by lia)];lia
     ·rw[aA z,aA y,aA (by lia)];rfl
   rw[e1,zx8 g (by lia),show(su (u4 (n+1+1)) λm=>if m+d<=n then g m else 0)=su (u4 (n+1)) λm=>if m+d<=n then g m else 0 by rw[wY,su_snoc',aA (by lia),x8]]
  ·rw[aA e,su_zero' λm _=>aA (by lia),su_zero' λm _=>aA (by lia)];rfl
section
variable {vs:List Va}{ps:List Pi}{n:Nat}{side:List Nat}
theorem eqv2(a b c d:Nat):xD (.tuple [.int (a:Int),.int (b:Int)]) (.tuple [.int (c:Int),.int (d:Int)])=decide (a=c/\b=d):=by
 by_cases h:a=c/\b=d
 ·obtain⟨rfl,rfl⟩:=h;rw[bN ⟨rfl,rfl⟩];exact SeqAt.eqv_refl _ rfl
 ·rw[aY h];simp only[xD,PyData.eqvAll];simp;lia
theorem zpu(h1:1<=vs.length){k:Nat}(hm:m<=n)(hk:k < vs.length):((ptN vs ps n side).any λe=>xD e (.tuple [.int (m:Int),.int (k:Int)]))=decide ((ntOf vs ps n).nd m k ∉ side):=by
 have en:(ntOf vs ps n).nd m k=2+(m * vs.length+k):=by show 2+m * vs.length+k=_;lia
 have lt:m * vs.length+k < (n+1) * vs.length:=by
  have:=yE vs.length (show m+1<=n+1 by lia);rw[yO,Nat.one_mul]at this;lia
 have ec:(ntOf vs ps n).nd (n+1) 0 - 2=(n+1) * vs.length:=by show 2+(n+1) * vs.length+0 - 2=_;lia
 have dv:(m * vs.length+k) / vs.length=m:=by rw[k7,Nat.add_mul_div_right _ _ (by lia),Nat.div_eq_of_lt hk];lia
 have md:(m * vs.length+k) % vs.length=k:=by rw[k7,Nat.add_mul_mod_self_right,Nat.mod_eq_of_lt hk]
 rw[en,zA,decide_eq_true_iff,List.any_eq_true];unfold ptN ptL;rw[ec];constructor
 ·rintro⟨e,he,q⟩;obtain⟨j,hj,ej⟩:=yJ.mp he;split at ej
  ·cases ej
  ·rename_i ns
   cases ej;rw[eqv2,decide_eq_true_iff]at q;have:m * vs.length+k=j:=by
    have:=Nat.div_add_mod j vs.length;rw[q.1,q.2,zL]at this;exact this
   rw[this];exact ns
 ·intro ns;refine⟨_,yJ.mpr ⟨m * vs.length+k,u9.mpr lt,aA ns⟩,?_⟩;rw[dv,md,eqv2];simp
theorem zex:∀e∈ptN vs ps n side,Fit 8 e:=λe he=>by
 unfold ptN ptL at he;obtain⟨j,_,ej⟩:=yJ.mp he;split at ej
 ·cases ej
 ·cases ej;exact Fit.tup λz hz=>by
   simp at hz;rcases hz with rfl|rfl <;> exact Fit.int _
def ipT(ps:List Pi)(X:Nat->Nat->Prop)[∀m k,Decidable (X m k)](m k i:Nat):Int:=if zt2 ps i=k/\pl ps i<=m/\¬X (m - pl ps i) (zb1 ps i)then zj8 ps i (m - pl ps i)else 0
def lkT(vs:List Va)(ps:List Pi)(ws:List Int)(n:Nat)(X:Nat->Nat->Prop)[∀m k,Decidable (X m k)](m k:Nat):Int :=
 if X m k then(if m=n then cW ws k else 0) - (if m=0 then(ntOf vs ps n).fl k else if X (m - 1) k then 0 else(ntOf vs ps n).rm k) - su (u4 ps.length) (ipT ps X m k)else 0
theorem zd01(hp:∀i,i < ps.length->1<=pl ps i/\zt2 ps i < vs.length)(hw:ws.length=vs.length)(X:Nat->Nat->Prop)[∀m k,Decidable (X m k)] :
  (su (u4 vs.length) λk=>su (u4 (n+1)) λm=>lkT vs ps ws n X m k)=ws.sum - (ntOf vs ps n).over (cW ws) X:=by
 have hN:(ntOf vs ps n).N=vs.length:=rfl;have hn:(ntOf vs ps n).n=n:=rfl;have e1:∀k,k∈u4 vs.length->(su (u4 (n+1)) λm=>lkT vs ps ws n X m k)=(if X n k then cW ws k else 0) - (if X 0 k then(ntOf vs ps n).fl k else 0) - (su (u4 n) λm=>if ¬X m k/\X (m+1) k then(ntOf vs ps n).rm k else 0) - su (u4 (n+1)) λm=>if X m k then su (u4 ps.length) (ipT ps X m k)else 0:=λk hk=>by
  have a:(su (u4 (n+1)) λm=>if m=n then(if X m k then cW ws k else 0)else 0)=if X n k then cW ws k else 0:=zx8 (λm=>if X m k then cW ws k else 0) (yU n)
  have b:(su (u4 (n+1)) λm=>if X m k then(if m=0 then(ntOf vs ps n).fl k else if X (m - 1) k then 0 else(ntOf vs ps n).rm k)else 0)=(if X 0 k then(ntOf vs ps n).fl k else 0)+su (u4 n) λm=>if ¬X m k/\X (m+1) k then(ntOf vs ps n).rm k else 0:=by
   rw[uaE,za1,zr5];congr 1;refine zp0 λm _=>?_;show(if X (m+1) k then(if m+1=0 then _ else if X (m+1 - 1) k then 0 else _)else 0)=_;rw[aA (yF m),z5];by_cases y:X m k
   ·rw[aF y,aA (show ¬(¬X m k/\X (m+1) k)from λz=>z.1 y)];split <;> rfl
   ·by_cases z:X (m+1) k
    ·rw[aF z,aA y,aF ⟨y,z⟩]
    ·rw[aA z,aA λq=>z q.2]
  have c:(su (u4 (n+1)) λm=>lkT vs ps ws n X m k)=(su (u4 (n+1)) λm=>if m=n then(if X m k then cW ws k else 0)else 0) - (su (u4 (n+1)) λm=>if X m k then(if m=0 then(ntOf vs ps n).fl k else if X (m - 1) k then 0 else(ntOf vs ps n).rm k)else 0) - su (u4 (n+1)) λm=>if X m k then su (u4 ps.length) (ipT ps X m k)else 0:=by
   rw[<- zv9,<- zv9];refine zp0 λm _=>?_;unfold lkT;by_cases y:X m k
   ·simp only[aF y]
   ·simp only[aA y];split <;> rfl
  rw[c,a,b];lia
 rw[zp0 e1,zv9,zv9,zv9];have e2:(su (u4 vs.length) λk=>su (u4 n) λm=>if ¬X m k/\X (m+1) k then(ntOf vs ps n).rm k else 0)=su (u4 n) λm=>su (u4 vs.length) λk=>if ¬X m k/\X (m+1) k then(ntOf vs ps n).rm k else 0:=zsb ..
 have e3:(su (u4 vs.length) λk=>su (u4 (n+1)) λm=>if X m k then su (u4 ps.length) (ipT ps X m k)else 0)=su (u4 n) λm=>su (pb ps m n) λi=>if ¬X m (zb1 ps i)/\X (m+pl ps i) (zt2 ps i)then zj8 ps i m else 0:=by
  have f1:∀k m,(if X m k then su (u4 ps.length) (ipT ps X m k)else 0)=su (u4 ps.length) λi=>if X m k then ipT ps X m k i else 0:=λk m=>by
   by_cases y:X m k
   ·simp only[aF y]
   ·simp only[aA y];exact(su_zero' λ_ _=>rfl).symm
  simp only[f1];have f2:∀i,i∈u4 ps.length->(su (u4 vs.length) λk=>su (u4 (n+1)) λm=>if X m k then ipT ps X m k i else 0)=su (u4 (n+1)) λm=>if m+pl ps i<=n then(if ¬X m (zb1 ps i)/\X (m+pl ps i) (zt2 ps i)then zj8 ps i m else 0)else 0:=λi hi=>by
   have hi:=hp i (u9.mp hi);rw[<- zzv n (pl ps i) λm=>if ¬X m (zb1 ps i)/\X (m+pl ps i) (zt2 ps i)then zj8 ps i m else 0,zsb];refine zp0 λm _=>?_;have:∀k∈u4 vs.length,(if X m k then ipT ps X m k i else 0)=if k=zt2 ps i then(if X m k/\pl ps i<=m/\¬X (m - pl ps i) (zb1 ps i)then zj8 ps i (m - pl ps i)else 0)else 0:=λk _=>by
    unfold ipT;by_cases y:X m k <;> by_cases z:k=zt2 ps i
    ·rw[aF y,aF z];by_cases x:pl ps i<=m/\¬X (m - pl ps i) (zb1 ps i)
     ·rw[aF ⟨z.symm,x⟩,aF ⟨y,x⟩]
     ·rw[aA λq=>x q.2,aA λq=>x q.2]
    ·rw[aF y,aA z,aA λq=>z q.1.symm]
    ·rw[aA y,aF z,aA λq=>y q.1]
    ·rw[aA y,aA z]
   rw[zp0 this,zx8 (λk=>if X m k/\pl ps i<=m/\¬X (m - pl ps i) (zb1 ps i)then zj8 ps i (m - pl ps i)else 0) hi.2];by_cases y:pl ps i<=m
   ·rw[aF y,show m - pl ps i+pl ps i=m by lia];by_cases x:¬X (m - pl ps i) (zb1 ps i)/\X m (zt2 ps i)
    ·rw[aF ⟨x.2,y,x.1⟩,aF x]
    ·rw[aA λq=>x ⟨q.2.2,q.1⟩,aA x]
   ·rw[aA y,aA λq=>y q.2.1]
  have f3:∀k,(su (u4 (n+1)) λm=>su (u4 ps.length) λi=>if X m k then ipT ps X m k i else 0)=su (u4 ps.length) λi=>su (u4 (n+1)) λm=>if X m k then ipT ps X m k i else 0:=λk=>zsb ..
  simp only[f3];rw[zsb,zp0 f2,zsb];rw[wY,su_snoc',su_zero' (l:=u4 ps.length) λi hi=>aA (by have:=(hp i (u9.mp hi)).1;lia),x8];refine zp0 λm _=>?_;rw[<- zjl _ zco.1 λi hi=>(zco.2 i hi).1];refine zp0 λi hi=>?_;by_cases y:m+pl ps i<=n
  ·rw[aF y,aF (zl31 (u9.mp hi) y)]
  ·rw[aA y,aA λq=>y (zco.2 i q).2]
 have e4:ws.sum=(su (u4 vs.length) λk=>if X n k then cW ws k else 0)+su (u4 vs.length) λk=>if ¬X n k then cW ws k else 0:=by
  rw[zsl,hw,<- zla];refine zp0 λk _=>?_;by_cases y:X n k
  ·rw[aF y,aA λz=>z y];lia
  ·rw[aA y,aF y];lia
 have e5:(ntOf vs ps n).over (cW ws) X=(su (u4 vs.length) λk=>if X 0 k then(ntOf vs ps n).fl k else 0)+((su (u4 n) λm=>su (u4 vs.length) λk=>if ¬X m k/\X (m+1) k then(ntOf vs ps n).rm k else 0)+su (u4 n) λm=>su (pb ps m n) λi=>if ¬X m (zb1 ps i)/\X (m+pl ps i) (zt2 ps i)then zj8 ps i m else 0)+su (u4 vs.length) λk=>if ¬X n k then cW ws k else 0:=by
  rw[<- zla];rfl
 rw[e2,e3,e5,e4];lia
end
def zl6:DSp:=λds Q=>∃(L:List Le)(ps:List Pi)(n:Nat),ds=[.list (L.map Le.d),.list (ps.map Pi.d),.int (n:Int)]/\(∀l∈L,l.t < n/\l.at_ < ps.length/\1<=l.am)/\Q (.bool true)
def zca:DSp:=λds Q=>∃(vs:List Va)(ps:List Pi)(ws:List Int)(n:Nat)(side:List Nat)(M:Int),ds=[.list (vs.map Va.d),.list (ps.map Pi.d),.list (ws.map .int),.list (ptN vs ps n side),.int (n:Int)]/\YOk vs ps ws/\n<=60/\Ovr vs ps ws n M side/\M < ws.sum/\Q (.bool true)
section
variable {P:aN}{w:aQ}{K:Fg}{mg:Str->Option aC}{base:aT}
theorem zi7:FnScope ["plan", "pipes", "until", "one"] ["plan", "pipes", "until"] (zh0 zy4):=by walk_at"sc"
theorem zvb(M:Md K mg)(T:TopDef K "_law_lettings" zy4)(kt:Kit K)(jL:mg "isinstance"=none)(jJ:mg "len"=none)(jX:mg "list"=none)(qL:mg "tuple"=none)(jU:Def P w K mg base "_law_whole" 1 ["found"] (spD K za3)):Def P w K mg base "_law_lettings" 2 ["plan", "pipes", "until"] (spD K zl6):=by
 refine zi3 M T zi7 (by walk_at"h") (zwa (by walk_at"i")) (zg3 ?_);walk_at"g";have nd:=zi7.nd;refine⟨_,(dSeq (dIf (dNot (dTru (dIs "list" (zm0 0)))) (dRet (cE (dC (.bool false)))) zz5)
   (dSeq (dFor (dIt (dVar 0)) (gN 3) (dSeq (dIf (dOr (dNot (dTru (dIs "tuple" (zm0 3)))) (za2 (dOp fNe (dCB fLen (zk0 (zm0 3) dNil)) (dC (.int 3))))) (dRet (cE (dC (.bool false)))) zz5)
   (dSeq (dIf (dOr (dNot (dTru (zd3 za3 (zk0 (dOp fIx (zm0 3) (dC (.int 0))) dNil)))) (dOr (dNot (dTru (zd3 za3 (zk0 (dOp fIx (zm0 3) (dC (.int 1))) dNil)))) (dNot (dTru (zd3 za3 (zk0 (dOp fIx (zm0 3) (dC (.int 2))) dNil)))))) (dRet (cE (dC (.bool false)))) zz5)
   (dIf (dOr (za2 (dOp fLt (dOp fIx (zm0 3) (dC (.int 0))) (dC (.int 0)))) (dOr (za2 (dOp fGe (dOp fIx (zm0 3) (dC (.int 0))) (zm0 2))) (dOr (za2 (dOp fLt (dOp fIx (zm0 3) (dC (.int 1))) (dC (.int 0)))) (dOr (za2 (dOp fGe (dOp fIx (zm0 3) (dC (.int 1))) (dCB fLen (zk0 (zm0 1) dNil)))) (za2 (dOp fLt (dOp fIx (zm0 3) (dC (.int 2))) (dC (.int 1)))))))) (dRet (cE (dC (.bool false)))) zz5))))
   (dRet (cE (dC (.bool true)))))),(zd0 (zn5 (zhg (zy5 (K:=K) rfl (zv0 (zz9 (K:=K) rfl) rfl jL zg2 (za0 (pv 0) (za0 (zrd (v:=.ty "list") rfl jX zva rfl) zg0))) (λ_=>rfl))) (zj0 (zh1 zls)) zg1)
   (zd0 (zt3 aR rfl (pi_W (K:=K) rfl (pv 0)) (pgn 3 nd) (zd0 (zn5 (PW.pt (zhh (zhg (zy5 (K:=K) rfl (zv0 (zz9 (K:=K) rfl) rfl jL zg2 (za0 (pv 3) (za0 (zrd (v:=.ty "tuple") rfl qL zul rfl) zg0))) (λ_=>rfl))) (zzg (zs0 (zpn (K:=K) rfl (Room.units hr)) (zv0 (zi1 (K:=K) rfl) rfl jJ ze5 (za0 (pv 3) zg0)) ze0 (zz0 _))))) (zj0 (zh1 zls)) zg1)
   (zd0 (zn5 (PW.pt (zhh (zhg (zy5 (K:=K) rfl (zq0 jU (rmn hr) rfl (za0 (pix w K hr (pv 3) ze0) zg0)) (λ_=>rfl))) (zhh (zhg (zy5 (K:=K) rfl (zq0 jU (rmn hr) rfl (za0 (pix w K hr (pv 3) ze0) zg0)) (λ_=>rfl))) (zzg (zhg (zy5 (K:=K) rfl (zq0 jU (rmn hr) rfl (za0 (pix w K hr (pv 3) ze0) zg0)) (λ_=>rfl))))))) (zj0 (zh1 zls)) zg1)
   (zj0 (zn5 (PW.pt (zhh (zs0 zyt (pix w K hr (pv 3) ze0) ze0 (zz0 _)) (zhh (zs0 zz41 (pix w K hr (pv 3) ze0) (pv 2) (zz0 _)) (zhh (zs0 zyt (pix w K hr (pv 3) ze0) ze0 (zz0 _)) (zhh (zs0 zz41 (pix w K hr (pv 3) ze0) (zv0 (zi1 (K:=K) rfl) rfl jJ ze5 (za0 (pv 1) zg0)) (zz0 _)) (zzg (zs0 zyt (pix w K hr (pv 3) ze0) ze0 (zz0 _)))))))) (zj0 (zh1 zls)) zg1)))))
   (zj0 (zh1 zls)))),(zn0 (zm5 (zxg (zda (RfE.v (zrz kt (by simp) (zb0 0))))) (zm1 (RfE.c zmq)) zf1)
   (zn0 (zj4 (zgq (zi0 0)) (rgn 3) (zn0 (zm5 (zlh (zxg (zda (RfE.v (zrz kt (by simp) (zb0 3))))) (zr0 (zv1 q_ne (RfV.h (RfE.v (zu8 zid (zx0 (zb0 3) zp1)))) (RfV.h rvi)))) (zm1 (RfE.c zmq)) zf1)
   (zn0 (zm5 (zlh (zxg (zda (RfE.v (zw0 (zc0 (zl0 r_ix (zb0 3) rvi) zo0))))) (zlh (zxg (zda (RfE.v (zw0 (zc0 (zl0 r_ix (zb0 3) rvi) zo0))))) (zxg (zda (RfE.v (zw0 (zc0 (zl0 r_ix (zb0 3) rvi) zo0))))))) (zm1 (RfE.c zmq)) zf1)
   (zm5 (zlh (zr0 (zl0 r_lt (RfE.v (zl0 r_ix (zb0 3) rvi)) rvi)) (zlh (zr0 (zl0 r_ge (RfE.v (zl0 r_ix (zb0 3) rvi)) (zb0 2))) (zlh (zr0 (zl0 r_lt (RfE.v (zl0 r_ix (zb0 3) rvi)) rvi)) (zlh (zr0 (zl0 r_ge (RfE.v (zl0 r_ix (zb0 3) rvi)) (RfE.v (zu8 zid (zx0 (zb0 1) zp1))))) (zr0 (zl0 r_lt (RfE.v (zl0 r_ix (zb0 3) rvi)) rvi)))))) (zm1 (RfE.c zmq)) zf1))))
   (zm1 (RfE.c zmq)))),?_⟩
 rintro ds Qd ⟨L,ps,n,rfl,hl,q⟩;walk_at"ds";walk_at"a";refine⟨λ_=>trivial,hJ _ ?_⟩;walk_at"c";refine zb2 (λ_ U=>∃s3:Sl,U=[.sh (.list (L.map Le.d)),.sh (.list (ps.map Pi.d)),.sh (.int (n:Int)),s3]) ⟨.un,rfl⟩ ?_ ?_
 ·rintro j l U hx ⟨s3,rfl⟩;clear hJ;obtain⟨h1,h2,h3⟩:=hl l (wI hx);generalize L.map Le.d=LD;obtain⟨lt,la,lm⟩:=l;dsimp only[Le.d]at h1 h2 h3 ⊢;walk_at"a";refine⟨λ_=>trivial,?_⟩;rw[aA (by decide)];walk_at"b";refine⟨_,rfl,_,rfl,?_⟩;walk_at"dd";refine⟨_,rfl,_,rfl,?_⟩;walk_at"dd";refine⟨_,rfl,_,rfl,?_⟩;walk_at"dd";walk_at"f";walk_at"dd";walk_at"k";rw[aA (by lia)];walk_at"k";rw[aA (by lia)];walk_at"k";rw[aA (by lia)];walk_at"k";rw[u5,aA (by lia)];walk_at"k";rw[aA (by lia)];exact⟨_,rfl⟩
 ·rintro U ⟨s3,rfl⟩;walk_at"f";walk_at"dd";exact q
theorem zdb:FnScope ["vats", "pipes", "wants", "part", "until", "lack", "vat", "moment", "pipe"] ["vats", "pipes", "wants", "part", "until"] (zh0 za9):=by walk_at"sc"
theorem zgh(M:Md K mg)(T:TopDef K "_law_short" za9)(jJ:mg "len"=none)(jE:mg "range"=none)(jN:Def P w K mg base "_law_width" 1 ["gate", "moment"] (spD K zx2)):Def P w K mg base "_law_short" 2 ["vats", "pipes", "wants", "part", "until"] (spD K zca):=by
 refine zi3 M T zdb (by walk_at"h") (zwa (by walk_at"i")) (zg3 ?_);walk_at"g";have nd:=zdb.nd;refine⟨_,(dSeq (dAsg (dC (.int 0)) (gN 5))
   (dSeq (dFor (zih (zk0 (dCB fLen (zk0 (zm0 0) dNil)) dNil)) (gN 6) (dFor (zih (zk0 (dOp fAdd (zm0 4) (dC (.int 1))) dNil)) (gN 7) (dSeq (dIf (za2 (dOp zod (dTup (zk0 (zm0 7) (zk0 (zm0 6) dNil))) (zm0 3))) zw41 zz5)
   (dSeq (dIf (za2 (dOp fEq (zm0 7) (zm0 4))) (dAug 5 (λi j=>i+j) (dOp fIx (zm0 2) (zm0 6))) zz5)
   (dSeq (dIf (za2 (dOp fEq (zm0 7) (dC (.int 0)))) (dAug 5 (λi j=>i - j) (dOp fIx (dOp fIx (zm0 0) (zm0 6)) (dC (.int 2)))) (dIf (za2 (dOp zod (dTup (zk0 (dOp fSub (zm0 7) (dC (.int 1))) (zk0 (zm0 6) dNil))) (zm0 3))) (dAug 5 (λi j=>i - j) (dOp fIx (dOp fIx (zm0 0) (zm0 6)) (dC (.int 1)))) zz5))
   (dFor (dIt (dVar 1)) (gN 8) (dIf (dAnd (za2 (dOp fEq (dOp fIx (zm0 8) (dC (.int 1))) (zm0 6))) (dAnd (za2 (dOp fGe (zm0 7) (dOp fIx (zm0 8) (dC (.int 2))))) (za2 (dOp zod (dTup (zk0 (dOp fSub (zm0 7) (dOp fIx (zm0 8) (dC (.int 2)))) (zk0 (dOp fIx (zm0 8) (dC (.int 0))) dNil))) (zm0 3))))) (dAug 5 (λi j=>i - j) (zd3 zx2 (zk0 (dOp fIx (zm0 8) (dC (.int 4))) (zk0 (dOp fSub (zm0 7) (dOp fIx (zm0 8) (dC (.int 2)))) dNil)))) zz5)))))))
   (dRet (cE (dOp fGt (zm0 5) (dC (.int 0))))))),(zd0 (pset 5 nd ze0)
   (zd0 (zt3 aR rfl (zt1 rfl jE (za0 (zv0 (zi1 (K:=K) rfl) rfl jJ ze5 (za0 (pv 0) zg0)) zg0)) (pgn 6 nd) (zj0 (zt3 aR rfl (zt1 rfl jE (za0 (zk1 (zl1 (K:=K) rfl) (pv 4) ze0) zg0)) (pgn 7 nd) (zd0 (zn5 (zs0 (zse (K:=K) rfl (Room.units hr)) (zo1 (za0 (pv 7) (za0 (pv 6) zg0))) (pv 3) (by with_unfolding_all rfl)) (zj0 zee) zg1)
   (zd0 (zn5 (zs0 (zz2 (K:=K) rfl (Room.units hr)) (pv 7) (pv 4) (zz0 _)) (zj0 (zrk (i:=5) nd rfl (by first|exact yA rfl|exact xW rfl) (pix w K hr (pv 2) (pv 6)) zyf)) zg1)
   (zd0 (zn5 (zs0 (zz2 (K:=K) rfl (Room.units hr)) (pv 7) ze0 (zz0 _)) (zj0 (zrk (i:=5) nd rfl (by first|exact yA rfl|exact xW rfl) (pix w K hr (pix w K hr (pv 0) (pv 6)) ze0) zyk)) (zj0 (zn5 (zs0 (zse (K:=K) rfl (Room.units hr)) (zo1 (za0 (zk1 zj9 (pv 7) ze0) (za0 (pv 6) zg0))) (pv 3) (by with_unfolding_all rfl)) (zj0 (zrk (i:=5) nd rfl (by first|exact yA rfl|exact xW rfl) (pix w K hr (pix w K hr (pv 0) (pv 6)) ze0) zyk)) zg1)))
   (zj0 (zt3 aR rfl (pi_W (K:=K) rfl (pv 1)) (pgn 8 nd) (zj0 (zn5 (PW.pt (zel (zs0 (zz2 (K:=K) rfl (Room.units hr)) (pix w K hr (pv 8) ze0) (pv 6) (zz0 _)) (zel (zs0 zz41 (pv 7) (pix w K hr (pv 8) ze0) (zz0 _)) (zag (zs0 (zse (K:=K) rfl (Room.units hr)) (zo1 (za0 (zk1 zj9 (pv 7) (pix w K hr (pv 8) ze0)) (za0 (pix w K hr (pv 8) ze0) zg0))) (pv 3) (by with_unfolding_all rfl)))))) (zj0 (zrk (i:=5) nd rfl (by first|exact yA rfl|exact xW rfl) (zq0 jN (rmn hr) rfl (za0 (pix w K hr (pv 8) ze0) (za0 (zk1 zj9 (pv 7) (pix w K hr (pv 8) ze0)) zg0))) zyk)) zg1))))))))))
   (zj0 (zh1 (zup zll (pv 5) ze0 (zz0 _)))))),(zn0 (zy0 zd1 (rgn 5))
   (zn0 (zj4 (za4 (zc0 (zu8 zid (zx0 (zb0 0) zp1)) zo0)) (rgn 6) (zj4 (za4 (zc0 (zl0 zf8 (zb0 4) rvi) zo0)) (rgn 7) (zn0 (zm5 (zr0 (zv1 zli (zku (zde (RfV.h (zb0 7)) (zde (RfV.h (zb0 6)) zyn))) (RfV.h (zb0 3)))) zft zf1)
   (zn0 (zm5 (zr0 (zv1 q_eq (RfV.h (zb0 7)) (RfV.h (zb0 4)))) (zhl (zl0 r_ix (zb0 2) (zb0 6))) zf1)
   (zn0 (zm5 (zr0 (zv1 q_eq (RfV.h (zb0 7)) (RfV.h rvi))) (zhl (zl0 r_ix (RfE.v (zl0 r_ix (zb0 0) (zb0 6))) rvi)) (zm5 (zr0 (zv1 zli (zku (zde (RfV.h (RfE.v (zl0 zij (zb0 7) rvi))) (zde (RfV.h (zb0 6)) zyn))) (RfV.h (zb0 3)))) (zhl (zl0 r_ix (RfE.v (zl0 r_ix (zb0 0) (zb0 6))) rvi)) zf1))
   (zj4 (zgq (zi0 1)) (rgn 8) (zm5 (zgl (zr0 (zv1 q_eq (RfV.h (RfE.v (zl0 r_ix (zb0 8) rvi))) (RfV.h (zb0 6)))) (zgl (zr0 (zl0 r_ge (zb0 7) (RfE.v (zl0 r_ix (zb0 8) rvi)))) (zr0 (zv1 zli (zku (zde (RfV.h (RfE.v (zl0 zij (zb0 7) (RfE.v (zl0 r_ix (zb0 8) rvi))))) (zde (RfV.h (RfE.v (zl0 r_ix (zb0 8) rvi))) zyn))) (RfV.h (zb0 3)))))) (zhl (zw0 (zc0 (zl0 r_ix (zb0 8) rvi) (zc0 (zl0 zij (zb0 7) (RfE.v (zl0 r_ix (zb0 8) rvi))) zo0)))) zf1)))))))
   (zm1 (RfE.c (zl0 r_gt (zb0 5) rvi))))),?_⟩
 rintro ds Qd ⟨vs,ps,ws,n,side,M,rfl,y,hn,ov,hM,q⟩;have h1:=y.n1;have h2:=y.n2;have h3:=y.m2;have hw:=y.lw;have pgp:∀i,i < ps.length->∃p,ps[i]?=some p/\zb1 ps i=p.u/\zt2 ps i=p.v/\pl ps i=p.len/\p.u < vs.length/\p.v < vs.length/\1<=p.len/\p.g.ok/\∀m,zj8 ps i m=p.g.at m:=λi hi=>by
  have e:ps[i]?=some ps[i]:=u6 hi;obtain⟨h1,h2,h3,_,h5,h6⟩:=y.pb _ (w6 hi);exact⟨_,e,by unfold zb1;rw[e];rfl,by unfold zt2;rw[e];rfl,by unfold pl;rw[e];rfl,h1,h2,h3,h5,λm=>by unfold zj8;rw[e];rfl⟩
 have hpl:∀i,i < ps.length->1<=pl ps i/\zt2 ps i < vs.length:=λi hi=>by
  obtain⟨p,_,_,e2,e3,_,pv,p1,_⟩:=pgp i hi;rw[e2,e3];exact⟨p1,pv⟩
 have pa:∀{m k:Nat},m<=n->k < vs.length->((ptN vs ps n side).any λe=>xD e (.tuple [.int (m:Int),.int (k:Int)]))=decide ((ntOf vs ps n).nd m k ∉ side):=λhm hk=>zpu h1 hm hk;have pf:=zex (vs:=vs) (ps:=ps) (n:=n) (side:=side);have ft:∀a b:Int,Fit 8 (.tuple [.int a,.int b]):=λa b=>Fit.tup λz hz=>by
  simp at hz;rcases hz with rfl|rfl <;> exact Fit.int _
 have fin:=zd01 (vs:=vs) (ps:=ps) (n:=n) (ws:=ws) hpl hw λm k=>(ntOf vs ps n).nd m k ∉ side;have ov:M=(ntOf vs ps n).over (cW ws) λm k=>(ntOf vs ps n).nd m k ∉ side:=ov;rw[<- ov]at fin;clear ov;obtain⟨X,dX,pa,fin⟩:∃(X:Nat->Nat->Prop)(dX:∀m k,Decidable (X m k)),(∀m k,m<=n->k < vs.length->((ptN vs ps n side).any λe=>xD e (.tuple [.int (m:Int),.int (k:Int)]))=decide (X m k))/\(su (u4 vs.length) λk=>su (u4 (n+1)) λm=>lkT vs ps ws n X m k)=ws.sum - M:=⟨_,λ_ _=>inferInstance,λm k hm hk=>pa hm hk,fin⟩
 have nt:∀{m k:Nat}{Q:D->Prop},m<=n->k < vs.length->Q (.bool (!decide (X m k)))->zod (.tuple [.int (m:Int),.int (k:Int)]) (.list (ptN vs ps n side)) Q:=λ{m k Q} hm hk hq=>by
  rw[<- pa m k hm hk]at hq;exact⟨ft _ _,pf,hq⟩
 walk_at"ds";walk_at"dn";walk_at"a";rw[u5,vZ];unfold rngD;refine⟨by lia,by lia,?_⟩;refine zb2 (λk U=>∃s6 s7 s8:Sl,U=[.sh (.list (vs.map Va.d)),.sh (.list (ps.map Pi.d)),.sh (.list (ws.map .int)),.sh (.list (ptN vs ps n side)),.sh (.int (n:Int)),.sh (.int (su (u4 k) λk=>su (u4 (n+1)) λm=>lkT vs ps ws n X m k)),s6,s7,s8]) ⟨.un,.un,.un,rfl⟩ ?_ ?_
 ·rintro k x U hx ⟨s6,s7,s8,rfl⟩;clear hJ;obtain⟨hk,h2'⟩:=v8.mp hx;simp at hk h2';subst h2';rw[show(0:Int)+(k:Int)=(k:Int) by lia,wY (n:=k),su_snoc'];generalize(su (u4 k) λk=>su (u4 (n+1)) λm=>lkT vs ps ws n X m k)=A;have ev:vs[k]?=some vs[k]:=u6 hk;have ef:(ntOf vs ps n).fl k=vs[k].fill:=by show((vs[k]?).map Va.fill).getD 0=_;rw[ev];rfl
  have em:(ntOf vs ps n).rm k=vs[k].room:=by show((vs[k]?).map Va.room).getD 0=_;rw[ev];rfl
  walk_at"dd";rw[show((n:Int)+1).toNat=n+1 by lia];refine⟨by lia,by lia,?_⟩;refine zb2 (λm U=>∃s7 s8:Sl,U=[.sh (.list (vs.map Va.d)),.sh (.list (ps.map Pi.d)),.sh (.list (ws.map .int)),.sh (.list (ptN vs ps n side)),.sh (.int (n:Int)),.sh (.int (A+su (u4 m) λm=>lkT vs ps ws n X m k)),.sh (.int (k:Int)),s7,s8]) ⟨s7,s8,?_⟩ ?_ ?_
  ·rw[zY,zu5,x8]
  ·rintro m x U hx ⟨s7,s8,rfl⟩;obtain⟨hm,h2'⟩:=v8.mp hx;simp at hm h2';subst h2';rw[show(0:Int)+(m:Int)=(m:Int) by lia,wY (n:=m),su_snoc',<- uaF];generalize(A+su (u4 m) λm=>lkT vs ps ws n X m k)=B;walk_at"a";refine⟨ft _ _,pf,?_⟩;rw[pa m k (by lia) hk];by_cases hX:X m k
   ·rw[bN hX,aA (by decide)];walk_at"f";have el:lkT vs ps ws n X m k=(if m=n then cW ws k else 0) - (if m=0 then(ntOf vs ps n).fl k else if X (m - 1) k then 0 else(ntOf vs ps n).rm k) - su (u4 ps.length) (ipT ps X m k):=aF hX;rw[el];clear el;refine za6 (λU=>U=[.sh (.list (vs.map Va.d)),.sh (.list (ps.map Pi.d)),.sh (.list (ws.map .int)),.sh (.list (ptN vs ps n side)),.sh (.int (n:Int)),.sh (.int (B+if m=n then cW ws k else 0)),.sh (.int (k:Int)),.sh (.int (m:Int)),s8]) ?_ ?_
    ·walk_at"dd";refine two (λz=>⟨_,ga ws k (by lia),?_⟩) λz=>?_
     ·walk_at"dd";rw[aF (by lia)];rfl
     ·rw[aA (by lia),x8]
    rintro U rfl;refine za6 (λU=>U=[.sh (.list (vs.map Va.d)),.sh (.list (ps.map Pi.d)),.sh (.list (ws.map .int)),.sh (.list (ptN vs ps n side)),.sh (.int (n:Int)),.sh (.int (B+(if m=n then cW ws k else 0) - (if m=0 then(ntOf vs ps n).fl k else if X (m - 1) k then 0 else(ntOf vs ps n).rm k))),.sh (.int (k:Int)),.sh (.int (m:Int)),s8]) ?_ ?_
    ·walk_at"dd";refine two (λz=>⟨_,gm Va.d ev,?_⟩) λz=>?_
     ·unfold Va.d;walk_at"dd";walk_at"k";rw[aF (show m=0 by lia),ef]
     ·rw[show(m:Int) - 1=((m - 1:Nat):Int) by lia];refine⟨ft _ _,pf,?_⟩;rw[pa (m - 1) k (by lia) hk,aA (show ¬m=0 by lia)];by_cases hY:X (m - 1) k
      ·rw[bN hY,aA (by decide),aF hY,yT]
      ·rw[aY hY,aF rfl,aA hY];refine⟨_,gm Va.d ev,?_⟩;unfold Va.d;walk_at"dd";walk_at"k";rw[em]
    rintro U rfl;rw[<- Int.add_sub_assoc,<- Int.add_sub_assoc];generalize(B+(if m=n then cW ws k else 0) - (if m=0 then(ntOf vs ps n).fl k else if X (m - 1) k then 0 else(ntOf vs ps n).rm k))=C;walk_at"dd";refine zb2 (λi U=>∃s8:Sl,U=[.sh (.list (vs.map Va.d)),.sh (.list (ps.map Pi.d)),.sh (.list (ws.map .int)),.sh (.list (ptN vs ps n side)),.sh (.int (n:Int)),.sh (.int (C - su (u4 i) (ipT ps X m k))),.sh (.int (k:Int)),.sh (.int (m:Int)),s8]) ⟨s8,?_⟩ ?_ ?_
    ·rw[zY,zu5,yT]
    ·rintro i p U hp ⟨s8,rfl⟩;have hi:=(v8.mp hp).1;obtain⟨p',ep,e1,e2,e3,pu,pv,p1,pok,hwd⟩:=pgp i hi;rw[hp]at ep;cases ep;rw[wY (n:=i),su_snoc',<- Int.sub_sub];generalize C - su (u4 i) (ipT ps X m k)=E;have sk:¬(p.v=k/\p.len<=m/\¬X (m - p.len) p.u)->ipT ps X m k i=0:=λz=>by
      unfold ipT;rw[e1,e2,e3];exact aA z
     generalize hPD:ps.map Pi.d=PD;unfold Pi.d;walk_at"dd";walk_at"k";refine two (λz=>⟨_,rfl,?_⟩) λz=>?_
     ·walk_at"dd";refine two (λz2=>⟨_,rfl,?_⟩) λz2=>?_
      ·walk_at"dd";refine⟨_,rfl,?_⟩;rw[show(m:Int) - (p.len:Int)=((m - p.len:Nat):Int) by lia];refine⟨ft _ _,pf,?_⟩;rw[pa (m - p.len) p.u (by lia) pu];by_cases hZ:X (m - p.len) p.u
       ·rw[bN hZ,aA (by decide),sk λq=>q.2.2 hZ,yT];exact⟨_,rfl⟩
       ·rw[aY hZ,aF rfl];refine⟨_,rfl,_,rfl,?_⟩;walk_at"dd";rw[show(m:Int) - (p.len:Int)=((m - p.len:Nat):Int) by lia];refine⟨p.g,m - p.len,rfl,pok,?_⟩;walk_at"dd";have ei:ipT ps X m k i=p.g.at (m - p.len):=by
         unfold ipT;rw[e1,e2,e3,hwd];exact aF ⟨by lia,by lia,hZ⟩
        rw[ei];exact⟨_,rfl⟩
      ·rw[sk λq=>z2 (by lia),yT];exact⟨_,rfl⟩
     ·rw[sk λq=>z (by lia),yT];exact⟨_,rfl⟩
    ·rintro U ⟨s8,rfl⟩;exact⟨_,_,rfl⟩
   ·rw[aY hX,aF rfl,show lkT vs ps ws n X m k=0 from aA hX,x8];exact⟨_,_,rfl⟩
  ·rintro U ⟨s7,s8,rfl⟩;rw[wE];exact⟨_,_,_,rfl⟩
 ·rintro U ⟨s6,s7,s8,rfl⟩;rw[wE];walk_at"f";walk_at"dd";rw[fin,bN (by lia)];exact q
end
section
variable {u:Nat}{fl:List Int}{ps:List Pi}{L:List Le}{vs:List Va}{ws:List Int}
theorem Pln.late(p:Pln u fl ps L)(Yv:Yw fl ps)(V:Vok u fl ps L vs ws)(l:Nat):Late vs ps ws u l:=λn M hn _ val=>by
 have h1:=val.mx _ (cW ws) (p.lk Yv V hn) rfl;have h2:=val.le;rw[zsl,V.w,<- V.n];exact Int.le_antisymm h2 h1
theorem Pln.closed(p:Pln u fl ps L){S:List Nat}(nd:S.Nodup)(hb:∀v∈S,v < fl.length)(cl:∀i,i < ps.length->zt2 ps i∈S->zb1 ps i∈S):su S (lieR ps fl L u)<=su S λk=>fl.getD k 0:=by
 have pick:∀(c:Prop) [Decidable c] (x:Int) (g:Nat),(su S λk=>if c/\g=k then x else 0)=if c/\g∈S then x else 0:=λc _ x g=>by
  by_cases h:c
  ·by_cases hg:g∈S
   ·rw[aF ⟨h,hg⟩];have e:(su S λk=>if c/\g=k then x else 0)=su S λk=>if k=g then x else 0:=zp0 λk _=>by
     by_cases z:k=g
     ·rw[aF z,aF ⟨h,z.symm⟩]
     ·rw[aA z,aA (show ¬(c/\g=k)from λq=>z q.2.symm)]
    rw[e,<- zjl (c:=fl.length) _ nd hb];have e2:(su (u4 fl.length) λi=>if i∈S then(if i=g then x else 0)else 0)=su (u4 fl.length) λi=>if i=g then x else 0:=zp0 λi _=>by
     by_cases z:i=g
     ·subst z;rw[aF hg]
     ·rw[aA z];split <;> rfl
    rw[e2];exact zx8 (λ_=>x) (hb g hg)
   ·rw[aA (show ¬(c/\g∈S)from λq=>hg q.2)];exact su_zero' λk hk=>aA (show ¬(c/\g=k)from λq=>hg (q.2 ▸ hk))
  ·rw[aA (show ¬(c/\g∈S)from λq=>h q.1)];exact su_zero' λk _=>aA (show ¬(c/\g=k)from λq=>h q.1)
 have e:su S (lieR ps fl L u)=(su S λk=>fl.getD k 0)+(su L λl=>if l.t+pl ps l.at_<=u/\zt2 ps l.at_∈S then l.am else 0) - su L λl=>if l.t<=u/\zb1 ps l.at_∈S then l.am else 0:=by
  unfold lieR;rw[zv9,zla,zsb,zsb S L];have a1:(su L λl:Le=>su S λk=>if l.t+pl ps l.at_<=u/\zt2 ps l.at_=k then l.am else 0)=su L λl:Le=>if l.t+pl ps l.at_<=u/\zt2 ps l.at_∈S then l.am else 0:=zp0 λl _=>pick _ _ _
  have a2:(su L λl:Le=>su S λk=>if l.t<=u/\zb1 ps l.at_=k then l.am else 0)=su L λl:Le=>if l.t<=u/\zb1 ps l.at_∈S then l.am else 0:=zp0 λl _=>pick _ _ _
  rw[a1,a2]
 have le:(su L λl=>if l.t+pl ps l.at_<=u/\zt2 ps l.at_∈S then l.am else 0)<=su L λl=>if l.t<=u/\zb1 ps l.at_∈S then l.am else 0:=zoy λl hl=>by
  have h:=p.lt l hl;by_cases z:l.t+pl ps l.at_<=u/\zt2 ps l.at_∈S
  ·rw[aF z,aF ⟨by lia,cl _ h.2.1 z.2⟩];exact wR _
  ·rw[aA z];split <;> lia
 rw[e];lia
theorem Pln.cut(p:Pln u fl ps L)(V:Vok u fl ps L vs ws)(zo:ZOk vs (ps.map Pi.pp) ws):∀r,IsCut vs (ps.map Pi.pp) ws r->r=.none:=λr hr=>by
 rcases IsCut.some zo hr with⟨e,_⟩|⟨l,_,_,so,lb,cl,pos⟩
 ·exact e
 ·have nd:l.Nodup:=so.imp λ{a b} h=>wJ h;have hb:∀v∈l,v < fl.length:=λv hv=>by rw[<- V.n];exact lb v hv
  have c:=p.closed nd hb λi hi hg=>by
   have e:ps[i]?=some ps[i]:=u6 hi;have g:zt2 ps i=ps[i].v:=by unfold zt2;rw[e];rfl
   have s:zb1 ps i=ps[i].u:=by unfold zb1;rw[e];rfl
   rw[g]at hg;rw[s];exact cl ps[i].pp (vU.mpr ⟨_,w6 hi,rfl⟩) hg
  have c2:(l.map λv=>fx ws v - fx (vs.map Va.fill) v).sum<=su l (lieR ps fl L u) - su l λk=>fl.getD k 0:=by
   rw[<- zv9];refine zoy λv hv=>?_;have hv:=hb v hv;have ev:vs[v]?=some (vs[v]'(by rw[V.n];exact hv)):=u6 _;have w1:=(V.ww v hv).2;have e1:fx (vs.map Va.fill) v=fl.getD v 0:=by
    unfold fx;rw[u8,ev];exact V.f v _ ev
   have e2:fx ws v=cW ws v:=rfl;rw[e1,e2];lia
  lia
end
theorem zi71:a9 "any"=some (.builtin "any"):=by decide +kernel
theorem zzw{di:DF}{dg:DG}{db:DS}{E:DEnds}{U:DSt}(h:∀B:DS,(∀E U,db E U->B E U)->dFor di dg B E U):dFor di dg db E U:=h db λ_ _ z=>z
section
variable {P:aN}{w:aQ}{K:Fg}{mg:Str->Option aC}{base:aT}
theorem zr11:FnScope ["script", "begun", "pipes", "until", "drawn", "vats", "wants", "k", "cell", "more", "want", "last", "found", "lies"] ["script"] (zh0 zdz):=by walk_at"sc"
theorem zpx(kt:Kit K)(vI:mg "any"=none)(jL:mg "isinstance"=none)(jJ:mg "len"=none)(jX:mg "list"=none)(jE:mg "range"=none)(qL:mg "tuple"=none)(uO:Def P w K mg base "soonest" 10 ["yard", "wants", "last"] (spD K zpf))(jM:Def P w K mg base "_law_cell_at" 1 ["script", "k"] (spD K zq1))(jU:Def P w K mg base "_law_whole" 1 ["found"] (spD K za3))(qP:Def P w K mg base "_law_drawn" 2 ["cells", "fills", "pipes", "until"] (spD K zba))(qG:Def P w K mg base "_law_brought" 2 ["vats", "pipes", "plan", "until"] (spD K zv7))(kZ:Def P w K mg base "_law_lettings" 2 ["plan", "pipes", "until"] (spD K zl6))(qQ:Def P w K mg base "_law_short" 2 ["vats", "pipes", "wants", "part", "until"] (spD K zca))(qZ:Def P w K mg base "_law_yard" 2 ["script"] (spD K zxb)) :
  ∀(f:aE)(cdv:aC)(A:bB)(outer:List Env)(s:aH)(H:Hp)(E:XK),Room 10 (A.deeper (cQ "law" (zh0 zdz) s.heap.objs.size f cdv)) ->
   ∃t d,PSs (cxOf CX0 P w K mg base ["script", "begun", "pipes", "until", "drawn", "vats", "wants", "k", "cell", "more", "want", "last", "found", "lies"] "law" (zh0 zdz) f cdv A outer s H E).nox (zp3 zdz) t/\RfS K t d/\∀(ns:List Int)(Qd:D->Prop),ns.length<=63->Qd (.bool true)->d { nx:=λ_=>Qd .none,rt:=rD Qd } (zcf ["script", "begun", "pipes", "until", "drawn", "vats", "wants", "k", "cell", "more", "want", "last", "found", "lies"] [.list (ns.map .int)]):=by
 walk_at"g";have nd:=zr11.nd;refine⟨_,(dSeq (dAsg (zd3 zxb (zk0 (dVar 0) dNil)) (gN 1))
   (dSeq (dAsg (dOp fIx (zm0 1) (dC (.int 1))) (gN 2))
   (dSeq (dAsg (dOp fIx (dF (dLst (zk0 (dC (.int 3)) (zk0 (dC (.int 2)) (zk0 (dC (.int 3)) (zk0 (dC (.int 0)) (zk0 (dC (.int 1)) (zk0 (dC (.int 3)) (zk0 (dC (.int 2)) dNil))))))))) (dOp fMod (zd3 zq1 (zk0 (dVar 0) (zk0 (dC (.int 1)) dNil))) (dC (.int 7)))) (gN 3))
   (dSeq (dAsg (zd3 zba (zk0 (dSl (zm0 0) zxc (zvx (dC (.int 80)))) (zk0 (dOp fIx (zm0 1) (dC (.int 0))) (zk0 (dVar 2) (zk0 (dVar 3) dNil))))) (gN 4))
   (dSeq (dSet 5 (cF (dLst dNil)))
   (dSeq (dSet 6 (cF (dLst dNil)))
   (dSeq (dFor (zih (zk0 (dCB fLen (zk0 (dOp fIx (zm0 1) (dC (.int 0))) dNil)) dNil)) (gN 7) (dSeq (dAsg (zd3 zq1 (zk0 (dVar 0) (zk0 (dOp fAdd (dC (.int 8)) (zm0 7)) dNil))) (gN 8))
   (dSeq (dAsg (dC (.int 0)) (gN 9))
   (dSeq (dIf (za2 (dOp fEq (dOp fMod (zm0 8) (dC (.int 2))) (dC (.int 1)))) (dAsg (dOp fMod (dOp fDiv (zm0 8) (dC (.int 2))) (dOp fPow (dC (.int 10)) (dC (.int 11)))) (gN 9)) zz5)
   (dSeq (zjh (cBM "list" mApp (pVar 5) (zk0 (dTup (zk0 (dOp fIx (dF (dLst (zk0 (dC (.str "c")) (zk0 (dC (.str "ca")) (zk0 (dC (.str "d")) dNil))))) (zm0 7)) (zk0 (dOp fAdd (dOp fIx (dOp fIx (zm0 4) (dC (.int 1))) (zm0 7)) (zm0 9)) (zk0 (dOp fIx (dOp fIx (zm0 1) (dC (.int 0))) (zm0 7)) dNil)))) dNil)))
   (dSeq (dAsg (dOp fIx (dOp fIx (zm0 4) (dC (.int 0))) (zm0 7)) (gN 10))
   (dSeq (dIf (za2 (dOp fEq (dOp fMod (dOp fDiv (zm0 8) (dC (.int 3))) (dC (.int 4))) (dC (.int 1)))) (dAsg (dOp fSub (zm0 10) (dOp fMod (dOp fDiv (zm0 8) (dC (.int 12))) (dOp fAdd (zm0 10) (dC (.int 1))))) (gN 10)) zz5)
   (zjh (cBM "list" mApp (pVar 6) (zk0 (dVar 10) dNil))))))))))
   (dSeq (dAsg (dOp fAdd (zm0 3) (dOp fMod (zd3 zq1 (zk0 (dVar 0) (zk0 (dC (.int 2)) dNil))) (dC (.int 3)))) (gN 11))
   (dSeq (dAsg (zd3 zpf (zk0 (dTup (zk0 (dF (dCF zeq (zk0 (zm0 5) dNil))) (zk0 (dF (dCF zeq (zk0 (zm0 2) dNil))) dNil))) (zk0 (dF (dCF zeq (zk0 (zm0 6) dNil))) (zk0 (dVar 11) dNil)))) (gN 12))
   (dSeq (dIf (dOr (dNot (dTru (dIs "tuple" (zm0 12)))) (dOr (za2 (dOp fNe (dCB fLen (zk0 (zm0 12) dNil)) (dC (.int 4)))) (dOr (za2 (dOp fNe (dOp fIx (zm0 12) (dC (.int 0))) (dC (.str "met")))) (dNot (dTru (zd3 za3 (zk0 (dOp fIx (zm0 12) (dC (.int 1))) dNil))))))) (dRet (cE (dC (.bool false)))) zz5)
   (dSeq (dIf (dOr (za2 (dOp fLt (dOp fIx (zm0 12) (dC (.int 1))) (dC (.int 0)))) (dOr (za2 (dOp fGt (dOp fIx (zm0 12) (dC (.int 1))) (zm0 3))) (dNot (dTru (zd3 zl6 (zk0 (dOp fIx (zm0 12) (dC (.int 2))) (zk0 (dVar 2) (zk0 (dOp fIx (zm0 12) (dC (.int 1))) dNil)))))))) (dRet (cE (dC (.bool false)))) zz5)
   (dSeq (dFrz 5 [] (dAsg (zd3 zv7 (zk0 (dVar 5) (zk0 (dVar 2) (zk0 (dOp fIx (zm0 12) (dC (.int 2))) (zk0 (dOp fIx (zm0 12) (dC (.int 1))) dNil))))) (gN 13)))
   (dSeq (dIf (dOr (za2 (dOp fIsN (zm0 13) (dC .none))) (dTru (dCB zhz (zk0 (dF (zbd (zih (zk0 (dCB fLen (zk0 (zm0 5) dNil)) dNil)) 1 [13,6] (gN 0) zmf (dOp fLt (dOp fIx (zm0 1) (zm0 0)) (dOp fIx (zm0 2) (zm0 0))))) dNil)))) (dRet (cE (dC (.bool false)))) zz5)
   (dSeq (dIf (za2 (dOp fEq (dOp fIx (zm0 12) (dC (.int 1))) (dC (.int 0)))) (dRet (cE (dOp fEq (dOp fIx (zm0 12) (dC (.int 3))) (dF (dLst dNil))))) zz5)
   (dFrz 6 [] (dFrz 5 [] (dRet (cE (zh51 (dIs "list" (dOp fIx (zm0 12) (dC (.int 3)))) (zd3 zca (zk0 (dVar 5) (zk0 (dVar 2) (zk0 (dVar 6) (zk0 (dOp fIx (zm0 12) (dC (.int 3))) (zk0 (dOp fSub (dOp fIx (zm0 12) (dC (.int 1))) (dC (.int 1))) dNil))))))))))))))))))))))))),(zd0 (pset 1 nd (zq0 qZ (rmn hr) rfl (za0 (pv 0) zg0)))
   (zd0 (pset 2 nd (pix w K hr (pv 1) ze0))
   (zd0 (pset 3 nd (pix w K hr (zi2 (za0 ze0 (za0 ze0 (za0 ze0 (za0 ze0 (za0 ze0 (za0 ze0 (za0 ze0 zg0)))))))) (zk1 zm2 (zq0 jM (rmn hr) rfl (za0 (pv 0) (za0 ze0 zg0))) ze0)))
   (zd0 (pset 4 nd (zq0 qP (rmn hr) rfl (za0 (zrc (sl_W (K:=K) rfl) (pv 0) zqd (zm9 ze0)) (za0 (pix w K hr (pv 1) ze0) (za0 (pv 2) (za0 (pv 3) zg0))))))
   (zd0 (pset 5 nd (zi2 zg0))
   (zd0 (pset 6 nd (zi2 zg0))
   (zd0 (zt3 aR rfl (zt1 rfl jE (za0 (zv0 (zi1 (K:=K) rfl) rfl jJ ze5 (za0 (pix w K hr (pv 1) ze0) zg0)) zg0)) (pgn 7 nd) (zd0 (pset 8 nd (zq0 jM (rmn hr) rfl (za0 (pv 0) (za0 (zk1 (zl1 (K:=K) rfl) ze0 (pv 7)) zg0))))
   (zd0 (pset 9 nd ze0)
   (zd0 (zn5 (zs0 (zz2 (K:=K) rfl (Room.units hr)) (zk1 zm2 (pv 8) ze0) ze0 (zz0 _)) (zj0 (pset 9 nd (zk1 zm2 (zk1 zu1 (pv 8) ze0) (zk1 zry ze0 ze0)))) zg1)
   (zd0 (zf2 (zk8 (K:=K) rfl ğa ğb ğc zk2 (pv 5) (za0 (zo1 (za0 (pix w K hr (zi2 (za0 zz6 (za0 zz6 (za0 zz6 zg0)))) (pv 7)) (za0 (zk1 (zl1 (K:=K) rfl) (pix w K hr (pix w K hr (pv 4) ze0) (pv 7)) (pv 9)) (za0 (pix w K hr (pix w K hr (pv 1) ze0) (pv 7)) zg0)))) zg0)))
   (zd0 (pset 10 nd (pix w K hr (pix w K hr (pv 4) ze0) (pv 7)))
   (zd0 (zn5 (zs0 (zz2 (K:=K) rfl (Room.units hr)) (zk1 zm2 (zk1 zu1 (pv 8) ze0) ze0) ze0 (zz0 _)) (zj0 (pset 10 nd (zk1 zj9 (pv 10) (zk1 zm2 (zk1 zu1 (pv 8) ze0) (zk1 (zl1 (K:=K) rfl) (pv 10) ze0))))) zg1)
   (zj0 (zf2 (zk8 (K:=K) rfl ğa ğb ğc zk2 (pv 6) (za0 (pv 10) zg0)))))))))))
   (zd0 (pset 11 nd (zk1 (zl1 (K:=K) rfl) (pv 3) (zk1 zm2 (zq0 jM (rmn hr) rfl (za0 (pv 0) (za0 ze0 zg0))) ze0)))
   (zd0 (pset 12 nd (zq0 uO (rmn hr) rfl (za0 (zo1 (za0 (zk6 (zq5 (K:=K) rfl) rfl jX zva (za0 (pv 5) zg0)) (za0 (zk6 (zq5 (K:=K) rfl) rfl jX zva (za0 (pv 2) zg0)) zg0))) (za0 (zk6 (zq5 (K:=K) rfl) rfl jX zva (za0 (pv 6) zg0)) (za0 (pv 11) zg0)))))
   (zd0 (zn5 (PW.pt (zhh (zhg (zy5 (K:=K) rfl (zv0 (zz9 (K:=K) rfl) rfl jL zg2 (za0 (pv 12) (za0 (zrd (v:=.ty "tuple") rfl qL zul rfl) zg0))) (λ_=>rfl))) (zhh (zs0 (zpn (K:=K) rfl (Room.units hr)) (zv0 (zi1 (K:=K) rfl) rfl jJ ze5 (za0 (pv 12) zg0)) ze0 (zz0 _)) (zhh (zs0 (zpn (K:=K) rfl (Room.units hr)) (pix w K hr (pv 12) ze0) zz6 (zz0 _)) (zzg (zhg (zy5 (K:=K) rfl (zq0 jU (rmn hr) rfl (za0 (pix w K hr (pv 12) ze0) zg0)) (λ_=>rfl)))))))) (zj0 (zh1 zls)) zg1)
   (zd0 (zn5 (PW.pt (zhh (zs0 zyt (pix w K hr (pv 12) ze0) ze0 (zz0 _)) (zhh (zs0 zll (pix w K hr (pv 12) ze0) (pv 3) (zz0 _)) (zzg (zhg (zy5 (K:=K) rfl (zq0 kZ (rmn hr) rfl (za0 (pix w K hr (pv 12) ze0) (za0 (pv 2) (za0 (pix w K hr (pv 12) ze0) zg0)))) (λ_=>rfl))))))) (zj0 (zh1 zls)) zg1)
   (zd0 (pset 13 nd (zq0 qG (rmn hr) rfl (za0 (pv 5) (za0 (pv 2) (za0 (pix w K hr (pv 12) ze0) (za0 (pix w K hr (pv 12) ze0) zg0))))))
   (zd0 (zn5 (PW.pt (zhh (zs0 za31 (pv 13) zyg (zz0 _)) (zzg (zy5 (K:=K) rfl (zv0 (zcr (K:=K) rfl rfl) rfl vI zi71 (za0 (zu4 (sc:=zh0 zdz) (N:=["script", "begun", "pipes", "until", "drawn", "vats", "wants", "k", "cell", "more", "want", "last", "found", "lies"]) (own:=["k"]) (ix:=[13,6]) rfl rfl rfl (by walk_at"csc") (zt1 rfl jE (za0 (zv0 (zi1 (K:=K) rfl) rfl jJ ze5 (za0 (pv 5) zg0)) zg0)) (λ_ _ _ _=>⟨(pgn 0 (nds ["k", "lies", "wants"])),zj3,(zup zyt (pix w K hr (pv 1) (pv 0)) (pix w K hr (pv 2) (pv 0)) (zz0 _))⟩)) zg0)) (λ_=>rfl))))) (zj0 (zh1 zls)) zg1)
   (zd0 (zn5 (zs0 (zz2 (K:=K) rfl (Room.units hr)) (pix w K hr (pv 12) ze0) ze0 (zz0 _)) (zj0 (zh1 (zup (zz2 (K:=K) rfl (Room.units hr)) (pix w K hr (pv 12) ze0) (zi2 zg0) (zz0 _)))) zg1)
   (zj0 (zh1 (zv11 (zv0 (zz9 (K:=K) rfl) rfl jL zg2 (za0 (pix w K hr (pv 12) ze0) (za0 (zrd (v:=.ty "list") rfl jX zva rfl) zg0))) (zv01 (zq0 qQ (rmn hr) rfl (za0 (pv 5) (za0 (pv 2) (za0 (pv 6) (za0 (pix w K hr (pv 12) ze0) (za0 (zk1 zj9 (pix w K hr (pv 12) ze0) ze0) zg0)))))))))))))))))))))))),(zn0 (zy0 (zw0 (zc0 (zi0 0) zo0)) (rgn 1))
   (zn0 (zy0 (zl0 r_ix (zb0 1) rvi) (rgn 2))
   (zn0 (zy0 (zl0 r_ix (RfE.v (RfF.e (zb7 (zc0 zd1 (zc0 zd1 (zc0 zd1 (zc0 zd1 (zc0 zd1 (zc0 zd1 (zc0 zd1 zo0)))))))))) (RfE.v (zl0 zy9 (RfE.v (zw0 (zc0 (zi0 0) (zc0 zd1 zo0)))) rvi))) (rgn 3))
   (zn0 (zy0 (zw0 (zc0 (zp31 (zb0 0) znd (zjc zd1)) (zc0 (zl0 r_ix (zb0 1) rvi) (zc0 (zi0 2) (zc0 (zi0 3) zo0))))) (rgn 4))
   (zn0 (zf3 (RfF.c (zb7 zo0)))
   (zn0 (zf3 (RfF.c (zb7 zo0)))
   (zn0 (zj4 (za4 (zc0 (zu8 zid (zx0 (RfE.v (zl0 r_ix (zb0 1) rvi)) zp1)) zo0)) (rgn 7) (zn0 (zy0 (zw0 (zc0 (zi0 0) (zc0 (zl0 zf8 rvi (zb0 7)) zo0))) (rgn 8))
   (zn0 (zy0 zd1 (rgn 9))
   (zn0 (zm5 (zr0 (zv1 q_eq (RfV.h (RfE.v (zl0 zy9 (zb0 8) rvi))) (RfV.h rvi))) (zy0 (zl0 zy9 (RfE.v (zl0 zsf (zb0 8) rvi)) (RfE.v (zl0 zg91 rvi rvi))) (rgn 9)) zf1)
   (zn0 (zh2 (zkh zhd (zu0 5) (zc0 (zs2 (zc0 (zl0 r_ix (RfE.v (RfF.e (zb7 (zc0 za7 (zc0 za7 (zc0 za7 zo0)))))) (zb0 7)) (zc0 (zl0 zf8 (RfE.v (zl0 r_ix (RfE.v (zl0 r_ix (zb0 4) rvi)) (zb0 7))) (zb0 9)) (zc0 (zl0 r_ix (RfE.v (zl0 r_ix (zb0 1) rvi)) (zb0 7)) zo0)))) zo0)))
   (zn0 (zy0 (zl0 r_ix (RfE.v (zl0 r_ix (zb0 4) rvi)) (zb0 7)) (rgn 10))
   (zn0 (zm5 (zr0 (zv1 q_eq (RfV.h (RfE.v (zl0 zy9 (RfE.v (zl0 zsf (zb0 8) rvi)) rvi))) (RfV.h rvi))) (zy0 (zl0 zij (zb0 10) (RfE.v (zl0 zy9 (RfE.v (zl0 zsf (zb0 8) rvi)) (RfE.v (zl0 zf8 (zb0 10) rvi))))) (rgn 10)) zf1)
   (zh2 (zkh zhd (zu0 6) (zc0 (zi0 10) zo0))))))))))
   (zn0 (zy0 (zl0 zf8 (zb0 3) (RfE.v (zl0 zy9 (RfE.v (zw0 (zc0 (zi0 0) (zc0 zd1 zo0)))) rvi))) (rgn 11))
   (zn0 (zy0 (zw0 (zc0 (zs2 (zc0 (RfF.e (zqz zzk (zx0 (zb0 5) zp1))) (zc0 (RfF.e (zqz zzk (zx0 (zb0 2) zp1))) zo0))) (zc0 (RfF.e (zqz zzk (zx0 (zb0 6) zp1))) (zc0 (zi0 11) zo0)))) (rgn 12))
   (zn0 (zm5 (zlh (zxg (zda (RfE.v (zrz kt (by simp) (zb0 12))))) (zlh (zr0 (zv1 q_ne (RfV.h (RfE.v (zu8 zid (zx0 (zb0 12) zp1)))) (RfV.h rvi))) (zlh (zr0 (zv1 q_ne (RfV.h (RfE.v (zl0 r_ix (zb0 12) rvi))) (RfV.h (RfE.v za7)))) (zxg (zda (RfE.v (zw0 (zc0 (zl0 r_ix (zb0 12) rvi) zo0)))))))) (zm1 (RfE.c zmq)) zf1)
   (zn0 (zm5 (zlh (zr0 (zl0 r_lt (RfE.v (zl0 r_ix (zb0 12) rvi)) rvi)) (zlh (zr0 (zl0 r_gt (RfE.v (zl0 r_ix (zb0 12) rvi)) (zb0 3))) (zxg (zda (RfE.v (zw0 (zc0 (zl0 r_ix (zb0 12) rvi) (zc0 (zi0 2) (zc0 (zl0 r_ix (zb0 12) rvi) zo0))))))))) (zm1 (RfE.c zmq)) zf1)
   (zn0 (zgb 5 [] (zy0 (zw0 (zc0 (zi0 5) (zc0 (zi0 2) (zc0 (zl0 r_ix (zb0 12) rvi) (zc0 (zl0 r_ix (zb0 12) rvi) zo0))))) (rgn 13)))
   (zn0 (zm5 (zlh (zr0 (zl0 zlb1 (zb0 13) (RfE.v zog))) (zda (RfE.v (zu8 zu51 (zx0 (RfE.v (RfF.e (zj2 (RfI.j (za4 (zc0 (zu8 zid (zx0 (zb0 5) zp1)) zo0))) (zn1 (i:=0) (n:=1) (by decide)) zg4 (zl0 r_lt (RfE.v (zl0 r_ix (zb0 1) (zb0 0))) (RfE.v (zl0 r_ix (zb0 2) (zb0 0))))))) zp1))))) (zm1 (RfE.c zmq)) zf1)
   (zn0 (zm5 (zr0 (zv1 q_eq (RfV.h (RfE.v (zl0 r_ix (zb0 12) rvi))) (RfV.h rvi))) (zm1 (RfE.c (zv1 q_eq (RfV.h (RfE.v (zl0 r_ix (zb0 12) rvi))) (zp21 zyn)))) zf1)
   (zgb 6 [] (zgb 5 [] (zm1 (RfE.c (zus (zrz kt (by simp) (RfE.v (zl0 r_ix (zb0 12) rvi))) (zw0 (zc0 (zi0 5) (zc0 (zi0 2) (zc0 (zi0 6) (zc0 (zl0 r_ix (zb0 12) rvi) (zc0 (zl0 zij (RfE.v (zl0 r_ix (zb0 12) rvi)) rvi) zo0))))))))))))))))))))))))),?_⟩
 intro ns Qd hns q;walk_at"ds";walk_at"a";refine⟨ns,rfl,hns,λfl ps Yv=>hJ _ ?_⟩;clear hJ;have n1:=Yv.n1;have n3:=Yv.n3;have m4:=Yv.m4;walk_at"a";refine⟨_,rfl,hJ _ ?_⟩;walk_at"c";refine⟨ns,1,rfl,by lia,λm=>?_⟩;walk_at"dd";obtain⟨u,hu,u3⟩:∃u:Nat,atI [vQ 3,.int 2,.int 3,.int 0,.int 1,.int 3,.int 2] (m % 7)=some (.int (u:Int))/\u<=3:=by
  have:m % 7=0 \/ m % 7=1 \/ m % 7=2 \/ m % 7=3 \/ m % 7=4 \/ m % 7=5 \/ m % 7=6:=by lia
  rcases this with h|h|h|h|h|h|h <;> rw[h]
  ·exact⟨3,rfl,by lia⟩
  ·exact⟨2,rfl,by lia⟩
  ·exact⟨3,rfl,by lia⟩
  ·exact⟨0,rfl,by lia⟩
  ·exact⟨1,rfl,by lia⟩
  ·exact⟨3,rfl,by lia⟩
  ·exact⟨2,rfl,by lia⟩
 refine⟨_,hu,hJ _ ?_⟩;clear hJ hu;walk_at"a";rw[zqb,show cutG ns none (some 80)=ns.take 80 from zbr ns 80,xY (by lia)];refine⟨_,rfl,ns,fl,ps,u,rfl,Yv,by lia,u3,λL τ pn hf hτ=>hJ _ ?_⟩;clear hJ;walk_at"dn";walk_at"dn";refine zf0 λJ hJ=>?_;refine zzw λB hB=>?_;walk_at"dd";walk_at"k";rw[u5];unfold rngD;refine⟨by lia,by lia,?_⟩;rw[vZ];refine zb2 (λi U=>∃(vs:List Va)(ws:List Int)(s7 s8 s9 s10:Sl),U=[.sh (.list (ns.map .int)),.sh (.tuple [.list (fl.map .int),.list (ps.map Pi.d)]),.sh (.list (ps.map Pi.d)),.sh (.int (u:Int)),.sh (.tuple [.list ((rg fl.length (lieR ps fl L u)).map .int),.list ((rg fl.length τ).map .int)]),.ow (.li (vs.map Va.d)),.ow (.li (ws.map .int)),s7,s8,s9,s10,.un,.un,.un]/\vs.length=i/\ws.length=i/\∀(j:Nat) v x,vs[j]?=some v->ws[j]?=some x->v.fill=fl.getD j 0/\τ j<=v.room/\0<=x/\x<=lieR ps fl L u j) ⟨[],[],_,_,_,_,rfl,rfl,rfl,λj v x h=>by simp at h⟩ ?_ ?_
 ·rintro i k U hk ⟨vs,ws,s7,s8,s9,s10,rfl,hv,hl,hw⟩;obtain⟨hk1,hk2⟩:=v8.mp hk;rw[wE]at hk1;rw[uaD]at hk2;subst hk2;walk_at"dd";refine hB _ _ ?_;clear hB hJ;rw[show(0:Int)+(i:Int)=(i:Int) by lia];walk_at"a";refine⟨ns,8+i,by rw[show(8:Int)+(i:Int)=((8+i:Nat):Int) by lia],by lia,λc=>hJ _ ?_⟩;clear hJ;walk_at"dn";refine za6 (λU=>∃mo:Int,0<=mo/\U=[.sh (.list (ns.map .int)),.sh (.tuple [.list (fl.map .int),.list (ps.map Pi.d)]),.sh (.list (ps.map Pi.d)),.sh (.int (u:Int)),.sh (.tuple [.list ((rg fl.length (lieR ps fl L u)).map .int),.list ((rg fl.length τ).map .int)]),.ow (.li (vs.map Va.d)),.ow (.li (ws.map .int)),.sh (.int (i:Int)),.sh (.int c),.sh (.int mo),s10,.un,.un,.un]) ?_ ?_
  ·walk_at"dd";refine two (λ_=>⟨by decide,c / 2 % 100000000000,by lia,rfl⟩) λ_=>⟨0,by lia,rfl⟩
  rintro U ⟨mo,m0,rfl⟩;obtain⟨nm,hnm⟩:∃nm:Str,atI [PyData.str (xG "c"),.str (xG "ca"),.str (xG "d")] (i:Int)=some (.str nm):=by
   have:i=0 \/ i=1 \/ i=2:=by lia
   rcases this with rfl|rfl|rfl
   ·exact⟨_,rfl⟩
   ·exact⟨_,rfl⟩
   ·exact⟨_,rfl⟩
  walk_at"a";refine⟨_,hnm,_,rfl,?_⟩;walk_at"dd";refine⟨_,zzp hk1,?_⟩;walk_at"dd";walk_at"k";refine⟨_,ga fl i hk1,by rw[u5];lia,hJ _ ?_⟩;clear hJ hnm;have r0:=pn.nn u i (u7 _) hk1;walk_at"a";walk_at"k";refine⟨_,zzp hk1,hJ _ ?_⟩;clear hJ;refine za6 (λU=>∃x:Int,0<=x/\x<=lieR ps fl L u i/\U=[.sh (.list (ns.map .int)),.sh (.tuple [.list (fl.map .int),.list (ps.map Pi.d)]),.sh (.list (ps.map Pi.d)),.sh (.int (u:Int)),.sh (.tuple [.list ((rg fl.length (lieR ps fl L u)).map .int),.list ((rg fl.length τ).map .int)]),.ow (.li (vs.map Va.d++[.tuple [.str nm,.int (τ i+mo),.int (fl.getD i 0)]])),.ow (.li (ws.map .int)),.sh (.int (i:Int)),.sh (.int c),.sh (.int mo),.sh (.int x),.un,.un,.un]) ?_ ?_
  ·walk_at"dd";refine two (λ_=>⟨by lia,_,?_,?_,rfl⟩) λ_=>⟨_,r0,wR _,rfl⟩
   ·have:=yS (c / 12) (b:=lieR ps fl L u i+1) (by lia);lia
   ·have:=yR (c / 12) (b:=lieR ps fl L u i+1) (by lia);lia
  rintro U ⟨x,x0,x1,rfl⟩;walk_at"dd";refine⟨by rw[u5];lia,vs++[⟨nm,τ i+mo,fl.getD i 0⟩],ws++[x],_,_,_,_,by rw[v9,v9];rfl,by rw[vR,hv];rfl,by rw[vR,hl];rfl,λj v y hv' hy=>?_⟩;by_cases e:j < i
  ·rw[wO (by lia)]at hy hv';exact hw j v y hv' hy
  ·have ej:j=i:=by
    have:=(v8.mp hy).1;rw[vR,hl]at this;simp at this;lia
   subst ej;rw[wL (by lia)]at hy hv';rw[hl,Nat.sub_self]at hy;rw[hv,Nat.sub_self]at hv';cases hy;cases hv';exact⟨rfl,by show τ j<=τ j+mo;lia,x0,x1⟩
 ·rintro U ⟨vs,ws,s7,s8,s9,s10,rfl,hv,hl,hw⟩;rw[wE]at hl hv;refine hJ _ ?_;clear hJ hB;have pr:∀k,k < fl.length->∃v x,vs[k]?=some v/\ws[k]?=some x/\v.fill=fl.getD k 0/\τ k<=v.room/\0<=x/\x<=lieR ps fl L u k:=λk hk=>by
   have e1:vs[k]?=some (vs[k]'(by lia)):=u6 _;have e2:ws[k]?=some (ws[k]'(by lia)):=u6 _;exact⟨_,_,e1,e2,hw k _ _ e1 e2⟩
  have pv:∀(k:Nat) v,vs[k]?=some v->k < fl.length/\v.fill=fl.getD k 0/\τ k<=v.room:=λk v h=>by
   have hk:k < fl.length:=by have:=(v8.mp h).1;lia
   obtain⟨v',x,e1,_,e3,e4,_⟩:=pr k hk;rw[h]at e1;cases e1;exact⟨hk,e3,e4⟩
  have V:Vok u fl ps L vs ws:=⟨hv,hl,λk v h=>(pv k v h).2.1,λk v h=>by
   obtain⟨hk,e1,e2⟩:=pv k v h;have:=hf k hk;exact⟨by lia,λm hm=>yN (hτ m k hm hk) e2⟩,λk hk=>by
   obtain⟨v,x,_,e2,_,_,x0,x1⟩:=pr k hk;unfold cW;rw[v6,e2];exact⟨x0,x1⟩⟩
  have vf:∀v∈vs,0<=v.fill/\v.fill<=v.room:=λv h=>by
   obtain⟨k,hk⟩:=List.getElem?_of_mem h;obtain⟨hkl,e1,e2⟩:=pv k v hk;have:fl.getD k 0∈fl:=by rw[v6,u6 hkl];exact w6 hkl
   have:=(Yv.f _ this).1;have:=hf k hkl;lia
  have wr:∀(k:Nat) v y,vs[k]?=some v->ws[k]?=some y->0<=y/\y<=v.room:=λk v y h1 h2=>by
   have hk:=(pv k v h1).1;have a:=hw k v y h1 h2;have:=hτ u k (u7 _) hk;lia
  have yok:YOk vs ps ws:=⟨by lia,by lia,by lia,by lia,vf,wr,λp hp=>by rw[hv];exact(Yv.p p hp).1⟩
  have zok:ZOk vs (ps.map Pi.pp) ws:=⟨by lia,by lia,by rw[u5];lia,by lia,vf,wr,λp hp=>by
   obtain⟨p',hp',rfl⟩:=vU.mp hp;have:=(Yv.p p' hp').1;rw[hv];exact⟨this.1,this.2.1⟩⟩
  walk_at"a";refine⟨ns,2,rfl,by lia,λm2=>?_⟩;walk_at"dd";obtain⟨l,hl2⟩:=xT (show 0<=(u:Int)+m2 % 3 by lia);have hul:u<=l:=by lia
  have hl5:l<=5:=by lia
  rw[hl2];refine hJ _ ?_;clear hJ hl2 m2;walk_at"a";refine⟨vs,ps,ws,u,l,rfl,yok,zok,by lia,?_,hul,pn.late Yv V l,pn.cut V zok,λm f pt so=>hJ _ ?_⟩
  ·rw[hv];have:=Nat.mul_le_mul (show l+1<=6 by lia) n3;lia
  clear hJ;have hm:=so.le;have hvl:∀k,k < fl.length->(ntOf vs ps m).fl k=fl.getD k 0/\∃v,vs[k]?=some v/\(ntOf vs ps m).rm k=v.room:=λk hk=>by
   obtain⟨v,x,e1,_,e3,_⟩:=pr k hk;exact⟨by show((vs[k]?).map Va.fill).getD 0=_;rw[e1];exact e3,v,e1,by show((vs[k]?).map Va.room).getD 0=_;rw[e1];rfl⟩
  obtain⟨pm,rm,wm⟩:=so.met.pln Yv hv (λk hk=>(hvl k hk).1) rfl;walk_at"a";refine⟨λ_=>trivial,?_⟩;rw[aA (by decide)];walk_at"k";refine⟨_,rfl,_,rfl,?_⟩;walk_at"dd";walk_at"b";walk_at"k";rw[aA (by lia)];walk_at"k";rw[aA (by lia)];refine⟨_,rfl,_,rfl,zab ps m f.g m,ps,m,rfl,pm.lt,?_⟩;walk_at"dd";walk_at"b";refine⟨_,_,rfl,rfl,_,rfl,_,rfl,vs,ps,fl,zab ps m f.g m,m,rfl,Yv,by lia,hv,λk v h=>?_,pm,hJ _ ?_⟩
  ·obtain⟨hk,e1,_⟩:=pv k v h;refine⟨e1,λj hj=>?_⟩;obtain⟨_,v',e2,e3⟩:=hvl k hk;rw[h]at e2;cases e2;rw[<- e3];exact rm j k hj hk
  walk_at"c";rw[u5,vZ];unfold rngD;refine⟨by lia,by lia,zgk (λ_=>.bool false) (by rw[aW,wE];lia) (λk hk=>?_) ⟨(u4 vs.length).map λ_=>false,?_,?_⟩⟩
  ·have hk:=u9.mp hk;rw[show(0:Int)+(k:Int)=(k:Int) by lia];have:=wm k (by lia);walk_at"cs";walk_at"dd";refine⟨_,zzp (by lia),_,ga ws k (by lia),?_⟩;walk_at"dd";exact congrArg PyData.bool (aY (Int.not_lt.mpr this))
  ·rw[<- zf21,wD];rfl
  rw[aA (by simp)];walk_at"b";walk_at"k";obtain⟨h0,rfl⟩|⟨M,side,h1,rfl,ov,hM⟩:=so.pt
  ·rw[aF (by lia)];exact⟨_,rfl,rfl,rfl,q⟩
  rw[aA (by lia)];walk_at"f";walk_at"dd";refine⟨_,_,rfl,rfl,_,rfl,(λkvs e=>by cases e),?_⟩;rw[aF (show isT "list" (yX (ptN vs ps (m - 1) side))=true from rfl)];refine⟨_,rfl,_,rfl,?_⟩;walk_at"dd";exact⟨vs,ps,ws,m - 1,side,M,by rw[show(m:Int) - 1=((m - 1:Nat):Int) by lia],yok,by lia,ov,hM,q⟩
end
theorem all_mk{l:fQ}{w:aQ}{K:Fg}{h:aT}{mg:Str->Option aC}{fa:aE}{jA jD jF jK:aE}(X:K.In h)(G:h.Ns aP mg)(hfa:mg "law"=some (.ref fa))
  (jB:TopCls K "Stream" jA)
  (jW:TopCls K "Tidal" jD)
  (jY:TopCls K "Steady" jF)
  (kO:TopCls K "Late" jK)
  (jI:a6 K (.ref jA) "steps"=some none)
  (jH:a6 K (.ref jA) "ends"=some none)
  (jC:a6 K (.ref jA) "left"=some none)
  (jS:a6 K (.ref jD) "wide"=some none)
  (jP:a6 K (.ref jD) "other"=some none)
  (jT:a6 K (.ref jD) "turn"=some none)
  (jO:a6 K (.ref jF) "wide"=some none)
  (jV:a6 K (.ref jK) "wide"=some none)
  (jR:a6 K (.ref jK) "since"=some none)
  (kA:TopMeth K jA "row_behind" "Stream.row_behind" zo2)
  (qA:TopMeth K jA "levels" "Stream.levels" zh5)
  (kS:TopMeth K jA "step_up" "Stream.step_up" zh4)
  (qB:TopMeth K jA "way_up" "Stream.way_up" zd5)
  (qH:TopMeth K jA "carry" "Stream.carry" zq3)
  (kT:TopMeth K jA "push_up" "Stream.push_up" zr2)
  (kU:TopMeth K jA "amounts" "Stream.amounts" zv3)
  (kG:TopMeth K jA "__init__" "Stream.__init__" zd2)
  (uG:TopDefN K "greatest" zpc)
  (vL:TopDef K "node" zwv)
  (kW:TopMeth K jD "__init__" "Tidal.__init__" zz3)
  (kH:TopMeth K jF "__init__" "Steady.__init__" zm3)
  (qC:TopMeth K jK "__init__" "Late.__init__" zw4)
  (uP:TopDef K "gate_of" zle)
  (kI:TopMeth K jF "width_at" "Steady.width_at" zl3)
  (qD:TopMeth K jK "width_at" "Late.width_at" zk5)
  (kX:TopMeth K jD "width_at" "Tidal.width_at" zu3)
  (vE:TopDef K "width" zkp)
  (uH:TopDef K "pipes_by" zo9)
  (uQ:TopDef K "arcs_at" znb)
  (vO:TopDef K "net" zn11)
  (uR:TopDef K "plan_of" zve)
  (vM:TopDef K "spot" zsx)
  (qN:TopDef K "part_beyond" ze3)
  (uI:TopDef K "met_most" zwc)
  (uZ:TopDef K "met_at" zxh)
  (vF:TopDef K "worth" zcg)
  (uJ:TopDef K "timeless" zb4)
  (uS:TopDef K "cut_off" zmb)
  (uA:TopDef K "first_met" zfa)
  (uT:TopDef K "soonest" zwe)
  (qI:TopDef K "_law_cell_at" zf6)
  (qR:TopDef K "_law_whole" zk9)
  (qS:TopDef K "_law_width" zz8)
  (qT:TopDef K "_law_drawn" zb6)
  (qJ:TopDef K "_law_brought" zn2)
  (qE:TopDef K "_law_lettings" zy4)
  (qU:TopDef K "_law_short" za9)
  (uB:TopDef K "_law_sums" zg8)
  (uC:TopDef K "_law_pipe" zja)
  (uD:TopDef K "_law_yard" zi8)
  (vP:TopDef K "law" zdz)
  {t_SOURCE:Tok} (g_SOURCE:aZ K aP "SOURCE"=some (some (.int 0 t_SOURCE)))
  {t_SINK:Tok} (g_SINK:aZ K aP "SINK"=some (some (.int 1 t_SINK)))
  (vI:aZ K aP "any"=some none)
  (uY:aZ K aP "bool"=some none)
  (uX:aZ K aP "dict"=some none)
  (qW:aZ K aP "divmod"=some none)
  (jG:aZ K aP "enumerate"=some none)
  (vG:aZ K aP "int"=some none)
  (jL:aZ K aP "isinstance"=some none)
  (jJ:aZ K aP "len"=some none)
  (jX:aZ K aP "list"=some none)
  (vH:aZ K aP "max"=some none)
  (uU:aZ K aP "min"=some none)
  (jE:aZ K aP "range"=some none)
  (qV:aZ K aP "sorted"=some none)
  (kJ:aZ K aP "sum"=some none)
  (qL:aZ K aP "tuple"=some none)
  (vA:aZ K aP "zip"=some none) (kt:Kit K)
 :∃fd:cH,(∀(s:aH)(v:aC),eK s fd ⟨[v],[]⟩ [("script",v)])/\∀base:aT,K.In base->base.Ns aP mg->FnOk l.prog w K mg base CX0 11 fa fd ["script"] (zy41 K):=by
 have M:Md K mg:=⟨⟨h,X,G⟩⟩
 refine zkc1 M vP hfa zr11 (by walk_at"h") λbase kb nb=>?_;have jZ:=zi9 (P:=l.prog) (w:=w) (K:=K) (mg:=mg) (base:=base) jB.cls kA jI jH jC;have kC:=zmc (P:=l.prog) (w:=w) (K:=K) (mg:=mg) (base:=base) jB.cls qA jZ;have kK:=zlb (P:=l.prog) (w:=w) (K:=K) (mg:=mg) (base:=base) jB.cls kS (M.not jJ) jC jH;have kB:=zhc (P:=l.prog) (w:=w) (K:=K) (mg:=mg) (base:=base) jB.cls qB jH kK;have qF:=zcd (P:=l.prog) (w:=w) (K:=K) (mg:=mg) (base:=base) jB.cls qH (M.not uU) jC;have kL:=zjb (P:=l.prog) (w:=w) (K:=K) (mg:=mg) (base:=base) jB.cls kT (M.not jX) jI kB qF;have kM:=zhb (P:=l.prog) (w:=w) (K:=K) (mg:=mg) (base:=base) jB.cls kU jC;have uV:=zga (P:=l.prog) (w:=w) (K:=K) (mg:=mg) (base:=base) M jB kG (M.not jG) (M.not jE) jH jC jI;have kE:=zdl (P:=l.prog) (w:=w) (K:=K) (mg:=mg) (base:=base) M uG (M.not jJ) (M.not qV) jB.cls kC kL kM uV;have jQ:=zq21 (P:=l.prog) (w:=w) (K:=K) (mg:=mg) (base:=base) M vL (M.not jJ);have vB:=zib (P:=l.prog) (w:=w) (K:=K) (mg:=mg) (base:=base) M jW kW jS jP jT;have uW:=zea (P:=l.prog) (w:=w) (K:=K) (mg:=mg) (base:=base) M jY kH jO;have vJ:=zsc (P:=l.prog) (w:=w) (K:=K) (mg:=mg) (base:=base) M kO qC jV jR;have uK:=zqm (P:=l.prog) (w:=w) (K:=K) (mg:=mg) (base:=base) (jK:=jK) (jF:=jF) (jD:=jD) M uP vB uW vJ;have kF:=zia (P:=l.prog) (w:=w) (K:=K) (mg:=mg) (base:=base) jY.cls kI jO;have kY:=zyc (P:=l.prog) (w:=w) (K:=K) (mg:=mg) (base:=base) kO.cls qD jV jR;have kQ:=zkb (P:=l.prog) (w:=w) (K:=K) (mg:=mg) (base:=base) jW.cls kX jS jP jT;have vC:=zqw (P:=l.prog) (w:=w) (K:=K) (mg:=mg) (base:=base) M vE uK kO.cls jY.cls jW.cls kF kY kQ;have kR:=zpk (P:=l.prog) (w:=w) (K:=K) (mg:=mg) (base:=base) M uH (M.not jG);have uL:=zcn (P:=l.prog) (w:=w) (K:=K) (mg:=mg) (base:=base) M uQ (M.not jG) vC jQ kR;have vN:=zj81 (P:=l.prog) (w:=w) (K:=K) (mg:=mg) (base:=base) M vO (M.not jG) (M.not jE) jQ uL (M.got g_SOURCE) ⟨_,rfl⟩ (M.got g_SINK) ⟨_,rfl⟩;have uM:=zio (P:=l.prog) (w:=w) (K:=K) (mg:=mg) (base:=base) M uR (M.not jJ) (M.not jE) kR;have vK:=zt21 (P:=l.prog) (w:=w) (K:=K) (mg:=mg) (base:=base) M vM (M.not qW) (M.not jJ);have qM:=zxe (P:=l.prog) (w:=w) (K:=K) (mg:=mg) (base:=base) M qN (M.not uX) (M.not jE) vK;have uE:=zwk (P:=l.prog) (w:=w) (K:=K) (mg:=mg) (base:=base) M uI (M.not jJ) (M.not kJ) kE vN uM qM (M.got g_SOURCE) ⟨_,rfl⟩ (M.got g_SINK) ⟨_,rfl⟩;have qO:=zmr (P:=l.prog) (w:=w) (K:=K) (mg:=mg) (base:=base) M uZ (M.not kJ) uE;have vD:=zfw (P:=l.prog) (w:=w) (K:=K) (mg:=mg) (base:=base) M vF (M.not kJ) (M.not vA);have uF:=zil (P:=l.prog) (w:=w) (K:=K) (mg:=mg) (base:=base) M uJ (M.not jG) (M.not kJ) jQ (M.got g_SOURCE) ⟨_,rfl⟩ (M.got g_SINK) ⟨_,rfl⟩;have uN:=zbm (P:=l.prog) (w:=w) (K:=K) (mg:=mg) (base:=base) M uS (M.not jJ) (M.not jE) (M.not kJ) vD kE jQ uF (M.got g_SOURCE) ⟨_,rfl⟩ (M.got g_SINK) ⟨_,rfl⟩;have qX:=zfi (P:=l.prog) (w:=w) (K:=K) (mg:=mg) (base:=base) M uA qO;have uO:=zfn (P:=l.prog) (w:=w) (K:=K) (mg:=mg) (base:=base) M uT qO uN qX;have jM:=zfd (P:=l.prog) (w:=w) (K:=K) (mg:=mg) (base:=base) M qI (M.not jJ);have jU:=zvg (P:=l.prog) (w:=w) (K:=K) (mg:=mg) (base:=base) M qR kt (M.not uY) (M.not vG) (M.not jL);have jN:=zwf (P:=l.prog) (w:=w) (K:=K) (mg:=mg) (base:=base) M qS;have qP:=zbg (P:=l.prog) (w:=w) (K:=K) (mg:=mg) (base:=base) M qT (M.not jJ) (M.not jX) (M.not vH) (M.not uU) (M.not jE) jN;have qG:=zed (P:=l.prog) (w:=w) (K:=K) (mg:=mg) (base:=base) M qJ (M.not jJ) (M.not jE) jN;have kZ:=zvb (P:=l.prog) (w:=w) (K:=K) (mg:=mg) (base:=base) M qE kt (M.not jL) (M.not jJ) (M.not jX) (M.not qL) jU;have qQ:=zgh (P:=l.prog) (w:=w) (K:=K) (mg:=mg) (base:=base) M qU (M.not jJ) (M.not jE) jN;have qK:=zrh (P:=l.prog) (w:=w) (K:=K) (mg:=mg) (base:=base) M uB (M.not jJ) (M.not jE);have qY:=zni (P:=l.prog) (w:=w) (K:=K) (mg:=mg) (base:=base) M uC;have qZ:=zoi (P:=l.prog) (w:=w) (K:=K) (mg:=mg) (base:=base) M uD (M.not jE) jM qK qY;exact zpx kt (M.not vI) (M.not jL) (M.not jJ) (M.not jX) (M.not jE) (M.not qL) uO jM jU qP qG kZ qQ qZ
end _36
local macro_rules|`(tactic| walk_at "top")=>`(tactic| (refine' zfs ?a ?l ?c ?k;(case a=>k_is);(case l=>k_is);(case c=>k_is);(case k=>k_is)))
local macro_rules|`(tactic| walk_at "topn")=>`(tactic| (refine' zqo ?a ?l ?c ?k ?t ?d;(case a=>k_is);(case l=>k_is);(case c=>k_is);(case k=>k_is);(case t=>k_is);(case d=>rfl)))
local macro_rules|`(tactic| walk_at "meth")=>`(tactic| (refine' zvp ?a ?i ?l ?c ?k;(case a=>k_is);(case i=>k_is);(case l=>k_is);(case c=>k_is);(case k=>k_is)))
local macro_rules|`(tactic| walk_at "cls")=>`(tactic| (refine' zyq ?a ?pg ?hd ?po ?sa ?mk ?kc;(case a=>k_is);(case pg=>k_is);(case hd=>k_is);(case po=>k_is);(case sa=>k_is);(case mk=>k_is);(case kc=>k_is)))
namespace PySem.W.Fast
def tw7338182107961477097:=0
def tw4153400890975296769:=0
def tw2555971038985865404:=0
def tw9728541662512531068:=0
def tw7372000160757046983:=0
def tw11443131156516127011:=0
def tw11945099039858328586:=0
def tw15741137288624985899:=0
def tw38058330441919031:=0
def tw8465171186475567261:=0
def tw2194497711236735851:=0
def tw8297013406340273301:=0
def tw1519699343716375038:=0
def tw9170749207203406244:=0
def tw16870716758995769843:=0
def tw9020957187566514221:=0
def tw17880934047258675861:=0
def tw13479103483951953752:=0
def tw8120122686232108768:=0
def tw11248592902272639901:=0
def tw2130436281517977653:=0
def tw8981837448718110424:=0
def tw8948698994959367756:=0
def tw16366804445106083262:=0
def tw2324066627244838915:=0
def tw14492662801708843808:=0
def tw11182959593122912107:=0
def tw16293223522002800074:=0
def tw7203916824718205074:=0
def tw6610266101611115050:=0
def tw7069397015284840187:=0
def tw4452914643568825292:=0
def tw9067390231382991391:=0
def tw9452789101739448041:=0
def tw11743973290423867533:=0
def tw18232901933158179789:=0
def tw17890497011655000944:=0
def tw18220918267578446391:=0
def tw6557015096538819732:=0
def tw316074958316768299:=0
def tw9832683346162643322:=0
def tw4169721829018365157:=0
def tw11575663250980854492:=0
def tw13531014020776673256:=0
def tw2773313725535077432:=0
def tw13897503035746905998:=0
def tw14116798089976630881:=0
def tw4761515378326737561:=0
def tw2809122473207650034:=0
def tw10000793234208220640:=0
def tw5687511354451779031:=0
def tw4484693276752315332:=0
def tw14694921341709966872:=0
def tw9808869595728226693:=0
def tw11571116351989783703:=0
def tw11332568503794877229:=0
def tw7257178602122663337:=0
def tw275384866598250317:=0
def tw10986849345793610017:=0
def tw4236667686585710318:=0
def tw10769041096505162387:=0
def tw8717096836692047910:=0
def tw8162396779747873708:=0
def tw10947215302801429080:=0
def tw13350740693441232798:=0
def tw6968163921157689462:=0
def tw10162835402364681190:=0
def tw6867696171285412245:=0
def tw14455027185158819005:=0
def tw13015403464760875379:=0
def tw265664344343630430:=0
def tw6734229286903832922:=0
def tw12715078210785977708:=0
def tw12026925001627596932:=0
def tw10553937796359258731:=0
def tw2837913087244449428:=0
def tw17018555219962138558:=0
def tw6139331975988449028:=0
def tw14867559266354557733:=0
def tw1066157930625533058:=0
def tw3626745915117437874:=0
def tw8428253748026474389:=0
def tw4346674262237481949:=0
def tw14117229009572062078:=0
def tw6481064891054375309:=0
def tw12169482737363784615:=0
def tw15516019909262456714:=0
def tw2430947219219499782:=0
def tw7908756477622534121:=0
def tw5536526419726765775:=0
def tw4882247781146129687:=0
def tw15031911845041713982:=0
def tw17012108175420605917:=0
def tw11891409556846589792:=0
def tw9536900733358550237:=0
def tw5560103026180906481:=0
def tw5817243753836522359:=0
def tw10063898238778435146:=0
def tw16600044325705510667:=0
def tw10639842439074084876:=0
def tw8685506060162068567:=0
def tw16561019587821612125:=0
def tw1759804761264668789:=0
def tw16889896191508733845:=0
def tw1989133343143542423:=0
def tw954221509543798983:=0
def tw3215473184593762870:=0
def tw9980955447896990686:=0
def tw765644268929284173:=0
def tw8248909690319794540:=0
def tw13916830306714784007:=0
def tw13245892575494675691:=0
def tw17765817905439982936:=0
def tw16279021423867113378:=0
def tw4986021548004510463:=0
def tw14538378208407266157:=0
def tw17454852268695080196:=0
def tw2229043585090770456:=0
def tw17689010467079539720:=0
def tw15351758227331621303:=0
def tw16452921956490388168:=0
def tw3418291316700732693:=0
def tw4219096029001887530:=0
def tw3310523102541817815:=0
def tw8051747772167407789:=0
def tw8000683826627283601:=0
def tw15020296592196387140:=0
def tw5542549687460600070:=0
def tw12712510405425476490:=0
def tw22691482568291186:=0
def tw2113575082256589042:=0
def tw6587582344456658974:=0
def tw8309372766775682010:=0
def tw3928273287230646834:=0
def tw16612202556750716180:=0
def tw14098535878524542310:=0
def tw9504152018365589766:=0
def tw3830155241418231869:=0
def tw10942381356154790206:=0
def tw76040546482807375:=0
def tw10907623289511406668:=0
def tw9762316489707931759:=0
def tw1545351125352506674:=0
def tw2344885641147985220:=0
def tw13179286822809215090:=0
def tw16942071863057751177:=0
def tw14742377554046210848:=0
def tw10096015095552147119:=0
def tw10175101874210644498:=0
def tw5908195567322247387:=0
def tw16591437691723014014:=0
def tw1107156213648947544:=0
def tw4635046173271934645:=0
def tw10442307792649989705:=0
def tw15261942635820880366:=0
def tw7291220188174263994:=0
def tw7242825774018144636:=0
def tw1074004012453742779:=0
def tw17077702988740008824:=0
def tw13324037033277026466:=0
def tw9441154718094356873:=0
def tw13878094458475187656:=0
def tw3732948950343720598:=0
def tw15916991144805524689:=0
def tw11047569907553972670:=0
def tw15853745481653955172:=0
def tw1210795848965141840:=0
def tw13473770466278583022:=0
def tw8730565604689441317:=0
def tw1371281474284821965:=0
def tw4270653069389118097:=0
def tw16012536434718179093:=0
def tw10141746040717009932:=0
def tw7906823802034158183:=0
def tw6697027792258289747:=0
def tw6763278974377785330:=0
def tw1164648489624997623:=0
def tw1886165068209253942:=0
def tw7280565538285773298:=0
def tw3449141184183115878:=0
def tw18250186824216849307:=0
def tw222107364028330604:=0
def tw5751652962802802866:=0
def tw9198279258972786717:=0
def tw2959282266596540690:=0
def tw8183940424871836639:=0
def tw5592289660923140887:=0
def tw16219719913409961035:=0
def tw12903951759170888867:=0
def tw11320614644885283419:=0
def tw11396663426199222156:=0
def tw5637383041207517283:=0
def tw16777223345014756680:=0
def tw16412742046079977213:=0
def tw7683594170927225077:=0
def tw18071048930518173890:=0
def tw7930994853003802053:=0
def tw2922970045710400865:=0
def tw17424884189698265241:=0
def tw11318759803434428033:=0
def tw8715309068621233742:=0
def tw6956459616405934232:=0
def tw4417864275402946249:=0
def tw15334960894038649943:=0
def tw8331527288397475506:=0
def tw2729306714802386671:=0
def tw12495022201317559664:=0
def tw16214214883821879308:=0
def tw9432381964960073275:=0
def tw9705136887411890252:=0
def tw5515226455976427756:=0
def tw7560761695558538639:=0
def tw9632846563778850351:=0
def tw5126443809298824262:=0
def tw6903761494393474811:=0
def tw3424506784600874641:=0
def tw17875133949394590068:=0
def tw15952522988171382348:=0
def tw4779980053589484836:=0
def tw4153132119534309121:=0
def tw11117222221313765086:=0
def tw16450359916570281105:=0
def tw2503556292317351955:=0
def tw16503569688252096157:=0
def tw4005723973599720804:=0
def tw13019231846357154830:=0
def tw4339297274488577886:=0
def tw7764972156780376087:=0
def tw2322407921973416137:=0
def tw15873277259561693039:=0
def tw3879149422780071436:=0
def tw12265763893983254220:=0
def tw13667270014786901154:=0
def tw7680055626622078432:=0
def tw10907968819193559261:=0
def tw3441302289771968709:=0
def tw17267489038944005325:=0
def tw483790510986318931:=0
def tw2165771597794497772:=0
def tw2741637882532905596:=0
def tw5880971840743572596:=0
def tw16620795346638480084:=0
def tw6446640514005908501:=0
def tw13935843744417219650:=0
def tw16521259078678451634:=0
def tw10055396607490197894:=0
def tw4378811696904846169:=0
def tw708189095807353176:=0
def tw7007916234068195130:=0
def tw1179835099952905984:=0
def tw1693062870511636778:=0
def tw7218461271382775331:=0
def tw1207736924683731354:=0
def tw15452696752224117467:=0
def tw7036639477919118285:=0
def tw15963710737112340667:=0
def tw1321651666845279683:=0
def tw10457358411382413696:=0
def tw8472289703228470858:=0
def tw2906474076991896373:=0
def tw4860048897298112205:=0
def tw14936580890749379878:=0
def tw3192591462954008981:=0
def tw1050950786362994629:=0
def tw10849728763673752952:=0
def tw903223707181597381:=0
def tw9141961238927767013:=0
def tw10893154031662405517:=0
def tw10047947089177681866:=0
def tw8710300097960297458:=0
def tw12395350661755264015:=0
def tw4097302929347791251:=0
def tw16170264492063614197:=0
def tw12037157975167742145:=0
def tw18390119014361820033:=0
def tw1799104707096179759:=0
def tw6043378252658692945:=0
def tw17862693444092539929:=0
def tw7933168386553318975:=0
def tw12081939281766638739:=0
def tw9852382319766173332:=0
def tw12594809271393806001:=0
def tw8770531467071170838:=0
def tw3114669011165702739:=0
def tw7063674940297774336:=0
def tw7776925465923111417:=0
def tw6739442782794494578:=0
def tw11250478515682722685:=0
def tw10097734314435101400:=0
def tw3047601755573116638:=0
def tw12308070475258414743:=0
def tw15824135531419025969:=0
def tw1587948968970206887:=0
def tw6387290846932522513:=0
def tw15954526692812037923:=0
def tw3217396164690415416:=0
def tw18042711722715515004:=0
def tw38295553041687597:=0
def tw1659933865249030123:=0
def tw4022568187897187554:=0
def tw11813228573690129330:=0
def tw3711285747623936852:=0
def tw631970151662099004:=0
def tw2749506598450147339:=0
def tw18136494910648128179:=0
def tw13458405700906984377:=0
def tw1976804247267483503:=0
def tw18040808422070996713:=0
def tw5526179680026601829:=0
def tw426025813147370527:=0
def tw11293708255879503762:=0
def tw15053715501796086256:=0
def tw4225992475899980060:=0
def tw4657933442109562954:=0
def tw17389989293213884037:=0
def tw8584466459589924052:=0
def tw16233589190194847303:=0
def tw6693018651811685486:=0
def tw7594026427735447101:=0
def tw11605142521011057015:=0
def tw14154105401831262340:=0
def tw17910118317129194157:=0
def tw3718471100826290201:=0
def tw4741203822027258297:=0
def tw5799120852602346666:=0
def tw14492151260256617401:=0
end PySem.W.Fast
open PySem PySem.W PyProof.Rows _3 _4
set_option maxRecDepth 100000 in
set_option maxHeartbeats 0 in
theorem PySem.Challenge.cw_vatyard_k36_whole_never_later_holds : PySem.Challenge.rw_vatyard_k36_whole_never_later.Holds := by
  w_on; o_law; k_head; (case hw => w_witness2)
  k_fill
  refine _3.law_walk (k := 11) (l := PySem.Challenge.rw_vatyard_k36_whole_never_later) ⟨rfl, by decide, rfl, by decide⟩ rfl rfl (fun w h Yv => PySem.W.kIn_of Yv) ?F
  case F =>
    intro w mg fa h KX G hmg
    refine' _36.all_mk KX G hmg ?jB ?jW ?jY ?kO ?jI ?jH ?jC ?jS ?jP ?jT ?jO ?jV ?jR ?kA ?qA ?kS ?qB ?qH ?kT ?kU ?kG ?uG ?vL ?kW ?kH ?qC ?uP ?kI ?qD ?kX ?vE ?uH ?uQ ?vO ?uR ?vM ?qN ?uI ?uZ ?vF ?uJ ?uS ?uA ?uT ?qI ?qR ?qS ?qT ?qJ ?qE ?qU ?uB ?uC ?uD ?vP ?g_SOURCE ?g_SINK ?vI ?uY ?uX ?qW ?jG ?vG ?jL ?jJ ?jX ?vH ?uU ?jE ?qV ?kJ ?qL ?vA ?kt
    (case jB => walk_at"cls")
    (case jW => walk_at"cls")
    (case jY => walk_at"cls")
    (case kO => walk_at"cls")
    (case jI => k_is)
    (case jH => k_is)
    (case jC => k_is)
    (case jS => k_is)
    (case jP => k_is)
    (case jT => k_is)
    (case jO => k_is)
    (case jV => k_is)
    (case jR => k_is)
    (case kA => walk_at"meth")
    (case qA => walk_at"meth")
    (case kS => walk_at"meth")
    (case qB => walk_at"meth")
    (case qH => walk_at"meth")
    (case kT => walk_at"meth")
    (case kU => walk_at"meth")
    (case kG => walk_at"meth")
    (case uG => walk_at"topn")
    (case vL => walk_at"top")
    (case kW => walk_at"meth")
    (case kH => walk_at"meth")
    (case qC => walk_at"meth")
    (case uP => walk_at"top")
    (case kI => walk_at"meth")
    (case qD => walk_at"meth")
    (case kX => walk_at"meth")
    (case vE => walk_at"top")
    (case uH => walk_at"top")
    (case uQ => walk_at"top")
    (case vO => walk_at"top")
    (case uR => walk_at"top")
    (case vM => walk_at"top")
    (case qN => walk_at"top")
    (case uI => walk_at"top")
    (case uZ => walk_at"top")
    (case vF => walk_at"top")
    (case uJ => walk_at"top")
    (case uS => walk_at"top")
    (case uA => walk_at"top")
    (case uT => walk_at"top")
    (case qI => walk_at"top")
    (case qR => walk_at"top")
    (case qS => walk_at"top")
    (case qT => walk_at"top")
    (case qJ => walk_at"top")
    (case qE => walk_at"top")
    (case qU => walk_at"top")
    (case uB => walk_at"top")
    (case uC => walk_at"top")
    (case uD => walk_at"top")
    (case vP => walk_at"top")
    (case g_SOURCE => k_is)
    (case g_SINK => k_is)
    (case vI => k_is)
    (case uY => k_is)
    (case uX => k_is)
    (case qW => k_is)
    (case jG => k_is)
    (case vG => k_is)
    (case jL => k_is)
    (case jJ => k_is)
    (case jX => k_is)
    (case vH => k_is)
    (case uU => k_is)
    (case jE => k_is)
    (case qV => k_is)
    (case kJ => k_is)
    (case qL => k_is)
    (case vA => k_is)
    (case kt => exact⟨fun t ht T hT => by simp only[List.mem_cons, List.not_mem_nil, or_false]at ht hT; rcases ht with rfl | rfl | rfl | rfl | rfl | rfl <;> rcases hT with rfl | rfl | rfl | rfl | rfl <;> rfl⟩)
