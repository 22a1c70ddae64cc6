import PyProof.Rows.All
import Wide.All
import OpenK.AllK
import Wide.FinOn
import Lean
import PyProof.EqAt
import PyProof.EqKinds
import PyProof.TupleCall
import PyProof.StrLawsIn
import PyProof.StrLawsJoin
import PyProof.ZipIter
import PyProof.EnumFor
import PyProof.EnumMake
import PyProof.EnumStmt
import PyProof.DictItems
import KE.KPairComp
import KE.KSortTup
import PyProof.DictWalks
import PyProof.Rows.SortWalk
import PyProof.ReprRoads
import PyProof.ReprLen
import PyProof.NsDelKeeps
import PyProof.RulesAs
import PyProof.AttrMissHeap
import KE.KDictOf
import PyProof.MinMaxWalk
import PyProof.ConsumeWalk
import PyProof.ListRange
import KE.KDictLaws
import KE.KRevIter
import PyProof.Rows.RuleM_int
import PySem.Challenge.RW_vatyard_k11_deeds_of_two_plays
set_option Elab.async false
set_option genSizeOf false
set_option genInjectivity false
set_option bootstrap.genMatcherCode false
set_option compiler.extract_closed false
set_option compiler.extract_closed false
set_option linter.all false
set_option maxRecDepth 100000
set_option maxHeartbeats 4000000
noncomputable section
open Nat renaming le_refl → u3, ne_of_lt → wN, le_trans → wP, lt_of_lt_of_le → wS, zero_le → wW, lt_irrefl → xA, lt_or_ge → xF, le_succ → xQ, le_of_lt → yM, le_of_succ_le → yW, ne_of_gt → y6, lt_succ_of_lt → zB, lt_succ_self → zP
open List renaming length_map → u4, mem_append → u6, getElem?_eq_getElem → u8, mem_cons → v6, getD_eq_getElem?_getD → v7, mem_cons_of_mem → v8, replicate → v9, getElem?_map → wD, size_toArray → wE, nodup_cons → wG, mem_cons_self → wJ, nodup_append → wL, map_cons → wM, lookup_cons → wO, append_nil → wQ, getElem?_eq_some_iff → wR, mem_of_getElem? → wT, mem_map → wU, map_map → wZ, lookup → w6, getElem?_eq_none → w8, range → w9, mem_append_right → xB, getElem?_append_right → xC, getElem?_append_left → xD, length_set → xH, getElem?_set_self → xI, getElem?_replicate → xK, getElem?_set → xL, mem_append_left → xN, length_cons → xO, nil_append → xR, filterMap_cons → xT, getElem?_set_ne → xU, filter_cons_of_pos → xW, mem_range → x9, length_take → yA, length_append → yB, map_nil → yC, append_assoc → yD, find?_cons → yE, map_append → yF, filter_cons_of_neg → yG, length_range → yI, mem_filter → yJ, replicate_succ → yK, flatten_cons → yN, any_cons → yO, map_congr_left → yP, cons_append → yQ, map_set → yR, sum_cons → yS, mem_filterMap → yU, length_filter_le → yX, ext_getElem → yY, pairwise_cons → y0, mem_singleton → zD, getElem?_mapIdx → zE, set_set → zF, ext_getElem? → zG, take_length → zH, getElem_mem → zI, filter_sublist → zJ, getElem?_eq_none_iff → zM, of_mem_zip → zQ, length_replicate → zR, forIn_cons → zT, forIn_nil → zV, length_eq_zero_iff → zX, eraseIdx_cons_succ → zZ, toArray → z6, pairwise_iff_getElem → z7, pairwise_map → z8, map_filterMap → k9, filterMap_map → j3, length_filterMap_le → j8, filterMap_append → j9, zip_cons_cons → uaF, mem_iff_getElem? → uaI, length_mapIdx → uaJ, flatten_replicate_singleton → uaK, map_replicate → uaL, mem_or_eq_of_mem_set → uaM, filter_append → uaN, getElem_range → uaO, take_of_length_le → uaP
open PySem.Heap renaming get?_push_of_some → u5, lt_size → u9, get?_push_size → wI, size_push → xP, get?_update_self → zS, get?_update_other → j4, get?_some_iff → j7, get?_update_ne → uaG
open PySem.Value renaming ref → u7, none → xG, isStrOf → xS, int → x6, str → yT, bool → y3, type → y4, float → zL, builtin → k8
open Bool renaming false_ne_true → wF, false_eq_true → xV, eq_iff_iff → y8, not_eq_true → zU, and_eq_true_iff → j6
open Int renaming toNat_natCast → wH, eq_ofNat_of_zero_le → xX, emod_nonneg → xY, emod_lt_of_pos → yH, le_refl → yZ, add_zero → zK, natCast_nonneg → uaB
open PySem.PyData renaming int → wK, eqv → xE, list → xM, depthAll → yL, canLayAll0 → zC, showableAll → z9, hasDictAll → kP, leavesShortAll → k6, weightAll → k7, leavesShort → uaH
open Option renaming some → wV, map_eq_some_iff → wX, isSome_iff_exists → yV, bind_eq_some_iff → zY, isSome_some → j5, isNone_none → uaC
open PySem.Str renaming ofString → wY, empty → y9
open Array renaming length_toList → xJ, getElem?_toList → zA, append_assoc → zN, toList → zO, toList_inj → zW, getElem?_eq_getElem → uaA, eraseIdxIfInBounds → uaD, perm_iff_toList_perm → uaE
open Sum renaming inl → xZ, inr → x8
local macro_rules|`(tactic|walk_at "vi")=>`(tactic|first|exact .inl rfl|exact .inr rfl|assumption)
noncomputable abbrev Fg:=PySem.W.Frag
open PySem.F renaming plainAttrs_list → ğa, slot_list_append → ğb, type_list_append → ğc, plainAttrs_dict → ğd, slot_list_clear → ğe, type_list_clear → ğf, slot_dict_get → ğg, slot_dict_getitem → ğh, args_tuple_add_2 → ği, entry_tuple_add → ğj, args_dict_get_3 → ğk, slot_dict_items → ğl, slot_tuple_add → ğm, entry_dict_get → ğn, slot_dict_pop → ğo
namespace _2
open PySem PySem.Spec PyProof.Rows
variable {A:Around}{C a b dx it:Addr}{E:Value->Shared->Prop}{K:Fg}{M:Model}{N ps:List Str}{base:Heap}{body:List Stmt}{ch fp:List Addr}{es:List Expr}{f:Value->Value->Sem Value}{g':Array GenState}{i n:Nat}{kw:List (Str×Value)}{mA mg:Str->Option Value}{o:Obj}{op:CmpOp}{outer:List Env}{pins:List (Addr×Obj)}{pos:Pos}{qual x:Str}{s:Shared}{scope:Scope}{tg:Expr}{u:Value}{us:List Value}{w:World}
noncomputable abbrev Key:=Sum Int Str
noncomputable def zg21:Key->Value->Bool
|.inl k,v=>Value.isInt k v
|.inr x,v=>xS x v
noncomputable def keyH(w:World):Key->Int
|.inl k=>hashInt k
|.inr x=>hashStr w x
theorem zv1:∀{k:Key}{v:Value},zg21 k v=true->(∃i t,k=xZ i/\v=x6 i t) \/ (∃x t,k=x8 x/\v=yT x t)
|.inl i,v,h=>by
  obtain⟨t,e⟩:=Value.isInt_shape (k:=i) (v:=v) h;exact .inl ⟨i,t,rfl,e⟩
|.inr x,v,h=>by
  obtain⟨t,e⟩:=Value.isStrOf_shape (x:=x) (v:=v) h;exact .inr ⟨x,t,rfl,e⟩
theorem znu(i:Int)(t:Tok):zg21 (.inl i) (.int i t)=true:=by simp[zg21,Value.isInt]
theorem zvu(x:Str)(t:Tok):zg21 (.inr x) (.str x t)=true:=by simp[zg21,xS]
theorem zac1(a b:Int):decide ((xZ a:Key)=xZ b)=(a == b):=by
 by_cases e:a=b
 ·subst e;simp
 ·have h:¬(xZ a:Key)=xZ b:=λq=>e (xZ.inj q);rw[decide_eq_false h];exact(beq_eq_false_iff_ne.mpr e).symm
theorem zvb1(a b:Str):decide ((x8 a:Key)=x8 b)=decide (a=b):=by
 by_cases e:a=b
 ·subst e;simp
 ·have h:¬(x8 a:Key)=x8 b:=λq=>e (x8.inj q);rw[decide_eq_false h,decide_eq_false e]
theorem zxb1(a:Int)(b:Str):decide ((xZ a:Key)=x8 b)=false:=decide_eq_false (λq=>nomatch q)
theorem zfa1(a:Str)(b:Int):decide ((x8 a:Key)=xZ b)=false:=decide_eq_false (λq=>nomatch q)
noncomputable def zu2(prog:Program)(w:World):PySem.KeyKind prog w Key where
 is:=zg21
 hash:=keyH w
 inj:=λv a b ha hb=>by
  rcases zv1 ha with⟨i,t,rfl,rfl⟩|⟨x,t,rfl,rfl⟩
  ·rcases zv1 hb with⟨j,u,rfl,e⟩|⟨y,u,rfl,e⟩
   ·injection e with e1 _;rw[e1]
   ·exact nomatch e
  ·rcases zv1 hb with⟨j,u,rfl,e⟩|⟨y,u,rfl,e⟩
   ·exact nomatch e
   ·injection e with e1 _;rw[e1]
 byValue:=λk v h=>by
  rcases zv1 h with⟨i,t,rfl,rfl⟩|⟨x,t,rfl,rfl⟩ <;> rfl
 pyHash:=λhv h=>by
  rcases zv1 hv with⟨i,t,rfl,rfl⟩|⟨x,t,rfl,rfl⟩
  ·exact wpAny_pyHash_int h
  ·exact wpAny_pyHash_str h
 eqBool:=λhu hv h=>by
  rcases zv1 hu with⟨i,t,rfl,rfl⟩|⟨x,t,rfl,rfl⟩
  ·rcases zv1 hv with⟨j,u,rfl,rfl⟩|⟨y,u,rfl,rfl⟩
   ·rw[zac1]at h;exact wpAny_eqBool_int h
   ·rw[zxb1]at h;exact SeqAt.EqAt.int_str i t y u _ _ _ _ h
  ·rcases zv1 hv with⟨j,u,rfl,rfl⟩|⟨y,u,rfl,rfl⟩
   ·rw[zfa1]at h;exact SeqAt.EqAt.str_int x t j u _ _ _ _ h
   ·rw[zvb1]at h;exact wpAny_eqBool_str h
 «strs»:=λk x t v h=>by
  rcases zv1 h with⟨i,u,rfl,e⟩|⟨y,u,rfl,e⟩
  ·exact nomatch e
  ·injection e with e1 _
   subst e1
   cases v <;> rfl
theorem zkn(prog:Program)(w:World)(i:Int)(t:Tok):(zu2 prog w).is (.inl i) (.int i t)=true:=znu i t
theorem zhn(prog:Program)(w:World)(x:Str)(t:Tok):(zu2 prog w).is (.inr x) (.str x t)=true:=zvu x t
set_option genInjectivity true in
inductive V where
|non|bl (b:Bool)|int (i:Int)|str (x:Str)|byt (b:Array UInt8)|flt (b:UInt64)|ref (a:Addr)|ty (n:String)
 deriving DecidableEq
noncomputable def RelV:V->Value->Prop
|.non,u=>u=xG
|.bl b,u=>u=y3 b
|.int i,u=>∃t,u=x6 i t
|.str x,u=>∃t,u=yT x t
|.byt b,u=>∃t,u=Value.bytes b t
|.flt b,u=>∃t,u=zL b t
|.ref a,u=>u=u7 a
|.ty n,u=>u=y4 n
noncomputable abbrev Vals:List V->List Value->Prop:=Paired RelV
theorem Vals.length{xs:List V}{us:List Value}(r:Vals xs us):xs.length=us.length:=Paired.length r
theorem Vals.get:∀{xs:List V}{us:List Value}{i:Nat}{x:V},Vals xs us->xs[i]?=some x->∃u,us[i]?=some u/\RelV x u
|_,_,_,_,.nil,e=>by simp at e
|_,_,0,_,.cons r _,e=>by simp at e;subst e;exact⟨_,rfl,r⟩
|_,_,i+1,x,.cons _ t,e=>by
  obtain⟨u,h1,h2⟩:=Vals.get (i:=i) (x:=x) t (by simpa using e);exact⟨u,by simpa using h1,h2⟩
theorem Vals.set{x:V}{u:Value}(r:RelV x u):∀{xs:List V}{us:List Value}(i:Nat),Vals xs us->Vals (xs.set i x) (us.set i u)
|_,_,_,.nil=>.nil
|_,_,0,.cons _ t=>.cons r t
|_,_,i+1,.cons q t=>.cons q (Vals.set r i t)
theorem Vals.append:∀{xs ys:List V}{us ws:List Value},Vals xs us->Vals ys ws->Vals (xs++ys) (us++ws)
|_,_,_,_,.nil,s=>s
|_,_,_,_,.cons r t,s=>.cons r (Vals.append t s)
theorem Vals.take:∀{xs:List V}{us:List Value}(n:Nat),Vals xs us->Vals (xs.take n) (us.take n)
|_,_,0,_=>.nil
|_,_,_+1,.nil=>.nil
|_,_,n+1,.cons r t=>.cons r (Vals.take n t)
theorem Vals.drop:∀{xs:List V}{us:List Value}(n:Nat),Vals xs us->Vals (xs.drop n) (us.drop n)
|_,_,0,r=>r
|_,_,_+1,.nil=>.nil
|_,_,n+1,.cons _ t=>Vals.drop n t
theorem Vals.none_of:∀{xs:List V}{us:List Value}{i:Nat},Vals xs us->xs[i]?=none->us[i]?=none:=λ{xs us i} r e=>by
 have h1:=r.length;have h2:xs.length<=i:=zM.mp e;exact zM.mpr (by lia)
noncomputable def RelO:Option V->Option Value->Prop
|some v,some u=>RelV v u
|none,none=>True
|_,_=>False
noncomputable def KV{κ:Type}:List (κ×V)->List (κ×Value)->Prop:=Paired λ(p:κ×V)(q:κ×Value)=>p.1=q.1/\RelV p.2 q.2
noncomputable def kV:Key->V
|.inl i=>.int i
|.inr x=>.str x
set_option genInjectivity true in
inductive HO where
 /-- a list -/
|lst (xs:List V)
 /-- a tuple (never changes) -/
|tup (xs:List V)
 /-- a dict whose keys are ints and texts;one whose keys are tuples of ints and texts (the empty one is both) -/
|dK (kvs:List (Key×V))|dT (kvs:List (List Key×V))
 /-- a set of ints: its members,its size -/
|set (S:Int->Bool) (n:Nat)
 /-- an instance of the class at C,its dict at dx,its attributes -/
|ins (C dx:Addr) (fs:List (Str×V))
 /-- the dict of the instance at x -/
|own (x:Addr)
 /-- the dict of an exception -/
|xd (fs:List (Str×V))
 /-- a bound method,f of x -/
|met (f x:Addr)
 /-- a range object lo,lo+1,.. below hi -/
|rng (lo hi:Int)
 /-- a thing that is known to the object (the script;a dict while a loop walks it): read,never written while it is so -/
|frz (o:Obj) (u:HO)
 /-- a code object's table -/
|tbl (ps:Array Value)
 /-- any other thing,by what is true of its one object (a def of one's own: SetO a S n:=HO.ext λh=>..) -/
|ext (φ:Heap->Prop)
noncomputable abbrev Hp:=Addr->Option HO
noncomputable def upd(H:Hp)(a:Addr)(o:HO):Hp:=λb=>if b=a then some o else H b
theorem zj0{H:Hp}{o:HO}:upd H a o a=some o:=by unfold upd;rw[if_pos rfl]
theorem zm0{H:Hp}{o:HO}(h:b≠a):upd H a o b=H b:=by unfold upd;rw[if_neg h]
theorem zs91{H:Hp}{o u:HO}(h:H a=some o)(h':H b=some u)(d:o≠u):a≠b:=by
 intro e;subst e;rw[h]at h';exact d (wV.inj h')
theorem zf7{H:Hp}{o:HO}(h:H a=some o)(h':H b=none):a≠b:=by
 intro e;subst e;rw[h]at h';cases h'
section
variable (P:Program)(w:World)
noncomputable def ObjOk(H:Hp)(h:Heap)(a:Addr):HO->Prop
|.lst xs=>xs.length<=sizeLine/\∃(its:List Value)(n:Nat),Vals xs its/\h.get? a=some { cls:=.type "list",data:=.seq its.toArray n }
|.tup xs=>xs.length<=sizeLine/\∃its:List Value,Vals xs its/\IsTup h a its.toArray
|.dK kvs=>kvs.length<=sizeLine/\(a == sysModules)=false/\∃vs,KV kvs vs/\h.DictOf (zu2 P w) a vs
|.dT kvs=>kvs.length<=sizeLine/\(a == sysModules)=false/\∃xs:List (List Key×Addr×Value),
   Paired (λ(p:List Key×V)(q:List Key×Addr×Value)=>p.1=q.1/\H q.2.1=some (.tup (p.1.map kV))/\RelV p.2 q.2.2) kvs xs /\
   ∃o es ep,h.get? a=some o/\o.ExactDict/\o.data=.dict es ep/\es.toList=xs.map (entryOfKey (tupleKind (zu2 P w)))/\(xs.map (·.1)).Nodup
|.set S n=>h.SetOf (intKind P w) a S n
|.ins C dx fs=>H dx=some (.own a)/\fs.length<=1000/\dx≠a/\h.get? a=some (PySem.W.instObj C dx) /\
   ∃mA,h.Ns1 dx mA/\(∀f,RelO (fs.lookup f) (mA f))/\PySem.Within mA (fs.map (·.1))
|.own _=>∃o,h.get? a=some o
|.xd fs=>∃mA,h.Ns1 a mA/\∀f,RelO (fs.lookup f) (mA f)
|.rng lo hi=>∃t u v,h.get? a=some { cls:=.type "range",data:=.fields #[.int lo t,.int hi u,.int 1 v] }
|.frz o u=>h.get? a=some o/\ObjOk H h a u
|.tbl ps=>h.get? a=some { cls:=.none,data:=.fields ps }
|.met f x=>h.get? a=some (PySem.W.methodObj (.ref f) (.ref x))
|.ext φ=>φ h/\(∃o,h.get? a=some o)/\∀h1 h2:Heap,φ h1->(∀o,h1.get? a=some o->h2.get? a=some o)->φ h2
noncomputable def HOk(H:Hp)(h:Heap):Prop:=∀a o,H a=some o->ObjOk P w H h a o
end
section
variable {P:Program}{w:World}{H H':Hp}{h h':Heap}{a:Addr}{o:HO}
theorem ObjOk.lt(x:ObjOk P w H h a o):a < h.objs.size:=by
 cases o with
|lst xs=>obtain⟨_,_,_,_,e⟩:=x;exact u9 e
|tup xs=>obtain⟨_,_,_,p⟩:=x;exact p.lt
|dK kvs=>obtain⟨_,_,_,_,o,_,_,e,_⟩:=x;exact u9 e
|dT kvs=>obtain⟨_,_,_,_,o,_,_,e,_⟩:=x;exact u9 e
|set S n=>obtain⟨o,_,_,_,e,_⟩:=x;exact u9 e
|ins C dx fs=>obtain⟨_,_,_,e,_⟩:=x;exact u9 e
|own y=>obtain⟨_,e⟩:=x;exact u9 e
|xd fs=>obtain⟨_,⟨_,_,_,e,_⟩,_⟩:=x;exact u9 e
|rng lo hi=>obtain⟨_,_,_,e⟩:=x;exact u9 e
|frz ob u=>obtain⟨e,_⟩:=x;exact u9 e
|tbl ps=>exact u9 (show h.get? a=some _ from x)
|met f y=>exact u9 (show h.get? a=some _ from x)
|ext φ=>obtain⟨_,⟨_,e⟩,_⟩:=x;exact u9 e
theorem Paired.mapP{α β:Type}{F G:α->β->Prop}:∀{l₁:List α}{l₂:List β},Paired F l₁ l₂->(∀a b,F a b->G a b)->Paired G l₁ l₂
|_,_,.nil,_=>.nil
|_,_,.cons r t,f=>.cons (f _ _ r) (Paired.mapP t f)
theorem ObjOk.stay(x:ObjOk P w H h a o)(k:∀b u,(b=a \/ H b=some (.own a))->h.get? b=some u->h'.get? b=some u)
  (ho:∀b,H b=some (.own a)->H' b=some (.own a)) (ht:∀b xs,H b=some (.tup xs)->H' b=some (.tup xs)):ObjOk P w H' h' a o:=by
 induction o with
|lst xs=>obtain⟨z,its,n,r,e⟩:=x;exact⟨z,its,n,r,k _ _ (.inl rfl) e⟩
|tup xs=>obtain⟨z,its,r,ob,e,c⟩:=x;exact⟨z,its,r,ob,k _ _ (.inl rfl) e,c⟩
|dK kvs=>obtain⟨z,y,vs,r,ob,es,ep,e,c⟩:=x;exact⟨z,y,vs,r,ob,es,ep,k _ _ (.inl rfl) e,c⟩
|dT kvs =>
  obtain⟨z,y,xs,r,ob,es,ep,e,c⟩:=x;exact⟨z,y,xs,Paired.mapP r λp q z=>⟨z.1,ht _ _ z.2.1,z.2.2⟩,ob,es,ep,k _ _ (.inl rfl) e,c⟩
|set S n=>obtain⟨ob,es,ep,t,e,c⟩:=x;exact⟨ob,es,ep,t,k _ _ (.inl rfl) e,c⟩
|ins C dx fs =>
  obtain⟨d,z,ne,e,mA,⟨od,es,ep,e2,c⟩,r⟩:=x;exact⟨ho _ d,z,ne,k _ _ (.inl rfl) e,mA,⟨od,es,ep,k _ _ (.inr d) e2,c⟩,r⟩
|own y=>obtain⟨ob,e⟩:=x;exact⟨ob,k _ _ (.inl rfl) e⟩
|xd fs=>obtain⟨mA,⟨od,es,ep,e,c⟩,r⟩:=x;exact⟨mA,⟨od,es,ep,k _ _ (.inl rfl) e,c⟩,r⟩
|rng lo hi=>obtain⟨t,u,v,e⟩:=x;exact⟨t,u,v,k _ _ (.inl rfl) e⟩
|frz ob u ih=>obtain⟨e,q⟩:=x;exact⟨k _ _ (.inl rfl) e,ih q⟩
|tbl ps =>
  have e:h.get? a=some { cls:=.none,data:=.fields ps }:=x;show h'.get? a=some { cls:=.none,data:=.fields ps };exact k a _ (.inl rfl) e
|met f y =>
  have e:h.get? a=some (PySem.W.methodObj (.ref f) (.ref y)):=x;show h'.get? a=some (PySem.W.methodObj (.ref f) (.ref y));exact k a _ (.inl rfl) e
|ext φ=>obtain⟨p,⟨o,e⟩,st⟩:=x;exact⟨st _ _ p λo q=>k _ _ (.inl rfl) q,⟨o,k _ _ (.inl rfl) e⟩,st⟩
theorem HOk.lt(x:HOk P w H h)(e:H a=some o):a < h.objs.size:=(x a o e).lt
theorem HOk.fresh(x:HOk P w H h)(e:h.objs.size<=a):H a=none:=by
 cases q:H a with
|none=>rfl
|some u=>exact absurd (wS (x.lt q) e) (xA _)
theorem HOk.kept(x:HOk P w H h)(k:∀b u,h.get? b=some u->h'.get? b=some u):HOk P w H h':=λa o e =>
 (x a o e).stay (λb u _ q=>k b u q) (λ_ q=>q) λ_ _ q=>q
theorem HOk.laid(x:HOk P w H h)(k:∀b u,h.get? b=some u->h'.get? b=some u)(hp:h.objs.size<=a)(new:ObjOk P w (upd H a o) h' a o):HOk P w (upd H a o) h':=λb u e=>by
 have hn:=x.fresh hp;by_cases hb:b=a
 ·subst hb;rw[zj0]at e;cases e;exact new
 ·rw[zm0 hb]at e;exact(x b u e).stay (λc v _ q=>k c v q) (λc q=>by rw[zm0 (zf7 q hn)];exact q) λc xs q=>by rw[zm0 (zf7 q hn)];exact q
end
noncomputable def Rd(H:Hp)(a:Addr)(u:HO):Prop:=H a=some u \/ ∃o,H a=some (.frz o u)
theorem Rd.ok{P:Program}{H:Hp}{h:Heap}{u:HO}(r:Rd H a u)(x:HOk P w H h):ObjOk P w H h a u:=by
 rcases r with r|⟨o,r⟩
 ·exact x a u r
 ·obtain⟨_,q⟩:=x a _ r;exact q
noncomputable def Mut:Option HO->Prop
|some (.lst _)=>True
|some (.dK _)=>True
|some (.dT _)=>True
|some (.set _ _)=>True
|some (.ins _ _ _)=>True
|some (.ext _)=>True
|_=>False
section
variable {P:Program}{w:World}{H:Hp}{h h':Heap}{x e:Addr}{o':HO}
theorem HOk.write(ok:HOk P w H h)(mu:Mut (H x))(he:e=x \/ H e=some (.own x))(k:∀b u,b≠e->h.get? b=some u->h'.get? b=some u)(heo:∃u,h'.get? e=some u)
  (new:ObjOk P w (upd H x o') h' x o'):HOk P w (upd H x o') h':=λb u q=>by
 have nown:∀c y,H c=some (.own y)->c≠x:=λc y r z=>by subst z;rw[r]at mu;exact mu
 have ntup:∀c xs,H c=some (.tup xs)->c≠x:=λc xs r z=>by subst z;rw[r]at mu;exact mu
 by_cases hb:b=x
 ·subst hb;rw[zj0]at q;cases q;exact new
 ·rw[zm0 hb]at q;by_cases hbe:b=e
  ·have q':H b=some (.own x):=by
    rcases he with z|z
    ·exact absurd (hbe.trans z) hb
    ·rw[hbe];exact z
   rw[q]at q';cases q';obtain⟨v,hv⟩:=heo;exact⟨v,by rw[hbe];exact hv⟩
  ·refine(ok b u q).stay (λc v hc r=>k c v ?_ r) (λc r=>by rw[zm0 (nown c b r)];exact r) λc xs r=>by rw[zm0 (ntup c xs r)];exact r
   rcases hc with rfl|hc
   ·exact hbe
   ·rintro rfl;rcases he with z|z
    ·exact nown c b hc z
    ·rw[hc]at z;cases z;exact hb rfl
end
structure Un(fs ex:List Addr)(H H':Hp)(h h':Heap):Prop where
 keep:∀b o,h.get? b=some o->H b=none->b ∉ fs->b ∉ ex->h'.get? b=some o
 slot:∀b o,h.get? b=some o->H b=none->b∈fs->b ∉ ex->∃sl,h'.get? b=some { o with slots:=sl }
 free:∀b o,h.get? b=some o->H b=none->b ∉ ex->H' b=none
 there:∀b o,h.get? b=some o->b ∉ ex->∃o',h'.get? b=some o'
 tups:∀b xs,H b=some (.tup xs)->H' b=some (.tup xs)
 frzs:∀b o u,H b=some (.frz o u)->H' b=some (.frz o u)
 tbls:∀b ps,H b=some (.tbl ps)->∃more,H' b=some (.tbl (ps++more))
section
variable {fs fs' ex ex':List Addr}{H H1 H2:Hp}{h h1 h2 h':Heap}{a x e:Addr}{o:HO}
theorem Un.any(u:Un fs ex H H1 h h1){ob:Obj}(q:h.get? b=some ob)(n:H b=none)(hx:b ∉ ex):∃sl,h1.get? b=some { ob with slots:=sl }:=by
 by_cases hb:b∈fs
 ·exact u.slot b ob q n hb hx
 ·exact⟨ob.slots,u.keep b ob q n hb hx⟩
theorem Un.kept(k:∀b u,h.get? b=some u->h'.get? b=some u):Un fs ex H H h h' :=
 ⟨λb ob q _ _ _=>k b ob q,λb ob q _ _ _=>⟨ob.slots,k b ob q⟩,λ_ _ _ n _=>n,λb ob q _=>⟨ob,k b ob q⟩,λ_ _ q=>q,λ_ _ _ q=>q,λ_ ps q=>⟨#[],by rw[q];simp⟩⟩
theorem Un.refl:Un fs ex H H h h:=Un.kept λ_ _ q=>q
theorem Un.laid(k:∀b u,h.get? b=some u->h'.get? b=some u)(hp:h.objs.size<=a)(hn:H a=none):Un fs ex H (upd H a o) h h' where
 keep:=λb u q _ _ _=>k b u q
 slot:=λb u q _ _ _=>⟨u.slots,k b u q⟩
 free:=λb u q n _=>by rw[zm0 (wN (wS (u9 q) hp))];exact n
 there:=λb u q _=>⟨u,k b u q⟩
 tups:=λb xs q=>by rw[zm0 (zf7 q hn)];exact q
 frzs:=λb u xs q=>by rw[zm0 (zf7 q hn)];exact q
 tbls:=λb ps q=>⟨#[],by rw[zm0 (zf7 q hn),q];simp⟩
theorem Un.write(mu:Mut (H x))(he:e=x \/ H e=some (.own x))(k:∀b u,b≠e->h.get? b=some u->h'.get? b=some u)(heo:∃u,h'.get? e=some u):Un fs ex H (upd H x o) h h':=by
 have hx:∀b,H b=none->b≠x:=λb n z=>by subst z;rw[n]at mu;exact mu
 have hb:∀b,H b=none->b≠e:=λb n z=>by
  subst z;rcases he with r|r
  ·exact hx b n r
  ·rw[n]at r;cases r
 have hm:∀b u,H b=some u->¬Mut (some u)->b≠x:=λb u q nm z=>by subst z;rw[q]at mu;exact nm mu
 refine⟨λb u q n _ _=>k b u (hb b n) q,λb u q n _ _=>⟨u.slots,k b u (hb b n) q⟩,λb u q n _=>by rw[zm0 (hx b n)];exact n,λb u q _=>?_,
  λb xs q=>by rw[zm0 (hm b _ q λz=>z)];exact q,λb u xs q=>by rw[zm0 (hm b _ q λz=>z)];exact q,λb ps q=>⟨#[],by rw[zm0 (hm b _ q λz=>z),q];simp⟩⟩
 by_cases hbe:b=e
 ·subst hbe;exact heo
 ·exact⟨u,k b u hbe q⟩
end
noncomputable def trk(h:Heap)(H:Hp):List Addr:=(w9 h.objs.size).filter λa=>(H a).isSome
noncomputable def hidT(h:Heap)(H:Hp):Heap:=PySem.W.hideAll h (trk h H)
theorem zfu(h:Heap)(H:Hp):(hidT h H).objs.size=h.objs.size:=PySem.W.hideAll_size _ _
theorem zzy{h:Heap}{H:Hp}(e:h.get? b=some o)(n:H b=none):(hidT h H).get? b=some o :=
 PySem.W.hideAll_get _ e λhm=>by
  have q:(H b).isSome=true:=(yJ.mp hm).2;rw[n]at q;simp at q
theorem zw21{h:Heap}{H:Hp}(e:(hidT h H).get? b=some o):h.get? b=some o/\H b=none:=by
 have e':h.get? b=some o:=PySem.W.of_hideAll (trk h H) e;refine⟨e',?_⟩;cases q:H b with
|none=>rfl
|some x =>
  have hm:b∈trk h H:=yJ.mpr ⟨x9.mpr (u9 e'),by simp[q]⟩;have z:(hidT h H).get? b=none:=PySem.W.hideAll_none (trk h H) hm;rw[z]at e;cases e
noncomputable def zx51(g h:Heap)(L:Addr):List (Addr×Obj):=(w9 h.objs.size).filterMap λa=>if a=L \/ (g.get? a).isSome=true then none else(h.get? a).map λo=>(a,o)
noncomputable def rest(g h:Heap)(L d:Addr):List (Addr×Obj):=(zx51 g h L).filter λp=>decide (p.1≠d)
structure Mod(K:Fg)(mg:Str->Option Value)(base:Heap):Prop where
 kin:K.In base
 glob:base.Ns mainGlobals mg
 blt:∃mb,base.Ns builtinsNs mb/\∀x:Str,x ≠ "__name__"->mb x=bootBuiltins x
 nolimit:base.NoLimit
structure Cx where
 prog:Program
 w:World
 K:Fg
 mg:Str->Option Value
 base:Heap
 A:Around
 N:List Str
 s₀:Shared
 H₀:Hp
 env:Env
 outer:List Env
 stack:List Env
 ex:List Addr
 fn:Str->Bool
 calm:Bool
 pn:List (Addr×Obj)
 xe:Value->Shared->Prop
noncomputable def frs(l:List Env):List Addr:=l.filterMap (·.frame)
noncomputable abbrev Cx.fs(X:Cx):List Addr:=frs X.outer
noncomputable def Vis(sc:Scope)(x:Str):Prop:=sc.names.lookup x=some .local \/ sc.names.lookup x=some .cell \/ sc.names.lookup x=some .free
noncomputable def Loc(sc:Scope)(x:Str):Prop:=sc.names.lookup x=some .local \/ sc.names.lookup x=some .cell
noncomputable def Look(env:Env)(h:Heap)(m:Str->Option Value)(x:Str)(u:Value):Prop :=
 (env.kindOf x=some .local/\m x=some u) \/ ((env.kindOf x=some .cell \/ env.kindOf x=some .free)/\∃c,env.cells.lookup x=some c/\h.IsCell c (some u))
structure Cx.Ok(X:Cx):Prop where
 mod:Mod X.K X.mg X.base
 kind:X.env.scope.kind=.function
 glob:X.env.globals=mainGlobals
 blt:X.env.builtins=builtinsNs
 above:X.s₀.heap.objs.size<=X.env.locals
 inj:∀x y c,X.env.cells.lookup x=some c->X.env.cells.lookup y=some c->x=y
 has:∀x,(X.env.kindOf x=some .cell \/ X.env.kindOf x=some .free)->∃c,X.env.cells.lookup x=some c
 cab:∀x c,X.fn x=true->X.env.cells.lookup x=some c->X.s₀.heap.objs.size<=c
 hd:X.calm=true->X.A.handled=none
 frames:X.A.frames=some X.stack
 stk:X.stack=X.outer \/ (X.stack=X.env :: X.outer/\X.env.frame=some X.env.locals)
 exf:∀b∈X.ex,b≠X.env.locals/\∀x c,X.env.cells.lookup x=some c->c≠b
 bs:∀b o,X.base.get? b=some o->X.s₀.heap.get? b=some o/\X.H₀ b=none
 bsz:X.base.objs.size<=X.s₀.heap.objs.size
 noex:∀b o,X.base.get? b=some o->b ∉ X.ex
 exfs:∀b∈X.ex,b ∉ X.fs
 funs:X.s₀.heap.FunFrames X.base X.outer
 frf:∀b∈X.fs,X.H₀ b=none
structure Inv(X:Cx)(pins:List (Addr×Obj))(Y:List (Option V))(H:Hp)(s:Shared):Prop where
 ok:X.Ok
 os:s.os=X.s₀.os
 bare:AllBare s.gens
 base:Un X.fs X.ex X.H₀ H X.s₀.heap s.heap
 loc:∃m,s.heap.Ns X.env.locals m/\∀(i:Nat)(x:Str)(v:V),X.N[i]?=some x->Y[i]?=some (some v)->Vis X.env.scope x->∃u,RelV v u/\Look X.env s.heap m x u
 cell:∀x c,X.env.cells.lookup x=some c->∃v,s.heap.IsCell c v
 free:H X.env.locals=none
 freeC:∀x c,X.env.cells.lookup x=some c->H c=none
 pin:∀p∈X.pn++pins,s.heap.get? p.1=some p.2/\H p.1=none/\p.1≠X.env.locals/\p.1 ∉ X.fs/\∀v,p.2.data≠.cell v
 hok:HOk X.prog X.w H s.heap
 len:Y.length=X.N.length
section
variable {X:Cx}{pins:List (Addr×Obj)}{Y:List (Option V)}{H H':Hp}{s:Shared}{h':Heap}
theorem Cx.Ok.nofr(ok:X.Ok)(e:X.base.get? b=some o):b ∉ X.fs:=λhb=>by
 have:=(ok.funs.mem hb).1;rw[e]at this;cases this
theorem Inv.bs(I:Inv X pins Y H s):∀b o,X.base.get? b=some o->s.heap.get? b=some o/\H b=none:=λb o e =>
 ⟨I.base.keep b o (I.ok.bs b o e).1 (I.ok.bs b o e).2 (I.ok.nofr e) (I.ok.noex b o e),I.base.free b o (I.ok.bs b o e).1 (I.ok.bs b o e).2 (I.ok.noex b o e)⟩
theorem Inv.bk(I:Inv X pins Y H s):∀b o,X.base.get? b=some o->s.heap.get? b=some o:=λb o e=>(I.bs b o e).1
theorem Inv.mod(I:Inv X pins Y H s):Mod X.K X.mg X.base:=I.ok.mod
theorem Inv.kIn(I:Inv X pins Y H s):X.K.In s.heap:=I.ok.mod.kin.keeps I.bk
theorem Inv.lt(I:Inv X pins Y H s):X.env.locals < s.heap.objs.size:=let ⟨_,hn,_⟩:=I.loc;hn.lt
theorem Inv.sz(I:Inv X pins Y H s):X.s₀.heap.objs.size<=s.heap.objs.size:=wP I.ok.above (yM I.lt)
theorem Inv.nofs(I:Inv X pins Y H s)(h:s.heap.objs.size<=a):a ∉ X.fs:=λhb=>by
 obtain⟨_,o,ho,_⟩:=I.ok.funs.mem hb;exact absurd (wS (u9 ho) (wP I.sz h)) (xA _)
theorem Inv.cne(I:Inv X pins Y H s):∀x c,X.env.cells.lookup x=some c->c≠X.env.locals:=λx c e z=>by
 obtain⟨v,o,ho,hd⟩:=I.cell x c e;obtain⟨m,⟨o',es,ep,ho',hd',_⟩,_⟩:=I.loc;rw[z,ho']at ho;cases ho;rw[hd']at hd;cases hd
theorem Inv.funs(I:Inv X pins Y H s):s.heap.FunFrames X.base X.outer:=by
 have all:∀(l:List Env),(∀b∈frs l,b∈X.fs)->X.s₀.heap.FunFrames X.base l->s.heap.FunFrames X.base l:=by
  intro l
  induction l with
 |nil=>intro _ _;trivial
 |cons env r ih =>
   intro hs hl;obtain⟨hk,⟨L,o,hf,hn,ho,hd⟩,hr⟩:=hl;have hL:L∈X.fs:=hs L (by unfold frs;rw[xT,hf];exact wJ);obtain⟨sl,e⟩:=I.base.slot L o ho (I.ok.frf L hL) hL λz=>I.ok.exfs L z hL;exact⟨hk,⟨L,_,hf,hn,e,hd⟩,ih (λb hb=>hs b (by unfold frs;rw[xT,hf];exact v8 _ hb)) hr⟩
 exact all X.outer (λ_ hb=>hb) I.ok.funs
theorem Inv.stack(I:Inv X pins Y H s):s.heap.FunFrames X.base X.stack:=by
 rcases I.ok.stk with e|⟨e,hf⟩
 ·rw[e];exact I.funs
 ·rw[e];obtain⟨m,hn,_⟩:=I.loc;refine .cons (by rw[I.ok.kind];decide) hf hn ?_ I.funs;exact Heap.get?_none_of_le (wP I.ok.bsz I.ok.above)
theorem Inv.stkSub(I:Inv X pins Y H s):∀b∈frs X.stack,b∈X.env.locals :: X.fs:=λb hb=>by
 rcases I.ok.stk with e|⟨e,hf⟩
 ·rw[e]at hb;exact v8 _ hb
 ·rw[e]at hb;unfold frs at hb;rw[xT,hf]at hb;exact hb
theorem Inv.stkFree(I:Inv X pins Y H s):∀b∈frs X.stack,H b=none:=λb hb=>by
 rcases v6.mp (I.stkSub b hb)with e|hb
 ·rw[e];exact I.free
 ·obtain⟨_,o,ho,_⟩:=I.ok.funs.mem hb;exact I.base.free b o ho (I.ok.frf b hb) λz=>I.ok.exfs b z hb
theorem Inv.step{g':Array GenState}{t':Nat}{d':Drawn}(I:Inv X pins Y H s)
  (hch:∀b∈ch,(b∈X.ex \/ X.s₀.heap.objs.size<=b)/\b≠X.env.locals/\(∀x c,X.env.cells.lookup x=some c->c≠b)/\∀p∈X.pn++pins,p.1≠b)
  (keep:∀b o,b≠X.env.locals->b ∉ X.fs->b ∉ ch->s.heap.get? b=some o->H b=none->h'.get? b=some o)
  (slot:∀b o,b≠X.env.locals->b∈X.fs->b ∉ ch->s.heap.get? b=some o->H b=none->∃sl,h'.get? b=some { o with slots:=sl }) (free:∀b o,b ∉ ch->s.heap.get? b=some o->H b=none->H' b=none)
  (there:∀b o,b ∉ ch->s.heap.get? b=some o->∃o',h'.get? b=some o')
  (tups:∀b xs,H b=some (.tup xs)->H' b=some (.tup xs)) (frzs:∀b o u,H b=some (.frz o u)->H' b=some (.frz o u)) (tbls:∀b ps,H b=some (.tbl ps)->∃more,H' b=some (.tbl (ps++more)))
  (ns:∀m,s.heap.Ns X.env.locals m->h'.Ns X.env.locals m) (hok:HOk X.prog X.w H' h') (hg:AllBare g') :
  Inv X pins Y H' { s with heap:=h',gens:=g',drawn:=d',toks:=t' }:=by
 have neL:∀b o,X.s₀.heap.get? b=some o->b≠X.env.locals:=λb o e=>wN (wS (u9 e) I.ok.above);have neC:∀b o,X.s₀.heap.get? b=some o->b ∉ X.ex->b ∉ ch:=λb o e hx hb=>by
  rcases(hch b hb).1 with z|z
  ·exact hx z
  ·exact absurd (wS (u9 e) z) (xA _)
 have cellK:∀x c,X.env.cells.lookup x=some c->∀v,s.heap.IsCell c v->h'.IsCell c v:=λx c e v ⟨o,ho,hd⟩=>by
  have nch:c ∉ ch:=λz=>(hch c z).2.2.1 x c e rfl;by_cases hc:c∈X.fs
  ·obtain⟨sl,q⟩:=slot c o (I.cne x c e) hc nch ho (I.freeC x c e);exact⟨_,q,hd⟩
  ·exact⟨o,keep c o (I.cne x c e) hc nch ho (I.freeC x c e),hd⟩
 refine⟨I.ok,I.os,hg,⟨λb o e n hb hx=>?_,λb o e n hb hx=>?_,λb o e n hx=>?_,λb o e hx=>?_,λb xs e=>tups b xs (I.base.tups b xs e),λb o xs e=>frzs b o xs (I.base.frzs b o xs e),λb ps e=>?_⟩,?_,λx c e=>?_,?_,λx c e=>?_,λp hp=>?_,hok,I.len⟩
 ·exact keep b o (neL b o e) hb (neC b o e hx) (I.base.keep b o e n hb hx) (I.base.free b o e n hx)
 ·obtain⟨sl,e1⟩:=I.base.slot b o e n hb hx;obtain⟨sl',e2⟩:=slot b _ (neL b o e) hb (neC b o e hx) e1 (I.base.free b o e n hx);exact⟨sl',e2⟩
 ·obtain⟨o',e1⟩:=I.base.there b o e hx;exact free b o' (neC b o e hx) e1 (I.base.free b o e n hx)
 ·obtain⟨o',e1⟩:=I.base.there b o e hx;exact there b o' (neC b o e hx) e1
 ·obtain⟨m1,e1⟩:=I.base.tbls b ps e;obtain⟨m2,e2⟩:=tbls b _ e1;exact⟨m1++m2,by rw[e2,zN]⟩
 ·obtain⟨m,hn,hl⟩:=I.loc;refine⟨m,ns m hn,λi x v e1 e2 e3=>?_⟩;obtain⟨u,r,l⟩:=hl i x v e1 e2 e3;refine⟨u,r,?_⟩;rcases l with l|⟨k,c,e,z⟩
  ·exact .inl l
  ·exact .inr ⟨k,c,e,cellK x c e _ z⟩
 ·obtain⟨v,z⟩:=I.cell x c e;exact⟨v,cellK x c e v z⟩
 ·obtain⟨m,⟨o,_,_,ho,_⟩,_⟩:=I.loc;exact free _ o (λz=>(hch _ z).2.1 rfl) ho I.free
 ·obtain⟨v,o,ho,hd⟩:=I.cell x c e;exact free c o (λz=>(hch c z).2.2.1 x c e rfl) ho (I.freeC x c e)
 ·obtain⟨e,n,ne,nf,d⟩:=I.pin p hp;have nch:p.1 ∉ ch:=λz=>(hch p.1 z).2.2.2 p hp rfl;exact⟨keep p.1 p.2 ne nf nch e n,free p.1 p.2 nch e n,ne,nf,d⟩
theorem Inv.un{t':Nat}(I:Inv X pins Y H s)(u:Un X.fs [] H H' s.heap h')(hok:HOk X.prog X.w H' h'):Inv X pins Y H' { s with heap:=h',toks:=t' }:=by
 obtain⟨m,⟨o,es,ep,ho,r⟩,_⟩:=id I.loc;obtain⟨sl,hL⟩:=u.any ho I.free (by simp);exact I.step (g':=s.gens) (d':=s.drawn) (ch:=[]) (λ_ z=>nomatch z) (λb o _ hb _ e n=>u.keep b o e n hb (by simp)) (λb o _ hb _ e n=>u.slot b o e n hb (by simp)) (λb o _ e n=>u.free b o e n (by simp)) (λb o _ e=>u.there b o e (by simp)) u.tups u.frzs u.tbls (λm' hm=>by
  obtain⟨o',es',ep',ho',r'⟩:=hm;rw[ho]at ho';cases ho';exact⟨_,es',ep',hL,r'⟩) hok I.bare
theorem Inv.call{t':Nat}{d':Drawn}(I:Inv X pins Y H s)(u:Un (frs X.stack) ch H H' s.heap h')(hok:HOk X.prog X.w H' h')(hg:AllBare g')
  (hch:∀b∈ch,(b∈X.ex \/ X.s₀.heap.objs.size<=b)/\b≠X.env.locals/\(∀x c,X.env.cells.lookup x=some c->c≠b)/\∀p∈X.pn++pins,p.1≠b) :
  Inv X pins Y H' { s with heap:=h',gens:=g',drawn:=d',toks:=t' }:=by
 obtain⟨m,⟨o,es,ep,ho,r⟩,_⟩:=id I.loc;obtain⟨sl,hL⟩:=u.any ho I.free λz=>(hch _ z).2.1 rfl;exact I.step (ch:=ch) hch (λb o hL hb hc e n=>u.keep b o e n (λz=>(v6.mp (I.stkSub b z)).elim hL hb) hc) (λb o _ _ hc e n=>u.any e n hc) (λb o hc e n=>u.free b o e n hc) (λb o hc e=>u.there b o e hc) u.tups u.frzs u.tbls (λm' hm=>by
  obtain⟨o',es',ep',ho',r'⟩:=hm;rw[ho]at ho';cases ho';exact⟨_,es',ep',hL,r'⟩) hok hg
theorem Inv.turned{t':Nat}(I:Inv X pins Y H s)(k:∀b o,b≠it->s.heap.get? b=some o->h'.get? b=some o)(hn:H it=none)(hL:it≠X.env.locals)
  (h1:it∈X.ex \/ X.s₀.heap.objs.size<=it) (h2:∀x c,X.env.cells.lookup x=some c->c≠it) (h3:∀p∈X.pn++pins,p.1≠it):Inv X pins Y H { s with heap:=h',toks:=t' }:=by
 have nit:∀b u,H b=some u->b≠it:=λb u e z=>by rw[z,hn]at e;cases e
 refine I.step (g':=s.gens) (d':=s.drawn) (ch:=[it]) (λb hb=>?_) (λb o _ _ hc e _=>k b o (λz=>hc (by simp[z])) e) (λb o _ _ hc e _=>⟨o.slots,k b o (λz=>hc (by simp[z])) e⟩) (λ_ _ _ _ n=>n)
  (λb o hc e=>⟨o,k b o (λz=>hc (by simp[z])) e⟩) (λ_ _ e=>e) (λ_ _ _ e=>e) (λb ps e=>⟨#[],by rw[e];simp⟩) (λm hm=>?_) (λb u e=>?_) I.bare
 ·have e:b=it:=by simpa using hb
  subst e;exact⟨h1,hL,h2,h3⟩
 ·obtain⟨o,es,ep,ho,r⟩:=hm;exact⟨o,es,ep,k _ o (Ne.symm hL) ho,r⟩
 ·refine(I.hok b u e).stay (λc v hc q=>k c v ?_ q) (λ_ q=>q) λ_ _ q=>q;rcases hc with z|z
  ·rw[z];exact nit b u e
  ·exact nit c _ z
theorem Inv.tok(I:Inv X pins Y H s)(t:Nat):Inv X pins Y H { s with toks:=t }:=I.un (h':=s.heap) (t':=t) Un.refl I.hok
theorem Inv.kept{t':Nat}(I:Inv X pins Y H s)(k:∀b u,s.heap.get? b=some u->h'.get? b=some u):Inv X pins Y H { s with heap:=h',toks:=t' }:=I.un (Un.kept k) (I.hok.kept k)
theorem Inv.laid{a:Addr}{o:HO}{t':Nat}(I:Inv X pins Y H s)(k:∀b u,s.heap.get? b=some u->h'.get? b=some u)(hp:s.heap.objs.size<=a)(new:ObjOk X.prog X.w (upd H a o) h' a o) :
  Inv X pins Y (upd H a o) { s with heap:=h',toks:=t' }:=I.un (Un.laid k hp (I.hok.fresh hp)) (I.hok.laid k hp new)
theorem Inv.write{x e:Addr}{o:HO}{t':Nat}(I:Inv X pins Y H s)(mu:Mut (H x))(he:e=x \/ H e=some (.own x))(k:∀b u,b≠e->s.heap.get? b=some u->h'.get? b=some u)(heo:∃u,h'.get? e=some u)
  (new:ObjOk X.prog X.w (upd H x o) h' x o):Inv X pins Y (upd H x o) { s with heap:=h',toks:=t' }:=I.un (Un.write mu he k heo) (I.hok.write mu he k heo new)
theorem Inv.pins_of{pins':List (Addr×Obj)}(I:Inv X pins Y H s)(h:∀p∈pins',s.heap.get? p.1=some p.2/\H p.1=none/\p.1≠X.env.locals/\p.1 ∉ X.fs/\∀v,p.2.data≠.cell v):Inv X pins' Y H s :=
 ⟨I.ok,I.os,I.bare,I.base,I.loc,I.cell,I.free,I.freeC,λp hp=>(u6.mp hp).elim (λz=>I.pin p (xN _ z)) (h p),I.hok,I.len⟩
theorem znl(hN:N.Nodup){j:Nat}(a:N[i]?=some x)(b:N[j]?=some x):i=j:=by
 obtain⟨h1,e1⟩:=wR.mp a;obtain⟨h2,e2⟩:=wR.mp b;exact(List.getElem_inj hN).mp (e1.trans e2.symm)
theorem zwl{M:Model}{A:Around}{E:Value->Shared->Prop}{v:V}{Q:Unit->Shared->Prop}(I:Inv X pins Y H s)(hN:X.N.Nodup)(hi:X.N[i]?=some x)(hx:Loc X.env.scope x)(r:RelV v u)
  (h:∀s',Inv X pins (Y.set i (some v)) H s'->(∃a,Heap.SameBut a s.heap s'.heap/\(a=X.env.locals \/ X.env.cells.lookup x=some a))->Q () s') (hf:X.fn x=true \/ X.env.scope.names.lookup x=some .local:=by walk_at"vi"):wpAny M A (storeName X.env x u) Q E s:=by
 obtain⟨m,hn,hl⟩:=id I.loc;have hcls:(X.env.scope.kind == .class || (X.env.scope.kind == .module && X.env.locals != X.env.globals))=false:=by rw[I.ok.kind];rfl
 have hiY:i < Y.length:=by rw[I.len];exact(wR.mp hi).1
 have cne:=I.cne;have tracked:∀{a:Addr}{h':Heap},(∃o,s.heap.get? a=some o/\H a=none)->Heap.SameBut a s.heap h'->HOk X.prog X.w H h':=λ{a h'} ha hs b ob e=>by
  obtain⟨_,_,hfree⟩:=ha;refine(I.hok b ob e).stay (λc w' hc q=>(hs.2 c ?_).trans q) (λ_ q=>q) λ_ _ q=>q;rintro rfl;rcases hc with rfl|hc
  ·rw[hfree]at e;cases e
  ·rw[hfree]at hc;cases hc
 rcases hx with hk|hk
 ·refine wpAny_storeName_local hk hn (λh' hn' hs=>?_) hcls;obtain⟨oL,_,_,hoL,_⟩:=id hn;refine h _ ⟨I.ok,I.os,I.bare,⟨λb o e n hb hx=>?_,λb o e n hb hx=>?_,I.base.free,λb o e hx=>?_,I.base.tups,I.base.frzs,I.base.tbls⟩,⟨_,hn',λj y v' e1 e2 e3=>?_⟩,λy c e=>?_,I.free,I.freeC,λp hp=>?_,tracked ⟨oL,hoL,I.free⟩ hs,by simpa using I.len⟩ ⟨_,hs,.inl rfl⟩
  ·exact(hs.2 b (wN (wS (u9 e) I.ok.above))).trans (I.base.keep b o e n hb hx)
  ·obtain⟨sl,e1⟩:=I.base.slot b o e n hb hx;exact⟨sl,(hs.2 b (wN (wS (u9 e) I.ok.above))).trans e1⟩
  ·obtain⟨o',e1⟩:=I.base.there b o e hx;exact⟨o',(hs.2 b (wN (wS (u9 e) I.ok.above))).trans e1⟩
  ·by_cases hj:j=i
   ·subst hj;rw[hi]at e1;cases e1;rw[xI hiY]at e2;cases e2;exact⟨u,r,.inl ⟨hk,by simp⟩⟩
   ·rw[xU (Ne.symm hj)]at e2;obtain⟨u',r',q⟩:=hl j y v' e1 e2 e3;refine⟨u',r',?_⟩;rcases q with⟨k,e⟩|⟨k,c,e,z⟩
    ·refine .inl ⟨k,?_⟩;have:y≠x:=λe=>hj (znl hN e1 (e ▸ hi));simp[this,e]
    ·exact .inr ⟨k,c,e,z.sameBut hs (cne y c e)⟩
  ·obtain⟨w',z⟩:=I.cell y c e;exact⟨w',z.sameBut hs (cne y c e)⟩
  ·obtain⟨e,n,ne,nf,d⟩:=I.pin p hp;exact⟨(hs.2 p.1 ne).trans e,n,ne,nf,d⟩
 ·have hfn:X.fn x=true:=by
   rcases hf with z|z
   ·exact z
   ·rw[z]at hk;cases hk
  obtain⟨c,hc⟩:=I.ok.has x (.inl hk);obtain⟨w',z⟩:=I.cell x c hc;refine wpAny_storeName_cell I.ok.kind hk hc z (λh' hc' hs=>?_);obtain⟨oc,hoc,hocd⟩:=id z;refine h { s with heap:=h' } ⟨I.ok,I.os,I.bare,⟨λb o e n hb hx=>?_,λb o e n hb hx=>?_,I.base.free,λb o e hx=>?_,I.base.tups,I.base.frzs,I.base.tbls⟩,⟨m,hn.sameBut hs (Ne.symm (cne x c hc)),λj y v' e1 e2 e3=>?_⟩,λy c' e=>?_,I.free,I.freeC,λp hp=>?_,tracked ⟨oc,hoc,I.freeC x c hc⟩ hs,by simpa using I.len⟩ ⟨c,hs,.inr hc⟩
  ·exact(hs.2 b (wN (wS (u9 e) (I.ok.cab x c hfn hc)))).trans (I.base.keep b o e n hb hx)
  ·obtain⟨sl,e1⟩:=I.base.slot b o e n hb hx;exact⟨sl,(hs.2 b (wN (wS (u9 e) (I.ok.cab x c hfn hc)))).trans e1⟩
  ·obtain⟨o',e1⟩:=I.base.there b o e hx;exact⟨o',(hs.2 b (wN (wS (u9 e) (I.ok.cab x c hfn hc)))).trans e1⟩
  ·by_cases hj:j=i
   ·subst hj;rw[hi]at e1;cases e1;rw[xI hiY]at e2;cases e2;exact⟨u,r,.inr ⟨.inl hk,c,hc,hc'⟩⟩
   ·rw[xU (Ne.symm hj)]at e2;obtain⟨u',r',q⟩:=hl j y v' e1 e2 e3;refine⟨u',r',?_⟩;rcases q with q|⟨k,c',e,z'⟩
    ·exact .inl q
    ·refine .inr ⟨k,c',e,z'.sameBut hs ?_⟩;rintro rfl;exact hj (znl hN e1 (I.ok.inj _ _ _ e hc ▸ hi))
  ·by_cases hcc:c'=c
   ·subst hcc;exact⟨_,hc'⟩
   ·obtain⟨w2,z2⟩:=I.cell y c' e;exact⟨w2,z2.sameBut hs hcc⟩
  ·obtain⟨e,n,ne,nf,d⟩:=I.pin p hp;refine⟨(hs.2 p.1 ?_).trans e,n,ne,nf,d⟩;intro q;rw[q,hoc]at e;have q':oc=p.2:=wV.inj e;exact d w' (by rw[<- q'];exact hocd)
theorem zch{M:Model}{A:Around}{E:Value->Shared->Prop}{v:V}{Q:Unit->Shared->Prop}(I:Inv X pins Y H s)(hN:X.N.Nodup)(hi:X.N[i]?=some x)(hx:Loc X.env.scope x)(r:RelV v u)
  (h:∀s',Inv X pins (Y.set i (some v)) H s'->Q () s') (hf:X.fn x=true \/ X.env.scope.names.lookup x=some .local:=by walk_at"vi"):wpAny M A (storeName X.env x u) Q E s :=
 zwl I hN hi hx r (λs' I' _=>h s' I') hf
theorem Inv.call'{s':Shared}(I:Inv X pins Y H s)(ho:s'.os=s.os)(u:Un (frs X.stack) ch H H' s.heap s'.heap)(hok:HOk X.prog X.w H' s'.heap)(hg:AllBare s'.gens)
  (hch:∀b∈ch,(b∈X.ex \/ X.s₀.heap.objs.size<=b)/\b≠X.env.locals/\(∀x c,X.env.cells.lookup x=some c->c≠b)/\∀p∈X.pn++pins,p.1≠b):Inv X pins Y H' s':=by
 obtain⟨h',g',d',t',o'⟩:=s';have e:o'=s.os:=ho;subst e;exact I.call (g':=g') (t':=t') (d':=d') u hok hg hch
end
noncomputable abbrev XK:=Value->Option Addr->Hp->Prop
noncomputable abbrev St:=List (Option V)
noncomputable abbrev VK:=V->Hp->Prop
noncomputable abbrev TE:=St->Hp->VK->Prop
noncomputable abbrev TT:=St->Hp->(Bool->Hp->Prop)->Prop
noncomputable abbrev TA:=St->Hp->(List V->Hp->Prop)->Prop
structure Ends where
 nx:St->Hp->Prop
 rt:VK
 bk:St->Hp->Prop:=λ_ _=>False
 ct:St->Hp->Prop:=λ_ _=>False
noncomputable abbrev TS:=Ends->St->Hp->Prop
noncomputable def EP(X:Cx)(pins:List (Addr×Obj))(Y:St)(Q:VK)(u:Value)(s':Shared):Prop:=∃v H',Inv X pins Y H' s'/\RelV v u/\Q v H'
noncomputable def TP(X:Cx)(pins:List (Addr×Obj))(Y:St)(Q:Bool->Hp->Prop)(b:Bool)(s':Shared):Prop:=∃H',Inv X pins Y H' s'/\Q b H'
noncomputable def AP(X:Cx)(pins:List (Addr×Obj))(Y:St)(Q:List V->Hp->Prop)(us:List Value)(s':Shared):Prop:=∃vs H',Inv X pins Y H' s'/\Vals vs us/\Q vs H'
noncomputable def SP(X:Cx)(pins:List (Addr×Obj))(D:Ends)(f:Flow)(s':Shared):Prop :=
 match f with
|.next=>∃Y' H',Inv X pins Y' H' s'/\D.nx Y' H'
|.brk=>∃Y' H',Inv X pins Y' H' s'/\D.bk Y' H'
|.cont=>∃Y' H',Inv X pins Y' H' s'/\D.ct Y' H'
|.ret u=>∃v Y' H',Inv X pins Y' H' s'/\RelV v u/\D.rt v H'
noncomputable def PE(X:Cx)(e:Expr)(t:TE):Prop :=
 ∀(pins:List (Addr×Obj))(s:Shared)(Y:St)(H:Hp)(Q:VK),Inv X pins Y H s->t Y H Q->wpAny (model X.prog X.w) X.A (eval e X.env) (EP X pins Y Q) X.xe s
noncomputable def PT(X:Cx)(e:Expr)(t:TT):Prop :=
 ∀(pins:List (Addr×Obj))(s:Shared)(Y:St)(H:Hp)(Q:Bool->Hp->Prop),Inv X pins Y H s->t Y H Q->wpAny (model X.prog X.w) X.A (isTrue e X.env (eval e X.env)) (TP X pins Y Q) X.xe s
noncomputable def PW(X:Cx)(e:Expr)(t:TT):Prop :=
 ∀(whole:Sem Value)(pins:List (Addr×Obj))(s:Shared)(Y:St)(H:Hp)(Q:Bool->Hp->Prop),Inv X pins Y H s->t Y H Q->wpAny (model X.prog X.w) X.A (isTrue e X.env whole) (TP X pins Y Q) X.xe s
theorem PW.pt{X:Cx}{e:Expr}{t:TT}(h:PW X e t):PT X e t:=h _
noncomputable def PA(X:Cx)(es:List Expr)(t:TA):Prop :=
 ∀(pos:Pos)(pins:List (Addr×Obj))(s:Shared)(Y:St)(H:Hp)(Q:List V->Hp->Prop),Inv X pins Y H s->t Y H Q->wpAny (model X.prog X.w) X.A (spliced (backTo pos (starEach es X.env))) (AP X pins Y Q) X.xe s
noncomputable def PS(X:Cx)(st:Stmt)(t:TS):Prop :=
 ∀(pins:List (Addr×Obj))(s:Shared)(Y:St)(H:Hp)(D:Ends),Inv X pins Y H s->t D Y H->wpAny (model X.prog X.w) X.A (exec st X.env) (SP X pins D) X.xe s
noncomputable def PSs(X:Cx)(st:List Stmt)(t:TS):Prop :=
 ∀(pins:List (Addr×Obj))(s:Shared)(Y:St)(H:Hp)(D:Ends),Inv X pins Y H s->t D Y H->wpAny (model X.prog X.w) X.A (execs st X.env) (SP X pins D) X.xe s
theorem thn{α:Type}{t:Sem α}{Q Q':α->Shared->Prop}(h:wpAny M A t Q E s)(hQ:∀a s,Q a s->Q' a s):wpAny M A t Q' E s:=wpAny_mono h hQ λ_ _ x=>x
section
variable {X:Cx}
noncomputable def tVar(i:Nat):TE:=λY H Q=>∃v,Y[i]?=some (some v)/\Q v H
noncomputable def tC(v:V):TE:=λ_ H Q=>Q v H
theorem zea1{pos:Pos}(hN:X.N[i]?=some x)(hv:Vis X.env.scope x)(hd:(x == ("__debug__":Str))=false:=by decide)(hcd:(x == ("__classdict__":Str))=false:=by decide):PE X (.Name x pos) (tVar i):=by
 intro pins s Y H Q I h;obtain⟨v,e,h⟩:=h;obtain⟨m,hn,hl⟩:=I.loc;obtain⟨u,r,l⟩:=hl i x v hN e hv;have fin:EP X pins Y Q u s:=⟨v,H,I,r,h⟩
 rcases l with⟨hk,hm⟩|⟨hk,c,hc,hcell⟩
 ·exact wpAny_Name (wpAny_loadName_local I.ok.kind hk hn hm fin) hd
 ·rcases hk with hk|hk
  ·exact wpAny_Name (wpAny_loadName_cell I.ok.kind hk hc hcell fin) hd
  ·exact wpAny_Name (wpAny_loadName_free I.ok.kind hk hc hcell fin hcd) hd
theorem zc0{i j pos}:PE X (.Constant (.int i) j pos) (tC (.int i)):=λ_ _ _ H _ I h=>wpAny_Constant_int ⟨.int i,H,I.tok _,⟨_,rfl⟩,h⟩
theorem zpj{b j pos}:PE X (.Constant (.bool b) j pos) (tC (.bl b)):=λ_ _ _ H _ I h=>Constant_bool ⟨.bl b,H,I,rfl,h⟩
theorem zdj{x j pos}:PE X (.Constant (.str x) j pos) (tC (.str x)):=λ_ _ _ H _ I h=>Calls.Constant_str ⟨.str x,H,I.tok _,⟨_,rfl⟩,h⟩
noncomputable def Gl(X:Cx)(x:Str):Prop:=X.env.kindOf x=some .globalImplicit
theorem zng{E:Value->Shared->Prop}{Y:St}{H:Hp}{pos:Pos}{Q:Value->Shared->Prop}(I:Inv X pins Y H s)(hg:Gl X x)(hm:X.mg x=some u)(h:Q u s)
  (hd:(x == ("__debug__":Str))=false:=by decide):wpAny (model X.prog X.w) X.A (eval (.Name x pos) X.env) Q E s :=
 Calls.Name_function_global I.ok.kind hg (Calls.loadGlobal_global (by rw[I.ok.glob];exact I.mod.glob.keeps I.bk) hm h) hd
theorem zuk{E:Value->Shared->Prop}{Y:St}{H:Hp}{pos:Pos}{Q:Value->Shared->Prop}(I:Inv X pins Y H s)(hg:Gl X x)(hm:X.mg x=none)(hv:bootBuiltins x=some u)(h:Q u s)
  (hn:x ≠ "__name__":=by decide) (hd:(x == ("__debug__":Str))=false:=by decide):wpAny (model X.prog X.w) X.A (eval (.Name x pos) X.env) Q E s:=by
 obtain⟨mb,h1,h2⟩:=I.mod.blt;exact Calls.Name_function_global I.ok.kind hg (Calls.loadGlobal_builtin (by rw[I.ok.glob];exact I.mod.glob.keeps I.bk) hm (by rw[I.ok.blt];exact h1.keeps I.bk) ((h2 x hn).trans hv) h) hd
theorem zyb{v:V}{pos:Pos}(hg:Gl X x)(hm:X.mg x=some u)(r:RelV v u)(hd:(x == ("__debug__":Str))=false:=by decide):PE X (.Name x pos) (tC v) :=
 λ_ _ _ H _ I h=>zng I hg hm ⟨v,H,I,r,h⟩ hd
theorem ztf{v:V}{pos:Pos}(hg:Gl X x)(hm:X.mg x=none)(hv:bootBuiltins x=some u)(r:RelV v u)(hn:x ≠ "__name__":=by decide)(hd:(x == ("__debug__":Str))=false:=by decide):PE X (.Name x pos) (tC v) :=
 λ_ _ _ H _ I h=>zuk I hg hm hv ⟨v,H,I,r,h⟩ hn hd
variable {a b:Expr}{ta tb:TE}{pos:Pos}
variable {tA tB':TT}{rest:List Expr}
noncomputable def tAnd(t u:TT):TT:=λY H Q=>t Y H λc H1=>if c=true then u Y H1 Q else Q false H1
noncomputable def tOr(t u:TT):TT:=λY H Q=>t Y H λc H1=>if c=true then Q true H1 else u Y H1 Q
noncomputable def tNot(t:TT):TT:=λY H Q=>t Y H λc H1=>Q (!c) H1
theorem zvf(ha:PT X a tA):PW X (.BoolOp .And [a] pos) tA:=by
 intro wh pins s Y H Q I h;refine isTrue_and (thn (ha pins s Y H Q I h) λc s1 e=>?_);cases c with
|true=>exact isTrue_and_nil e
|false=>exact e
theorem zbu(ha:PT X a tA):PW X (.BoolOp .Or [a] pos) tA:=by
 intro wh pins s Y H Q I h;refine isTrue_or (thn (ha pins s Y H Q I h) λc s1 e=>?_);cases c with
|false=>exact isTrue_or_nil e
|true=>exact e
theorem zvn(ha:PT X a tA)(hb:PW X (.BoolOp .And (b :: rest) pos) tB'):PW X (.BoolOp .And (a :: b :: rest) pos) (tAnd tA tB'):=by
 intro wh pins s Y H Q I h;refine isTrue_and (thn (ha pins s Y H _ I h) λc s1 hz=>?_);obtain⟨H1,I1,q1⟩:=hz;cases c with
|true=>exact hb wh pins s1 Y H1 Q I1 q1
|false=>exact⟨H1,I1,q1⟩
theorem zp81(ha:PT X a tA)(hb:PW X (.BoolOp .Or (b :: rest) pos) tB'):PW X (.BoolOp .Or (a :: b :: rest) pos) (tOr tA tB'):=by
 intro wh pins s Y H Q I h;refine isTrue_or (thn (ha pins s Y H _ I h) λc s1 hz=>?_);obtain⟨H1,I1,q1⟩:=hz;cases c with
|true=>exact⟨H1,I1,q1⟩
|false=>exact hb wh pins s1 Y H1 Q I1 q1
theorem zka(ha:PT X a tA):PT X (.UnaryOp .Not a pos) (tNot tA):=by
 intro pins s Y H Q I h;exact isTrue_not (ha pins s Y H (λc H1=>Q (!c) H1) I h)
noncomputable def zje1(ta tb:TE):TE:=λY H Q=>ta Y H λx H1=>∃c,x=.bl c/\if c=true then tb Y H1 Q else Q (.bl false) H1
noncomputable def zp51(ta:TE):TE:=λY H Q=>ta Y H λx H1=>∃c,x=.bl c/\Q (.bl (!c)) H1
theorem znb1{op}{t:TE}(h:PE X a t):PE X (.BoolOp op [a] pos) t:=λpins s Y H Q I hw=>BoolOp_one (h pins s Y H Q I hw)
theorem zt41(ha:PE X a ta)(hb:PE X (.BoolOp .And (b :: rest) pos) tb):PE X (.BoolOp .And (a :: b :: rest) pos) (zje1 ta tb):=by
 intro pins s Y H Q I h;refine BoolOp_and (thn (ha pins s Y H _ I h) λv s1 hz=>?_);obtain⟨x,H1,I1,r1,q1⟩:=hz;obtain⟨c,rfl,q1⟩:=q1;cases r1;refine wpAny_truthy_bool ?_;cases c with
|true=>exact hb pins s1 Y H1 Q I1 q1
|false=>exact⟨.bl false,H1,I1,rfl,q1⟩
theorem zg41(ha:PE X a ta):PE X (.UnaryOp .Not a pos) (zp51 ta):=by
 intro pins s Y H Q I h;refine UnaryOp_ (thn (ha pins s Y H _ I h) λv s1 hz=>?_);obtain⟨x,H1,I1,r1,q1⟩:=hz;obtain⟨c,rfl,q1⟩:=q1;cases r1;exact not_of (wpAny_truthy_bool ⟨.bl (!c),H1,I1,rfl,q1⟩)
noncomputable def tIf(t:TT)(ta tb:TE):TE:=λY H Q=>t Y H λc H1=>if c=true then ta Y H1 Q else tb Y H1 Q
theorem zbq{c:Expr}(hc:PT X c tA)(ha:PE X a ta)(hb:PE X b tb):PE X (.IfExp c a b pos) (tIf tA ta tb):=by
 intro pins s Y H Q I h;refine wpAny_IfExp (thn (hc pins s Y H _ I h) λd s1 hz=>?_);obtain⟨H1,I1,q1⟩:=hz;cases d with
|true=>exact ha pins s1 Y H1 Q I1 q1
|false=>exact hb pins s1 Y H1 Q I1 q1
end
noncomputable def SqL(K:Fg)(H:Hp)(a:Addr)(xs:List V):Prop :=
 Rd H a (.lst xs) \/
  ∃(o:Obj)(its:Array Value)(n:Nat),K.lookup a=some o/\o.cls=.type "list"/\o.dict=none/\o.data=.seq its n/\its.size<=sizeLine/\Vals xs its.toList
noncomputable def SqT(K:Fg)(H:Hp)(a:Addr)(xs:List V):Prop :=
 Rd H a (.tup xs) \/
  ∃(o:Obj)(its:Array Value)(n:Nat),K.lookup a=some o/\o.cls=.type "tuple"/\o.data=.seq its n/\its.size<=sizeLine/\Vals xs its.toList
noncomputable def absV:Value->Option V
|.none=>some .non
|.bool b=>some (.bl b)
|.int i _=>some (.int i)
|.str x _=>some (.str x)
|.bytes b _=>some (.byt b)
|.float b _=>some (.flt b)
|.ref a=>some (.ref a)
|.type n=>some (.ty n)
|_=>none
theorem RelV.abs{x:V}(r:RelV x u):absV u=some x:=by
 cases x with
|non=>cases r;rfl
|bl _=>cases r;rfl
|int _=>obtain⟨t,rfl⟩:=r;rfl
|str _=>obtain⟨t,rfl⟩:=r;rfl
|byt _=>obtain⟨t,rfl⟩:=r;rfl
|flt _=>obtain⟨t,rfl⟩:=r;rfl
|ref _=>cases r;rfl
|ty _=>cases r;rfl
theorem RelV.inj{x y:V}{u:Value}(r:RelV x u)(q:RelV y u):x=y:=wV.inj (r.abs.symm.trans q.abs)
theorem Vals.inj:∀{xs ys:List V}{us:List Value},Vals xs us->Vals ys us->xs=ys
|_,_,_,.nil,.nil=>rfl
|_,_,_,.cons r t,.cons r' t'=>by rw[r.inj r',Vals.inj t t']
section
variable {X:Cx}{pins:List (Addr×Obj)}{Y:St}{H:Hp}{s:Shared}{a:Addr}{xs ys:List V}
theorem SqL.of(h:H a=some (.lst xs)):SqL K H a xs:=.inl (.inl h)
theorem SqT.of(h:H a=some (.tup xs)):SqT K H a xs:=.inl (.inl h)
theorem Inv.list(I:Inv X pins Y H s)(h:SqL X.K H a xs):∃its:List Value,Vals xs its/\PlainL s.heap a its.toArray/\xs.length<=sizeLine:=by
 rcases h with h|⟨o,its,n,hk,hc,hd,hs,hz,r⟩
 ·obtain⟨z,its,n,r,e⟩:=h.ok I.hok;exact⟨its,r,⟨_,n,e,rfl,rfl,rfl⟩,z⟩
 ·refine⟨its.toList,r,⟨o,n,I.kIn a o hk,hc,hd,by simpa using hs⟩,?_⟩;have e:=r.length;simp only[xJ]at e;lia
theorem Inv.tuple(I:Inv X pins Y H s)(h:SqT X.K H a xs):∃its:List Value,Vals xs its/\IsTup s.heap a its.toArray/\xs.length<=sizeLine:=by
 rcases h with h|⟨o,its,n,hk,hc,hs,hz,r⟩
 ·obtain⟨z,its,r,p⟩:=h.ok I.hok;exact⟨its,r,p,z⟩
 ·refine⟨its.toList,r,⟨o,I.kIn a o hk,hc,n,by simpa using hs⟩,?_⟩;have e:=r.length;simp only[xJ]at e;lia
theorem Inv.list_inj(I:Inv X pins Y H s)(h:SqL X.K H a xs)(h':SqL X.K H a ys):xs=ys:=by
 obtain⟨its,r,⟨o,n,e,_,_,d⟩,_⟩:=I.list h;obtain⟨its',r',⟨o',n',e',_,_,d'⟩,_⟩:=I.list h';rw[e]at e';cases e';rw[d]at d';injection d' with d1 _;have:its=its':=by simpa using congrArg zO d1
 subst this;exact r.inj r'
theorem Inv.tuple_inj(I:Inv X pins Y H s)(h:SqT X.K H a xs)(h':SqT X.K H a ys):xs=ys:=by
 obtain⟨its,r,⟨o,e,_,n,d⟩,_⟩:=I.tuple h;obtain⟨its',r',⟨o',e',_,n',d'⟩,_⟩:=I.tuple h';rw[e]at e';cases e';rw[d]at d';injection d' with d1 _;have:its=its':=by simpa using congrArg zO d1
 subst this;exact r.inj r'
end
noncomputable abbrev Cx.wish(X:Cx)(E:Value->Shared->Prop):Cx:={ X with xe:=E }
noncomputable abbrev Cx.nox(X:Cx):Cx:=X.wish λ_ _=>False
theorem Cx.Ok.wish{X:Cx}(ok:X.Ok)(E:Value->Shared->Prop):(X.wish E).Ok :=
 ⟨ok.mod,ok.kind,ok.glob,ok.blt,ok.above,ok.inj,ok.has,ok.cab,ok.hd,ok.frames,ok.stk,ok.exf,ok.bs,ok.bsz,ok.noex,ok.exfs,ok.funs,ok.frf⟩
theorem Cx.Ok.unwish{X:Cx}(ok:(X.wish E).Ok):X.Ok :=
 ⟨ok.mod,ok.kind,ok.glob,ok.blt,ok.above,ok.inj,ok.has,ok.cab,ok.hd,ok.frames,ok.stk,ok.exf,ok.bs,ok.bsz,ok.noex,ok.exfs,ok.funs,ok.frf⟩
section
variable {X:Cx}{pins:List (Addr×Obj)}{Y:St}{H:Hp}{s:Shared}{E:Value->Shared->Prop}
theorem Inv.wish(I:Inv X pins Y H s)(E:Value->Shared->Prop):Inv (X.wish E) pins Y H s:=⟨I.ok.wish E,I.os,I.bare,I.base,I.loc,I.cell,I.free,I.freeC,I.pin,I.hok,I.len⟩
theorem Inv.unwish(I:Inv (X.wish E) pins Y H s):Inv X pins Y H s:=⟨I.ok.unwish,I.os,I.bare,I.base,I.loc,I.cell,I.free,I.freeC,I.pin,I.hok,I.len⟩
theorem SP.unwish{D:Ends}{f:Flow}{s':Shared}(h:SP (X.wish E) pins D f s'):SP X pins D f s':=by
 cases f with
|next=>obtain⟨Y',H',I,q⟩:=h;exact⟨Y',H',I.unwish,q⟩
|brk=>obtain⟨Y',H',I,q⟩:=h;exact⟨Y',H',I.unwish,q⟩
|cont=>obtain⟨Y',H',I,q⟩:=h;exact⟨Y',H',I.unwish,q⟩
|ret u=>obtain⟨v,Y',H',I,r,q⟩:=h;exact⟨v,Y',H',I.unwish,r,q⟩
theorem PSs.nox{st:List Stmt}{t:TS}(h:PSs X.nox st t):PSs X st t:=λpins s Y H D I hw =>
 wpAny_mono (h pins s Y H D (I.wish _) hw) (λ_ _ q=>q.unwish) λ_ _ z=>False.elim z
end
section
variable {X:Cx}{st:Stmt}{rest:List Stmt}{t u:TS}{e:Expr}{te:TE}{pos:Pos}
noncomputable def zud1:TS:=λD Y H=>D.nx Y H
noncomputable def tSeq(t u:TS):TS:=λD Y H=>t { D with nx:=u D } Y H
theorem zx0:PSs X [] zud1:=λ_ _ Y H _ I h=>wpAny_execs_nil ⟨Y,H,I,h⟩
theorem zd0(h1:PS X st t)(h2:PSs X rest u):PSs X (st :: rest) (tSeq t u):=by
 intro pins s Y H D I h;refine wpAny_execs_cons (thn (h1 pins s Y H { D with nx:=u D } I h) λf s1 q=>?_);cases f with
|next =>
  obtain⟨Y',H',I',q⟩:=q;exact h2 pins s1 Y' H' D I' q
|ret v=>exact q
|brk=>exact q
|cont=>exact q
theorem zi0(h1:PS X st t):PSs X [st] t:=by
 intro pins s Y H D I h;refine wpAny_execs_cons (thn (h1 pins s Y H D I h) λf s1 q=>?_);cases f with
|next=>exact wpAny_execs_nil q
|ret v=>exact q
|brk=>exact q
|cont=>exact q
noncomputable def zef1:TS:=λD Y H=>D.ct Y H
theorem znn:PS X (.Continue pos) zef1:=λ_ _ Y H _ I h=>wpAny_Continue ⟨Y,H,I,h⟩
theorem Inv.quiet{Y:St}{H:Hp}(I:Inv X pins Y H s):interactive X.env=false:=by simp[interactive,I.ok.kind]
noncomputable def zx81(te:TE):TS:=λD Y H=>te Y H λ_ H1=>D.nx Y H1
theorem zl8(he:PE X e te)(hs:swapsWith e none pos.line X.env=pure false:=by rfl):PS X (.Expr e pos) (zx81 te):=by
 intro pins s Y H D I h;exact wpAny_Expr_any (thn (he pins s Y H _ I h) λv s1 ⟨x,H1,I1,r1,q1⟩=>⟨Y,H1,I1,q1⟩) I.quiet hs
noncomputable def tRet(te:TE):TS:=λD Y H=>te Y H D.rt
theorem ze1(he:PE X e te):PS X (.Return (some e) pos) (tRet te):=by
 intro pins s Y H D I h;exact wpAny_Return_some (thn (he pins s Y H _ I h) λv s1 ⟨x,H1,I1,r1,q1⟩=>⟨x,Y,H1,I1,r1,q1⟩)
noncomputable def tIfS(c:TT)(t u:TS):TS:=λD Y H=>c Y H λb H1=>if b=true then t D Y H1 else u D Y H1
theorem zf4{c:Expr}{a b:List Stmt}{tc:TT}(hc:PT X c tc)(ha:PSs X a t)(hb:PSs X b u):PS X (.If c a b pos) (tIfS tc t u):=by
 intro pins s Y H D I h;refine wpAny_If (thn (hc pins s Y H _ I h) λd s1 hz=>?_);obtain⟨H1,I1,q1⟩:=hz;cases d with
|true=>exact ha pins s1 Y H1 D I1 q1
|false=>exact hb pins s1 Y H1 D I1 q1
end
noncomputable abbrev TG:=V->St->Hp->(St->Hp->Prop)->Prop
noncomputable abbrev TGs:=List V->St->Hp->(St->Hp->Prop)->Prop
noncomputable def PG(X:Cx)(target:Expr)(t:TG):Prop :=
 ∀(pins:List (Addr×Obj))(s:Shared)(Y:St)(H:Hp)(v:V)(u:Value)(Q:St->Hp->Prop),Inv X pins Y H s->RelV v u->t v Y H Q ->
  wpAny (model X.prog X.w) X.A (assign target X.env u) (λ_ s'=>∃Y' H',Inv X pins Y' H' s'/\Q Y' H') X.xe s
noncomputable def PGs(X:Cx)(ts:List Expr)(t:TGs):Prop :=
 ∀(pins:List (Addr×Obj))(s:Shared)(Y:St)(H:Hp)(vs:List V)(us:List Value)(Q:St->Hp->Prop),Inv X pins Y H s->Vals vs us->t vs Y H Q ->
  wpAny (model X.prog X.w) X.A (assignInOrder ((assignEach ts X.env).map (·.2)) us) (λ_ s'=>∃Y' H',Inv X pins Y' H' s'/\Q Y' H') X.xe s
noncomputable abbrev TSet:=V->V->V->Hp->(Hp->Prop)->Prop
noncomputable def PSet(X:Cx)(t:TSet):Prop :=
 ∀(pins:List (Addr×Obj))(s:Shared)(Y:St)(H:Hp)(o i v:V)(ov iv u:Value)(Q:Hp->Prop),Inv X pins Y H s->RelV o ov->RelV i iv->RelV v u->t o i v H Q ->
  wpAny (model X.prog X.w) X.A (setItem ov iv u) (λ_ s'=>∃H',Inv X pins Y H' s'/\Q H') X.xe s
noncomputable abbrev TIp:=V->V->Hp->VK->Prop
noncomputable def PIp(X:Cx)(op:Operator)(t:TIp):Prop :=
 ∀(pins:List (Addr×Obj))(s:Shared)(Y:St)(H:Hp)(x y:V)(v u:Value)(Q:VK),Inv X pins Y H s->RelV x v->RelV y u->t x y H Q ->
  wpAny (model X.prog X.w) X.A (inplaceOp op v u) (EP X pins Y Q) X.xe s
section
variable {X:Cx}{pos:Pos}
noncomputable def zih(i:Nat):TG:=λv Y H Q=>Q (Y.set i (some v)) H
theorem zb31(hN:X.N.Nodup)(hi:X.N[i]?=some x)(hx:Loc X.env.scope x)(hf:X.fn x=true \/ X.env.scope.names.lookup x=some .local:=by walk_at"vi"):PG X (.Name x pos) (zih i):=by
 intro pins s Y H v u Q I r h;exact wpAny_assign_Name (zch I hN hi hx r (λs' I'=>⟨_,H,I',h⟩) hf)
noncomputable def gNil:TGs:=λvs Y H Q=>vs=[]/\Q Y H
noncomputable def zv81(t:TG)(u:TGs):TGs:=λvs Y H Q=>∃v r,vs=v :: r/\t v Y H λY' H'=>u r Y' H' Q
theorem zwe:PGs X [] gNil:=by
 intro pins s Y H vs us Q I r h;obtain⟨e,h⟩:=h;subst e;cases r;exact assignInOrder_nil ⟨Y,H,I,h⟩
theorem ze2{e:Expr}{t:TG}{u:TGs}(h1:PG X e t)(h2:PGs X es u)
  (hs:(assignEach (e :: es) X.env).map (·.2)=assign e X.env :: (assignEach es X.env).map (·.2):=by rfl):PGs X (e :: es) (zv81 t u):=by
 intro pins s Y H vs us Q I r h;obtain⟨v,vr,e1,h⟩:=h;subst e1;cases r with
|cons r rr =>
  rw[hs];refine assignInOrder_cons (thn (h1 pins s Y H _ _ _ I r h) λ_ s1 hz=>?_);obtain⟨Y1,H1,I1,q1⟩:=hz;exact h2 pins s1 Y1 H1 _ _ Q I1 rr q1
noncomputable def gTup(K:Fg)(n:Nat)(t:TGs):TG:=λv Y H Q=>∃a xs,v=.ref a/\SqT K H a xs/\xs.length=n/\t xs Y H Q
theorem zha1{k:Nat}{t:TGs}(hc:X.calm=true)(h:PGs X es t)
  (hn:(assignEach es X.env).length=n:=by rfl) (hst:(assignEach es X.env).findIdx? (·.1)=none:=by rfl):PG X (.Tuple es k pos) (gTup X.K n t):=by
 intro pins s Y H v u Q I r hw;obtain⟨a,xs,e1,hq,hl,hw⟩:=hw;subst e1;cases r;obtain⟨its,rv,ht,hz⟩:=I.tuple hq;refine assign_Tuple_tuple (I.ok.hd hc) ht (by simp[hn,<- hl,rv.length]) hst λh' hx=>?_;have I1:Inv X pins Y H { s with heap:=h' }:=I.kept (t':=s.toks) λb o e=>hx b o (wN (u9 e)) e;exact h pins _ Y H xs _ Q I1 (by simpa using rv) hw
noncomputable def gSub(to ti:TE)(t:TSet):TG:=λv Y H Q=>to Y H λo H1=>ti Y H1 λi H2=>t o i v H2 λH3=>Q Y H3
theorem zei{o i:Expr}{to ti:TE}{t:TSet}(ho:PE X o to)(hi:PE X i ti)(hs:PSet X t)
  (ha:∀v,assign (.Subscript o i pos) X.env v=(do
   let ov <- holding [v] (eval o X.env)
   let iv <- holding [v,ov] (eval i X.env)
   standAt pos
   holding [v,ov,iv] (setItem ov iv v)
   release [v,ov,iv] []):=by intro _;rfl):PG X (.Subscript o i pos) (gSub to ti t):=by
 intro pins s Y H v u Q I r h;rw[ha];refine wpAny_bind (wpAny_holding (thn (ho pins s Y H _ I h) λov s1 hz=>?_));obtain⟨x,H1,I1,r1,q1⟩:=hz;refine wpAny_bind (wpAny_holding (thn (hi pins s1 Y H1 _ I1 q1) λiv s2 hz=>?_));obtain⟨y,H2,I2,r2,q2⟩:=hz;refine wpAny_bind (wpAny_standAt (wpAny_bind (wpAny_holding (thn (hs pins s2 Y H2 x y v ov iv u _ I2 r1 r2 r q2) λ_ s3 hz=>?_))));obtain⟨H3,I3,q3⟩:=hz;exact wpAny_release ⟨Y,H3,I3,q3⟩
noncomputable def tAsg(te:TE)(g:TG):TS:=λD Y H=>te Y H λx H1=>g x Y H1 D.nx
theorem zxh{e:Expr}{te:TE}{g:TG}(he:PE X e te)(hg:PG X tg g)(hs:swapsWithSole [tg] e pos.line X.env=pure false:=by rfl)(hw:swappedStores [tg] e X.env=pure none:=by rfl)
  (h1:(assignEach [tg] X.env).map (·.2)=[assign tg X.env]:=by rfl):PS X (.Assign [tg] e pos) (tAsg te g):=by
 intro pins s Y H D I h;refine wpAny_Assign_stores (thn (he pins s Y H _ I h) λv s1 hz=>?_) hs hw;obtain⟨x,H1,I1,r1,q1⟩:=hz;rw[h1];exact thn (hg pins s1 Y H1 x v _ I1 r1 q1) λ_ s2 q=>q
theorem zcd1{e:Expr}{te:TE}{pos':Pos}(hN:X.N.Nodup)(hi:X.N[i]?=some x)(hx:Loc X.env.scope x)(he:PE X e te)(hs:swapsWith e (some (.Name x pos')) pos.line X.env=pure false:=by rfl)(hf:X.fn x=true \/ X.env.scope.names.lookup x=some .local:=by walk_at"vi") :
  PS X (.Assign [.Name x pos'] e pos) (tAsg te (zih i)):=by
 intro pins s Y H D I h;refine wpAny_Assign_Name (thn (he pins s Y H _ I h) λv s1 hz=>?_) hs;obtain⟨y,H1,I1,r1,q1⟩:=hz;exact zch I1 hN hi hx r1 (λs2 I2=>⟨_,H1,I2,q1⟩) hf
noncomputable def zi91(to ti te:TE)(tget:V->V->Hp->VK->Prop)(tip:TIp)(tset:TSet):TS:=λD Y H=>to Y H λo H1=>ti Y H1 λi H2=>tget o i H2 λx H3=>te Y H3 λy H4=>tip x y H4 λz H5=>tset o i z H5 λH6=>D.nx Y H6
noncomputable def PGet(X:Cx)(t:V->V->Hp->VK->Prop):Prop :=
 ∀(pins:List (Addr×Obj))(s:Shared)(Y:St)(H:Hp)(o i:V)(ov iv:Value)(Q:VK),Inv X pins Y H s->RelV o ov->RelV i iv->t o i H Q ->
  wpAny (model X.prog X.w) X.A (getItem ov iv) (EP X pins Y Q) X.xe s
theorem zwq{o i e:Expr}{to ti te:TE}{tget:V->V->Hp->VK->Prop}{tip:TIp}{tset:TSet}{op:Operator}{tpos:Pos}(ho:PE X o to)(hi:PE X i ti)(hg:PGet X tget)(he:PE X e te)(hp:PIp X op tip)(hs:PSet X tset)
  (ha:∀ov iv new,augStore i ov iv new=(do holding [new,ov,iv] (setItem ov iv new);release [new,ov,iv] [];pure .next):=by intros;rfl):PS X (.AugAssign (.Subscript o i tpos) op e pos) (zi91 to ti te tget tip tset):=by
 intro pins s Y H D I h;refine wpAny_AugAssign_SubscriptAny (thn (ho pins s Y H _ I h) λov s1 hz=>?_) ha;obtain⟨x1,H1,I1,r1,q1⟩:=hz;refine thn (hi pins s1 Y H1 _ I1 q1) λiv s2 hz=>?_;obtain⟨x2,H2,I2,r2,q2⟩:=hz;refine thn (hg pins s2 Y H2 x1 x2 ov iv _ I2 r1 r2 q2) λold s3 hz=>?_;obtain⟨x3,H3,I3,r3,q3⟩:=hz;refine thn (he pins s3 Y H3 _ I3 q3) λv s4 hz=>?_;obtain⟨x4,H4,I4,r4,q4⟩:=hz;refine thn (hp pins s4 Y H4 x3 x4 old v _ I4 r3 r4 q4) λnew s5 hz=>?_;obtain⟨x5,H5,I5,r5,q5⟩:=hz;exact thn (hs pins s5 Y H5 x1 x2 x5 ov iv new _ I5 r1 r2 r5 q5) λ_ s6 ⟨H6,I6,q6⟩=>⟨Y,H6,I6,q6⟩
noncomputable def ipI(f:Int->Int->Int):TIp:=λx y H Q=>∃i j,x=.int i/\y=.int j/\Q (.int (f i j)) H
theorem zh41:PIp X .Add (ipI λi j=>i+j):=by
 intro pins s Y H x y v u Q I r1 r2 h;obtain⟨i,j,e1,e2,q⟩:=h;subst e1;subst e2;obtain⟨t,rfl⟩:=r1;obtain⟨t',rfl⟩:=r2;exact iadd_int ⟨.int _,H,I.tok _,⟨_,rfl⟩,q⟩
theorem znc1:PIp X .Sub (ipI λi j=>i - j):=by
 intro pins s Y H x y v u Q I r1 r2 h;obtain⟨i,j,e1,e2,q⟩:=h;subst e1;subst e2;obtain⟨t,rfl⟩:=r1;obtain⟨t',rfl⟩:=r2;exact isub_int ⟨.int _,H,I.tok _,⟨_,rfl⟩,q⟩
end
structure It where
 go:Nat->Hp->Prop
 yld:Nat->Hp->V->Hp->Prop
 stop:Nat->Hp->Prop
noncomputable def FpOk(X:Cx)(pins:List (Addr×Obj))(H:Hp)(b:Addr):Prop :=
 H b=none/\b≠X.env.locals/\b ∉ X.fs/\(b∈X.ex \/ X.s₀.heap.objs.size<=b)/\(∀x c,X.env.cells.lookup x=some c->c≠b)/\∀p∈X.pn++pins,p.1≠b
theorem Inv.fpOk{X:Cx}{Y:St}{H H':Hp}(I:Inv X pins Y H s)(hb:s.heap.objs.size<=b)(hn:H' b=none):FpOk X pins H' b:=by
 refine⟨hn,y6 (wS I.lt hb),I.nofs hb,.inr (wP I.sz hb),λx c e z=>?_,λp hp z=>?_⟩
 ·obtain⟨v,q⟩:=I.cell x c e;exact absurd (wS q.lt (by rw[z];exact hb)) (xA _)
 ·exact absurd (wS (u9 (I.pin p hp).1) (by rw[z];exact hb)) (xA _)
structure Turn(P:Program)(w:World)(K:Fg)(tg:Expr)(J:It)(fp:List Addr)(it:Addr)(tn:Nat->Heap->Prop):Prop where
 mem:it∈fp
 obj:∀i h,tn i h->∀b∈fp,∃o,h.get? b=some o/\∀v,o.data≠.cell v
 keep:∀i h h',tn i h->(∀b∈fp,∀o,h.get? b=some o->h'.get? b=some o)->tn i h'
 item:∀(X:Cx),X.prog=P->X.w=w->X.K=K->X.calm=true->∀(i:Nat)(pins:List (Addr×Obj))(s:Shared)(Y:St)(H:Hp)(E:Value->Shared->Prop),Inv X pins Y H s->(∀b∈fp,FpOk X pins H b)->tn i s.heap->J.go i H ->
  wpAny (model P w) X.A (pyNext (.ref it)) (λr s1=>∃u,r=some u /\
   wpAny (model P w) X.A (letOwnedTupleGo tg (.ref it) u) (λ_ s2=>∃x H',Inv X pins Y H' s2/\RelV x u/\J.yld i H x H'/\tn (i+1) s2.heap/\∀b∈fp,H' b=none) E s1) E s
 done:∀(X:Cx),X.prog=P->X.w=w->X.K=K->X.calm=true->∀(i:Nat)(pins:List (Addr×Obj))(s:Shared)(Y:St)(H:Hp)(E:Value->Shared->Prop),Inv X pins Y H s->(∀b∈fp,FpOk X pins H b)->tn i s.heap->J.stop i H ->
  wpAny (model P w) X.A (pyNext (.ref it)) (λr s1=>r=none/\Inv X pins Y H s1) E s
 self:∀(A:Around)(i:Nat)(s:Shared)(Q:Value->Shared->Prop)(E:Value->Shared->Prop),tn i s.heap->Q (.ref it) s->wpAny (model P w) A (pyIter (.ref it)) Q E s
noncomputable abbrev TI:=St->Hp->(It->Hp->Prop)->Prop
noncomputable def PIE(X:Cx)(pins:List (Addr×Obj))(Y:St)(tg:Expr)(R:It->Hp->Prop)(itv:Value)(s2:Shared):Prop :=
 ∃(it:Addr)(fp:List Addr)(tn:Nat->Heap->Prop)(J:It)(H':Hp),itv=.ref it/\Inv X pins Y H' s2/\Turn X.prog X.w X.K tg J fp it tn/\tn 0 s2.heap/\(∀b∈fp,FpOk X pins H' b)/\R J H'
noncomputable def PI(X:Cx)(tg iter:Expr)(wi:TI):Prop :=
 ∀(pins:List (Addr×Obj))(s:Shared)(Y:St)(H:Hp)(R:It->Hp->Prop),Inv X pins Y H s->wi Y H R ->
  wpAny (model X.prog X.w) X.A (eval iter X.env) (λv s1=>wpAny (model X.prog X.w) X.A (pyIter v) (PIE X pins Y tg R) X.xe s1) X.xe s
theorem ze91{E : Value → Shared → Prop}{n : String}{vs : Array Value}{Q : Unit → Shared → Prop}(ho : s.heap.get? it = some o)(hc : o.cls = .type n)(hd : o.data = .fields vs)
    (hn : ["enumerate", "zip", "dict_itemiterator", "dict_reverseitemiterator", "odict_iterator", "itertools.zip_longest", "itertools.pairwise"].contains n = false) (hQ : Q () s) : wpAny M A (letOwnedTupleGo tg (.ref it) u) Q E s := by
  unfold letOwnedTupleGo;cases tg <;> first
    | exact wpAny_pure hQ
    | (cases u <;> first
        | exact wpAny_pure hQ
        | (refine wpAny_bind (wpAny_load ho ?_)
           rw[hc, hd];show wpAny M A (if(["enumerate", "zip", "dict_itemiterator", "dict_reverseitemiterator", "odict_iterator", "itertools.zip_longest", "itertools.pairwise"].contains n && vs[0]? == some (rawInt _)) = true then _ else _) Q E s;rw[if_neg (by intro h; rw[hn, Bool.false_and]at h; cases h)];exact wpAny_pure hQ))
noncomputable def Itl(K:Fg)(a:Addr):It :=
 ⟨λi H=>∃xs x,SqL K H a xs/\xs[i]?=some x,λi H x H'=>H'=H/\∀xs,SqL K H a xs->xs[i]?=some x,λi H=>∃xs,SqL K H a xs/\xs.length<=i⟩
noncomputable def Itt(K:Fg)(a:Addr):It :=
 ⟨λi H=>∃xs x,SqT K H a xs/\xs[i]?=some x,λi H x H'=>H'=H/\∀xs,SqT K H a xs->xs[i]?=some x,λi H=>∃xs,SqT K H a xs/\xs.length<=i⟩
noncomputable def Itr(lo:Int)(n:Nat):It:=⟨λi _=>i < n,λi H x H'=>H'=H/\x=.int (lo+i),λi _=>n<=i⟩
theorem zvt{P:Program}(a it:Addr):Turn P w K tg (Itl K a) [it] it (λi h=>h.IsListIter it a i) where
 mem:=by simp
 obj:=λi h st b hb=>by
  have e:b=it:=by simpa using hb
  subst e;obtain⟨o,e,c,d⟩:=st;exact⟨o,e,λv z=>by rw[d]at z;cases z⟩
 keep:=λi h h' st k=>st.at λo e=>k it (by simp) o e
 item:=by
  intro X hP hw hK hc i pins s Y H E I hf st hg;subst hP hw hK;obtain⟨xs,x,hq,hx⟩:=hg;obtain⟨its,rv,p,hz⟩:=I.list hq;obtain⟨u,hu,ru⟩:=rv.get hx;obtain⟨f0,f1,f2,f3,f4,f5⟩:=hf it (by simp);refine wpAny_pyNext_list_item st p.isList (x:=u) (by simpa using hu) λh' st' sb=>?_;have I1:Inv X pins Y H { s with heap:=h' }:=I.turned (t':=s.toks) (λb o hb e=>(sb.2 b hb).trans e) f0 f1 f3 f4 f5;obtain⟨o,e,c,d⟩:=id st';exact⟨u,rfl,ze91 (s:={ s with heap:=h' }) e c d (by decide) ⟨x,H,I1,ru,⟨rfl,λys hy=>by rw[I.list_inj hy hq];exact hx⟩,st',λb hb=>(hf b hb).1⟩⟩
 done:=by
  intro X hP hw hK hc i pins s Y H E I hf st hg;subst hP hw hK;obtain⟨xs,hq,hx⟩:=hg;obtain⟨its,rv,p,hz⟩:=I.list hq;obtain⟨f0,f1,f2,f3,f4,f5⟩:=hf it (by simp);have hl:=rv.length;exact wpAny_pyNext_list_end (I.ok.hd hc) st p.isList (by simp;lia) λh' eb=>⟨rfl,I.turned (t':=s.toks) (λb o hb e=>eb b o hb e) f0 f1 f3 f4 f5⟩
 self:=λ_ _ _ _ _ st h=>wpAny_pyIter_listiter st h
theorem zep{P:Program}(a it:Addr):Turn P w K tg (Itt K a) [it] it (λi h=>h.IsTupleIter it a i) where
 mem:=by simp
 obj:=λi h st b hb=>by
  have e:b=it:=by simpa using hb
  subst e;obtain⟨o,e,c,d⟩:=st;exact⟨o,e,λv z=>by rw[d]at z;cases z⟩
 keep:=λi h h' st k=>st.at λo e=>k it (by simp) o e
 item:=by
  intro X hP hw hK hc i pins s Y H E I hf st hg;subst hP hw hK;obtain⟨xs,x,hq,hx⟩:=hg;obtain⟨its,rv,p,hz⟩:=I.tuple hq;obtain⟨u,hu,ru⟩:=rv.get hx;obtain⟨f0,f1,f2,f3,f4,f5⟩:=hf it (by simp);refine wpAny_pyNext_tuple_item st (show s.heap.IsTuple a its.toArray from p) (x:=u) (by simpa using hu) λh' st' sb=>?_;have I1:Inv X pins Y H { s with heap:=h' }:=I.turned (t':=s.toks) (λb o hb e=>(sb.2 b hb).trans e) f0 f1 f3 f4 f5;obtain⟨o,e,c,d⟩:=id st';exact⟨u,rfl,ze91 (s:={ s with heap:=h' }) e c d (by decide) ⟨x,H,I1,ru,⟨rfl,λys hy=>by rw[I.tuple_inj hy hq];exact hx⟩,st',λb hb=>(hf b hb).1⟩⟩
 done:=by
  intro X hP hw hK hc i pins s Y H E I hf st hg;subst hP hw hK;obtain⟨xs,hq,hx⟩:=hg;obtain⟨its,rv,p,hz⟩:=I.tuple hq;obtain⟨f0,f1,f2,f3,f4,f5⟩:=hf it (by simp);have hl:=rv.length;exact wpAny_pyNext_tuple_end (I.ok.hd hc) st (show s.heap.IsTuple a its.toArray from p) (by simp;lia) λh' eb=>⟨rfl,I.turned (t':=s.toks) (λb o hb e=>eb b o hb e) f0 f1 f3 f4 f5⟩
 self:=λ_ _ _ _ _ st h=>wpAny_pyIter_tupleiter st h
theorem zxo{P:Program}(it:Addr)(lo:Int)(n:Nat):Turn P w K tg (Itr lo n) [it] it (λi h=>IsRangeIter h it (lo+(i:Nat) * 1) ((n:Int) - (i:Nat)) 1) where
 mem:=by simp
 obj:=λi h st b hb=>by
  have e:b=it:=by simpa using hb
  subst e;exact⟨_,st,λv z=>by
   have z':Data.fields _=Data.cell v:=z;cases z'⟩
 keep:=λi h h' st k=>k it (by simp) _ st
 item:=by
  intro X hP hw hK hc i pins s Y H E I hf st hg;subst hP hw hK;obtain⟨f0,f1,f2,f3,f4,f5⟩:=hf it (by simp);have W:=Walks.range (prog:=X.prog) (w:=X.w) (I.ok.hd hc) it lo 1 n;refine W.item i s _ _ hg st λv h' tk hv st' kk=>?_;obtain⟨t,rfl⟩:=hv;have I1:Inv X pins Y H { s with heap:=h',toks:=tk }:=I.turned (λb o hb e=>kk b o (by simpa using hb) e) f0 f1 f3 f4 f5;refine⟨_,rfl,ze91 (s:={ s with heap:=h',toks:=tk }) (n := "range_iterator") st' rfl rfl (by decide) ⟨.int (lo+i),H,I1,⟨t,?_⟩,⟨rfl,rfl⟩,st',λb hb=>(hf b hb).1⟩⟩;rw[Int.mul_one]
 done:=by
  intro X hP hw hK hc i pins s Y H E I hf st hg;subst hP hw hK;obtain⟨f0,f1,f2,f3,f4,f5⟩:=hf it (by simp);exact wpAny_pyNext_range_end (I.ok.hd hc) st (by have:n<=i:=hg;lia) λh' eb=>⟨rfl,I.turned (t':=s.toks) (λb o hb e=>eb b o hb e) f0 f1 f3 f4 f5⟩
 self:=λ_ _ _ _ _ st h=>wpAny_pyIter_rangeiter st h
section
variable {X:Cx}{tg:Expr}
theorem zkz{Y:St}{H:Hp}{R:It->Hp->Prop}{lo hi:Int}{t u v:Tok}{tk:Nat}(I:Inv X pins Y H s)(h1:-(2 ^ 62)<=lo)(h2:lo < 2 ^ 62)(h3:-(2 ^ 62)<=hi)(h4:hi < 2 ^ 62)
  (q:R (Itr lo (hi - lo).toNat) H):wpAny (model X.prog X.w) X.A (pyIter (.ref s.heap.objs.size)) (PIE X pins Y tg R) E { s with heap:=s.heap.push { cls:=.type "range",data:=.fields #[.int lo t,.int hi u,.int 1 v] },toks:=tk }:=by
 refine wpAny_pyIter_range (IsRange.new ..) (small_one h1 h2 h3 h4) ?_;have I1:Inv X pins Y H { s with heap:=s.heap.push { cls:=.type "range",data:=.fields #[.int lo t,.int hi u,.int 1 v] },toks:=tk }:=I.kept λb o e=>u5 _ e;refine⟨(s.heap.push { cls:=.type "range",data:=.fields #[.int lo t,.int hi u,.int 1 v] }).objs.size,[(s.heap.push { cls:=.type "range",data:=.fields #[.int lo t,.int hi u,.int 1 v] }).objs.size],_,_,H,rfl,
  I1.kept (t':=tk) λb o e=>u5 _ e,zxo _ lo (hi - lo).toNat,?_,λb hb=>?_,q⟩
 ·have e1:lo+((0:Nat):Int) * 1=lo:=by simp
  have e2:(((hi - lo).toNat:Nat):Int) - ((0:Nat):Int)=Builtin.Range.rangeSize lo hi 1:=by rw[rangeSize_one];split <;> lia
  show IsRangeIter _ _ (lo+((0:Nat):Int) * 1) ((((hi - lo).toNat:Nat):Int) - ((0:Nat):Int)) 1;rw[e1,e2];exact wI _ rfl
 ·have e:b=(s.heap.push { cls:=.type "range",data:=.fields #[.int lo t,.int hi u,.int 1 v] }).objs.size:=by simpa using hb
  subst e;exact I1.fpOk (u3 _) (I1.hok.fresh (u3 _))
noncomputable def zse1(ta:TA):TI:=λY H R=>ta Y H λvs H1=>∃j:Int,vs=[.int j]/\-(2 ^ 62)<=j/\j < 2 ^ 62/\R (Itr 0 j.toNat) H1
theorem zv7{a:Expr}{ta:TA}{p pos:Pos}(hg:Gl X "range")(hm:X.mg "range"=none)(ha:PA X [a] ta)(hs:starEach [a] X.env=[(false,eval a X.env)]:=by rfl):PI X tg (.Call (.Name "range" p) [a] [] pos) (zse1 ta):=by
 intro pins s Y H R I h;refine Call_ (zuk I hg hm boot_range (PyProof.Rows.callWith_type1 (thn (ha pos pins s Y H _ I h) λus s1 hz=>?_) hs rfl));obtain⟨vs,H1,I1,r1,q1⟩:=hz;obtain⟨j,e,q1,q2,q⟩:=q1;subst e;cases r1 with
|cons r rr =>
  cases rr;obtain⟨t,rfl⟩:=r;exact call_range_1 (zkz I1 (by lia) (by lia) q1 q2 (by simpa using q))
noncomputable def tFor(wi:TI)(g:TG)(tb:TS):TS:=λD Y H=>wi Y H λJ H1=>∃W:Nat->Nat->St->Hp->Prop,(∃m,W 0 m Y H1)/\∀i m Y H,W i m Y H ->
 (J.stop i H/\D.nx Y H) \/ (J.go i H/\∃N:St->Hp->Prop,(∀Y' H',N Y' H'->∃m',m' < m/\W (i+1) m' Y' H')/\∀x H',J.yld i H x H'->g x Y H' λY2 H2=>tb { D with nx:=N,ct:=N,bk:=D.nx } Y2 H2)
noncomputable def zis(fp:List Addr)(h:Heap):List (Addr×Obj):=fp.filterMap λb=>(h.get? b).map λo=>(b,o)
theorem zrb{h:Heap}(hb:b∈fp)(e:h.get? b=some o):(b,o)∈zis fp h:=yU.mpr ⟨b,hb,by rw[e];rfl⟩
theorem zcu{h:Heap}{p:Addr×Obj}(hp:p∈zis fp h):p.1∈fp/\h.get? p.1=some p.2:=by
 obtain⟨b,hb,e⟩:=yU.mp hp;cases q:h.get? b with
|none=>rw[q]at e;cases e
|some o =>
  rw[q]at e;have e':(b,o)=p:=wV.inj e;subst e';exact⟨hb,q⟩
theorem Inv.pinned{Y:St}{H:Hp}(I:Inv X pins Y H s)(hf:∀b∈fp,FpOk X pins H b)(ho:∀b∈fp,∃o,s.heap.get? b=some o/\∀v,o.data≠.cell v):Inv X (pins++zis fp s.heap) Y H s :=
 I.pins_of λp hp=>(u6.mp hp).elim (λz=>I.pin p (xB _ z)) λz=>by
  obtain⟨hb,e⟩:=zcu z;obtain⟨f0,f1,f2,_⟩:=hf p.1 hb;obtain⟨o,e',d⟩:=ho p.1 hb;rw[e]at e';cases e';exact⟨e,f0,f1,f2,d⟩
theorem Inv.unpinned{pl:List (Addr×Obj)}{Y:St}{H:Hp}(I:Inv X (pins++pl) Y H s):Inv X pins Y H s:=I.pins_of λp hp=>I.pin p (xB _ (xN _ hp))
theorem zqh{iter:Expr}{wi:TI}{g:TG}{tb:TS}{pos:Pos}(hp:PassesOwn (model X.prog X.w) X.A X.env X.xe)(hc:X.calm=true)(hi:PI X tg iter wi)(hg:PG X tg g)(hb:PSs X body tb)
  (hs:∀x,foldedSetIterable iter X.env x=pure x:=by intro _;rfl):PS X (.For tg iter body [] pos) (tFor wi g tb):=by
 intro pins s Y H D I h;refine wpAny_For (thn (hi pins s Y H _ I h) λv s1 h1=>thn h1 λitv s2 h2=>?_) hs;obtain⟨it,fp,tn,J,H2,e,I2,T,st2,f2,W,⟨m0,w0⟩,turn⟩:=h2;subst e
 -- what stays true of the iterator's objects through the loop
 have stat:∀{H':Hp},(∀b∈fp,H' b=none)->∀b∈fp,FpOk X pins H' b:=λhn b hb=>⟨hn b hb,(f2 b hb).2⟩
 refine codeAny_forLoop_any (λn s'=>∃i Y' H',Inv X pins Y' H' s'/\tn i s'.heap/\(∀b∈fp,H' b=none)/\W i n Y' H') ?_ m0 ⟨0,Y,H2,I2,st2,λb hb=>(f2 b hb).1,w0⟩;rintro n s3 ⟨i,Y3,H3,I3,st3,fr3,w3⟩;rcases turn i n Y3 H3 w3 with⟨stop,qn⟩|⟨go,N,hN,step⟩
 ·refine wpAny_passesOwn hp (thn (T.done X rfl rfl rfl hc i pins s3 Y3 H3 X.xe I3 (stat fr3) st3 stop) λr s4 hz=>?_);obtain⟨hr,I4⟩:=hz;subst hr;exact wpAny_execs_nil ⟨Y3,H3,I4,qn⟩
 ·refine wpAny_passesOwn hp (thn (T.item X rfl rfl rfl hc i pins s3 Y3 H3 X.xe I3 (stat fr3) st3 go) λr s4 hz=>?_);obtain⟨u,hr,h4⟩:=hz;subst hr;refine wpAny_passesOwn hp (thn h4 λ_ s5 hz=>?_);obtain⟨x,H5,I5,r5,y5,st5,fr5⟩:=hz;have I5':=I5.pinned (stat fr5) (T.obj _ _ st5);refine wpAny_passesOwn hp (thn (hg _ s5 Y3 H5 x u _ I5' r5 (step x H5 y5)) λ_ s6 hz=>?_);obtain⟨Y6,H6,I6,q6⟩:=hz;refine wpAny_passesOwn hp (thn (hb _ s6 Y6 H6 _ I6 q6) λf s7 q7=>?_);have again:∀{Y7:St}{H7:Hp},Inv X (pins++zis fp s5.heap) Y7 H7 s7->N Y7 H7->∃m,m < n/\∃i Y' H',Inv X pins Y' H' s7/\tn i s7.heap/\(∀b∈fp,H' b=none)/\W i m Y' H':=λ{Y7 H7} I7 n7=>by
   obtain⟨m',hm,w7⟩:=hN Y7 H7 n7;refine⟨m',hm,i+1,Y7,H7,I7.unpinned,T.keep _ _ _ st5 λb hb o e=>(I7.pin (b,o) (xB _ (xB _ (zrb hb e)))).1,λb hb=>?_,w7⟩;obtain⟨o,e,d⟩:=T.obj _ _ st5 b hb;exact(I7.pin (b,o) (xB _ (xB _ (zrb hb e)))).2.1
  cases f with
 |next=>obtain⟨Y7,H7,I7,n7⟩:=q7;exact again I7 n7
 |cont=>obtain⟨Y7,H7,I7,n7⟩:=q7;exact again I7 n7
 |brk=>obtain⟨Y7,H7,I7,q7⟩:=q7;exact⟨Y7,H7,I7.unpinned,q7⟩
 |ret v=>obtain⟨x7,Y7,H7,I7,r7,q7⟩:=q7;exact⟨x7,Y7,H7,I7.unpinned,r7,q7⟩
end
noncomputable abbrev R2:=V->V->Hp->VK->Prop
noncomputable def OpR(X:Cx)(f:Value->Value->Sem Value)(r:R2):Prop :=
 ∀(pins:List (Addr×Obj))(s:Shared)(Y:St)(H:Hp)(x y:V)(v u:Value)(Q:VK),Inv X pins Y H s->RelV x v->RelV y u->r x y H Q ->
  wpAny (model X.prog X.w) X.A (f v u) (EP X pins Y Q) X.xe s
noncomputable def UnR(X:Cx)(f:Value->Sem Value)(r:V->Hp->VK->Prop):Prop :=
 ∀(pins:List (Addr×Obj))(s:Shared)(Y:St)(H:Hp)(x:V)(v:Value)(Q:VK),Inv X pins Y H s->RelV x v->r x H Q ->
  wpAny (model X.prog X.w) X.A (f v) (EP X pins Y Q) X.xe s
noncomputable def CallR(X:Cx)(f:Value)(r:List V->Hp->VK->Prop):Prop :=
 ∀(pins:List (Addr×Obj))(s:Shared)(Y:St)(H:Hp)(xs:List V)(us:List Value)(Q:VK),Inv X pins Y H s->Vals xs us->r xs H Q ->
  wpAny (model X.prog X.w) X.A (call f us) (EP X pins Y Q) X.xe s
noncomputable def TruR(X:Cx)(r:V->Hp->(Bool->Hp->Prop)->Prop):Prop :=
 ∀(pins:List (Addr×Obj))(s:Shared)(Y:St)(H:Hp)(x:V)(v:Value)(Q:Bool->Hp->Prop),Inv X pins Y H s->RelV x v->r x H Q ->
  wpAny (model X.prog X.w) X.A (truthy v) (TP X pins Y Q) X.xe s
noncomputable def tOp(r:R2)(ta tb:TE):TE:=λY H Q=>ta Y H λx H1=>tb Y H1 λy H2=>r x y H2 Q
noncomputable def tUn(r:V->Hp->VK->Prop)(ta:TE):TE:=λY H Q=>ta Y H λx H1=>r x H1 Q
noncomputable def rI(C:Int->Int->Prop)(g:Int->Int->V):R2:=λx y H Q=>∃i j,x=.int i/\y=.int j/\C i j/\Q (g i j) H
noncomputable def rI0(g:Int->Int->V):R2:=λx y H Q=>∃i j,x=.int i/\y=.int j/\Q (g i j) H
noncomputable def rU(g:Int->V):V->Hp->VK->Prop:=λx H Q=>∃i,x=.int i/\Q (g i) H
section
variable {X:Cx}{a b c:Expr}{ta tb tc:TE}{pos:Pos}
theorem binT(ha:PE X a ta)(hb:PE X b tb){Y:St}{H:Hp}{R:V->V->Hp->Prop}(I:Inv X pins Y H s)
  (h:ta Y H λx H1=>tb Y H1 λy H2=>R x y H2) {Q:Value->Shared->Prop} 
  (hf:∀v u s2 x y H2,Inv X pins Y H2 s2->RelV x v->RelV y u->R x y H2->wpAny (model X.prog X.w) X.A (f v u) Q X.xe s2) :
  wpAny (model X.prog X.w) X.A (eval a X.env) (λv s₁=>wpAny (model X.prog X.w) X.A (eval b X.env) (λu s₂=>wpAny (model X.prog X.w) X.A (f v u) Q X.xe s₂) X.xe s₁) X.xe s:=by
 refine thn (ha pins s Y H _ I h) λv s1 hz=>?_;obtain⟨x,H1,I1,r1,q1⟩:=hz;refine thn (hb pins s1 Y H1 _ I1 q1) λu s2 hz=>?_;obtain⟨y,H2,I2,r2,q2⟩:=hz;exact hf v u s2 x y H2 I2 r1 r2 q2
theorem zu0{op:Operator}{r:R2}(ho:OpR X (binaryOp op) r)(ha:PE X a ta)(hb:PE X b tb):PE X (.BinOp a op b pos) (tOp r ta tb):=by
 intro pins s Y H Q I h;exact wpAny_BinOp (binT ha hb I h λv u s2 x y H2 I2 rx ry q=>ho pins s2 Y H2 x y v u Q I2 rx ry q)
theorem zke1{op:UnaryOp}{r:V->Hp->VK->Prop}(ho:UnR X (unaryOp op) r)(ha:PE X a ta):PE X (.UnaryOp op a pos) (tUn r ta):=by
 intro pins s Y H Q I h;exact UnaryOp_ (thn (ha pins s Y H _ I h) λv s1 ⟨x,H1,I1,r1,q1⟩=>ho pins s1 Y H1 x v Q I1 r1 q1)
theorem opI{f:Value->Value->Sem Value}{C:Int->Int->Prop}{g:Int->Int->Int}
  (rule:∀(i j:Int)(t u:Tok)(s:Shared)(Q:Value->Shared->Prop)(E:Value->Shared->Prop),C i j->Q (.int (g i j) s.toks) { s with toks:=s.toks+1 }->wpAny (model X.prog X.w) X.A (f (.int i t) (.int j u)) Q E s) :
  OpR X f (rI C λi j=>.int (g i j)):=by
 intro pins s Y H x y v u Q I rx ry h;obtain⟨i,j,rfl,rfl,hc,q⟩:=h;obtain⟨t,rfl⟩:=rx;obtain⟨t',rfl⟩:=ry;exact rule i j t t' s _ _ hc ⟨.int (g i j),H,I.tok _,⟨_,rfl⟩,q⟩
theorem opI0{f:Value->Value->Sem Value}{g:Int->Int->Int}
  (rule:∀(i j:Int)(t u:Tok)(s:Shared)(Q:Value->Shared->Prop)(E:Value->Shared->Prop),Q (.int (g i j) s.toks) { s with toks:=s.toks+1 }->wpAny (model X.prog X.w) X.A (f (.int i t) (.int j u)) Q E s) :
  OpR X f (rI0 λi j=>.int (g i j)):=by
 intro pins s Y H x y v u Q I rx ry h;obtain⟨i,j,rfl,rfl,q⟩:=h;obtain⟨t,rfl⟩:=rx;obtain⟨t',rfl⟩:=ry;exact rule i j t t' s _ _ ⟨.int (g i j),H,I.tok _,⟨_,rfl⟩,q⟩
theorem opB0{g:Int->Int->Bool}
  (rule:∀(i j:Int)(t u:Tok)(s:Shared)(Q:Value->Shared->Prop)(E:Value->Shared->Prop),Q (.bool (g i j)) s->wpAny (model X.prog X.w) X.A (f (.int i t) (.int j u)) Q E s) :
  OpR X f (rI0 λi j=>.bl (g i j)):=by
 intro pins s Y H x y v u Q I rx ry h;obtain⟨i,j,rfl,rfl,q⟩:=h;obtain⟨t,rfl⟩:=rx;obtain⟨t',rfl⟩:=ry;exact rule i j t t' s _ _ ⟨.bl (g i j),H,I,rfl,q⟩
noncomputable def CPow(i j:Int):Prop:=0<=j/\j<=1000000/\i.natAbs < 2 ^ 64
noncomputable def CMul(i j:Int):Prop:=(-(2 ^ 64) < i/\i < 2 ^ 64) \/ (-(2 ^ 64) < j/\j < 2 ^ 64)
theorem CMul.ok{i j:Int}(h:CMul i j):IntMulOk i j:=by
 rcases h with⟨h1,h2⟩|⟨h1,h2⟩
 ·exact .of_left (intBits_le_64 h1 h2)
 ·exact .of_right (intBits_le_64 h1 h2)
theorem zob1:OpR X (binaryOp .Add) (rI0 λi j=>.int (i+j)):=opI0 λ_ _ _ _ _ _ _ q=>add_int q
theorem zel:OpR X (binaryOp .Sub) (rI0 λi j=>.int (i - j)):=opI0 λ_ _ _ _ _ _ _ q=>sub_int q
theorem zda1:OpR X (binaryOp .Mult) (rI CMul λi j=>.int (i * j)):=opI λ_ _ _ _ _ _ _ hc q=>mul_int q hc.ok
theorem zh1:OpR X (binaryOp .Mod) (rI (λ_ j=>0 < j) λi j=>.int (i % j)):=opI λi j _ _ _ _ _ hc q=>by
 have h1:(0:Int) < j:=hc;exact mod_int' (by lia) (by rw[Int.fmod_eq_emod_of_nonneg i (by lia)];exact q)
theorem zoq:OpR X (binaryOp .Pow) (rI CPow λi j=>.int (i ^ j.toNat)):=opI λ_ _ _ _ _ _ _ hc q=>pow_int_small hc.1 hc.2.1 hc.2.2 q
theorem unI{f:Value->Sem Value}{g:Int->Int}
  (rule:∀(i:Int)(t:Tok)(s:Shared)(Q:Value->Shared->Prop)(E:Value->Shared->Prop),Q (.int (g i) s.toks) { s with toks:=s.toks+1 }->wpAny (model X.prog X.w) X.A (f (.int i t)) Q E s) :
  UnR X f (rU λi=>.int (g i)):=by
 intro pins s Y H x v Q I rx h;obtain⟨i,rfl,q⟩:=h;obtain⟨t,rfl⟩:=rx;exact rule i t s _ _ ⟨.int (g i),H,I.tok _,⟨_,rfl⟩,q⟩
theorem zj61:UnR X (unaryOp .USub) (rU λi=>.int (-i)):=unI λ_ _ _ _ _ q=>neg_int q
end
noncomputable def scal:V->V->Bool
|.non,.non=>true|.non,.int _=>true|.int _,.non=>true|.non,.bl _=>true|.bl _,.non=>true|.non,.str _=>true|.str _,.non=>true
|.int _,.int _=>true|.bl _,.bl _=>true|.str _,.str _=>true|.byt _,.byt _=>true
|.int _,.str _=>true|.str _,.int _=>true|.bl _,.str _=>true|.str _,.bl _=>true
|_,_=>false
noncomputable def rEq:R2:=λx y H Q=>scal x y=true/\Q (.bl (decide (x=y))) H
noncomputable def rNe:R2:=λx y H Q=>scal x y=true/\Q (.bl (!decide (x=y))) H
theorem zoi{i j:Int}:decide (V.int i=V.int j)=(i == j):=by
 rw[y8];simp
theorem zcp{i j:Bool}:decide (V.bl i=V.bl j)=(i == j):=by
 rw[y8];simp
theorem zpi{i j:Str}:decide (V.str i=V.str j)=(i == j):=by
 rw[y8];simp
theorem zcw{i j:Array UInt8}:decide (V.byt i=V.byt j)=(i.toList == j.toList):=by
 rw[y8];cases i;cases j;simp
section
variable {X:Cx}{a b c:Expr}{ta tb tc:TE}{pos:Pos}
theorem zf2{Y:St}{H:Hp}{Q:VK}{k k':Bool}(I:Inv X pins Y H s)(q:Q (.bl k) H)(e:k=k'):EP X pins Y Q (.bool k') s:=by
 subst e;exact⟨.bl k,H,I,rfl,q⟩
theorem zig1:OpR X (compareOp .Eq) rEq:=by
 intro pins s Y H x y v u Q I rx ry h;obtain⟨hs,q⟩:=h;cases x with
|non =>
  cases rx;cases y with
 |non=>cases ry;exact PySem.EqNone.eq_none_none (zf2 I q (by simp))
 |bl j=>cases ry;exact PySem.EqNone.eq_none_bool (zf2 I q (by simp))
 |int j=>obtain⟨t',rfl⟩:=ry;exact PySem.EqNone.eq_none_int (zf2 I q (by simp))
 |str j=>obtain⟨t',rfl⟩:=ry;exact PySem.EqNone.eq_none_str (zf2 I q (by simp))
 |_=>exact absurd (show false=true from hs) wF
|bl i =>
  cases rx;cases y with
 |non=>cases ry;exact PySem.EqNone.eq_bool_none (zf2 I q (by simp))
 |bl j=>cases ry;exact eq_bool (zf2 I q zcp)
 |str j=>obtain⟨t',rfl⟩:=ry;exact PySem.EqMixed.eq_bool_str (zf2 I q (by simp))
 |_=>exact absurd (show false=true from hs) wF
|int i =>
  obtain⟨t,rfl⟩:=rx;cases y with
 |non=>cases ry;exact PySem.EqNone.eq_int_none (zf2 I q (by simp))
 |int j=>obtain⟨t',rfl⟩:=ry;exact eq_int (zf2 I q zoi)
 |str j=>obtain⟨t',rfl⟩:=ry;exact PySem.EqMixed.eq_int_str (zf2 I q (by simp))
 |_=>exact absurd (show false=true from hs) wF
|str i =>
  obtain⟨t,rfl⟩:=rx;cases y with
 |non=>cases ry;exact PySem.EqNone.eq_str_none (zf2 I q (by simp))
 |bl j=>cases ry;exact PySem.EqMixed.eq_str_bool (zf2 I q (by simp))
 |int j=>obtain⟨t',rfl⟩:=ry;exact PySem.EqMixed.eq_str_int (zf2 I q (by simp))
 |str j=>obtain⟨t',rfl⟩:=ry;exact eq_str (zf2 I q zpi)
 |_=>exact absurd (show false=true from hs) wF
|byt i =>
  obtain⟨t,rfl⟩:=rx;cases y with
 |byt j=>obtain⟨t',rfl⟩:=ry;exact PySem.W.eq_bytes (zf2 I q zcw)
 |_=>exact absurd (show false=true from hs) wF
|_=>cases y <;> exact absurd (show false=true from hs) wF
theorem zmg1:OpR X (compareOp .NotEq) rNe:=by
 intro pins s Y H x y v u Q I rx ry h;obtain⟨hs,q⟩:=h;cases x with
|non =>
  cases rx;cases y with
 |non=>cases ry;exact PySem.EqNone.ne_none_none (zf2 I q (by simp))
 |bl j=>cases ry;exact PySem.EqNone.ne_none_bool (zf2 I q (by simp))
 |int j=>obtain⟨t',rfl⟩:=ry;exact PySem.EqNone.ne_none_int (zf2 I q (by simp))
 |str j=>obtain⟨t',rfl⟩:=ry;exact PySem.EqNone.ne_none_str (zf2 I q (by simp))
 |_=>exact absurd (show false=true from hs) wF
|bl i =>
  cases rx;cases y with
 |non=>cases ry;exact PySem.EqNone.ne_bool_none (zf2 I q (by simp))
 |bl j=>cases ry;exact ne_bool (zf2 I q (congrArg not zcp))
 |str j=>obtain⟨t',rfl⟩:=ry;exact PySem.EqMixed.ne_bool_str (zf2 I q (by simp))
 |_=>exact absurd (show false=true from hs) wF
|int i =>
  obtain⟨t,rfl⟩:=rx;cases y with
 |non=>cases ry;exact PySem.EqNone.ne_int_none (zf2 I q (by simp))
 |int j=>obtain⟨t',rfl⟩:=ry;exact ne_int (zf2 I q (congrArg not zoi))
 |str j=>obtain⟨t',rfl⟩:=ry;exact PySem.EqMixed.ne_int_str (zf2 I q (by simp))
 |_=>exact absurd (show false=true from hs) wF
|str i =>
  obtain⟨t,rfl⟩:=rx;cases y with
 |non=>cases ry;exact PySem.EqNone.ne_str_none (zf2 I q (by simp))
 |bl j=>cases ry;exact PySem.EqMixed.ne_str_bool (zf2 I q (by simp))
 |int j=>obtain⟨t',rfl⟩:=ry;exact PySem.EqMixed.ne_str_int (zf2 I q (by simp))
 |str j=>obtain⟨t',rfl⟩:=ry;exact ne_str (zf2 I q (congrArg not zpi))
 |_=>exact absurd (show false=true from hs) wF
|byt i =>
  obtain⟨t,rfl⟩:=rx;cases y with
 |byt j=>obtain⟨t',rfl⟩:=ry;exact PySem.W.ne_bytes (zf2 I q (congrArg not zcw))
 |_=>exact absurd (show false=true from hs) wF
|_=>cases y <;> exact absurd (show false=true from hs) wF
theorem zyt:OpR X (compareOp .Lt) (rI0 λi j=>.bl (decide (i < j))):=opB0 λ_ _ _ _ _ _ _ q=>lt_int q
theorem zpb1:OpR X (compareOp .LtE) (rI0 λi j=>.bl (decide (i<=j))):=opB0 λ_ _ _ _ _ _ _ q=>le_int q
theorem zp21:OpR X (compareOp .Gt) (rI0 λi j=>.bl (decide (j < i))):=opB0 λ_ _ _ _ _ _ _ q=>gt_int q
theorem zyc1:OpR X (compareOp .GtE) (rI0 λi j=>.bl (decide (j<=i))):=opB0 λ_ _ _ _ _ _ _ q=>ge_int q
theorem OpR.or{r r':R2}(h:OpR X f r)(h':OpR X f r'):OpR X f (λx y H Q=>r x y H Q \/ r' x y H Q):=by
 intro pins s Y H x y v u Q I rx ry q;rcases q with q|q
 ·exact h pins s Y H x y v u Q I rx ry q
 ·exact h' pins s Y H x y v u Q I rx ry q
theorem zd1(b:Expr)(h:op≠.In:=by decide)(h2:op≠.NotIn:=by decide):behindInMarks op b=false:=by
 have e1:(op == CmpOp.In)=false:=by cases op <;> first|rfl|exact absurd rfl h
 have e2:(op == CmpOp.NotIn)=false:=by cases op <;> first|rfl|exact absurd rfl h2
 cases b <;> simp[behindInMarks,e1,e2]
theorem zkg{r:R2}(ho:OpR X (compareOp op) r)(ha:PE X a ta)(hb:PE X b tb)(hm:behindInMarks op b=false):PE X (.Compare a [op] [b] pos) (tOp r ta tb):=by
 intro pins s Y H Q I h;exact wpAny_Compare1 (binT ha hb I h λv u s2 x y H2 I2 rx ry q=>ho pins s2 Y H2 x y v u Q I2 rx ry q) hm
noncomputable def zpe1(t:TE):TT:=λY H Q=>t Y H λx H'=>∃k,x=.bl k/\Q k H'
theorem zm71{r:R2}(ho:OpR X (compareOp op) r)(ha:PE X a ta)(hb:PE X b tb)(hm:behindInMarks op b=false):PT X (.Compare a [op] [b] pos) (zpe1 (tOp r ta tb)):=by
 intro pins s Y H Q I h;refine wpAny_isTrue_Compare1 (thn (ha pins s Y H _ I h) λv s1 ⟨x,H1,I1,r1,q1⟩=>thn (hb pins s1 Y H1 _ I1 q1) λu s2 ⟨y,H2,I2,r2,q2⟩ =>
  thn (ho pins s2 Y H2 x y v u _ I2 r1 r2 q2) λc s3 hz=>?_) hm
 obtain⟨z,H3,I3,r3,k,e,q3⟩:=hz;subst e;cases r3;exact wpAny_truthy_bool ⟨H3,I3,q3⟩
noncomputable def zsy(r r':R2)(ta tb tc:TE):TE:=λY H Q=>ta Y H λx H1=>tb Y H1 λy H2=>r x y H2 λz H3=>∃k,z=.bl k /\
 (if k=true then tc Y H3 λw' H4=>r' y w' H4 Q else Q (.bl false) H3)
theorem zb01{op':CmpOp}{r r':R2}(ho:OpR X (compareOp op) r)(ho':OpR X (compareOp op') r')(ha:PE X a ta)(hb:PE X b tb)(hc:PE X c tc)
  (hm:lastMarks [op,op'] [b,c]=false:=by with_unfolding_all rfl):PT X (.Compare a [op,op'] [b,c] pos) (zpe1 (zsy r r' ta tb tc)):=by
 intro pins s Y H Q I h;refine isTrue_chain (thn (ha pins s Y H _ I h) λv s1 ⟨x,H1,I1,r1,q1⟩=>test_link (thn (hb pins s1 Y H1 _ I1 q1) λu s2 ⟨y,H2,I2,r2,q2⟩ =>
  thn (ho pins s2 Y H2 x y v u _ I2 r1 r2 q2) λd s3 hz=>?_)) hm
 obtain⟨z,H3,I3,r3,k,e,q3⟩:=hz;subst e;cases r3;refine wpAny_truthy_bool ?_;cases k with
|false =>
  obtain⟨k',e',q'⟩:=q3;cases e';exact ite_ff ⟨H3,I3,q'⟩
|true =>
  refine ite_tt (test_last (thn (hc pins s3 Y H3 _ I3 q3) λw' s4 ⟨z',H4,I4,r4,q4⟩=>thn (ho' pins s4 Y H4 y z' u w' _ I4 r2 r4 q4) λd' s5 hz=>?_));obtain⟨z2,H5,I5,r5,k2,e2,q5⟩:=hz;subst e2;cases r5;exact wpAny_truthy_bool ⟨H5,I5,q5⟩
noncomputable def TruV(K:Fg)(x:V)(H:Hp)(k:Bool):Prop :=
 match x with
|.non=>k=false
|.bl b=>k=b
|.int i=>k=(i != 0)
|.str y=>y.length<=sizeLine/\k=((y.length:Int) != 0)
|.byt y=>y.size<=sizeLine/\k=((y.size:Int) != 0)
|.ref p=>(∃xs,SqL K H p xs/\k=!xs.isEmpty) \/ (∃xs,SqT K H p xs/\k=!xs.isEmpty) \/ ∃kvs,H p=some (.dK kvs)/\k=!kvs.isEmpty
|_=>False
theorem zdr{κ:Type}{kvs:List (κ×V)}{vs:List (κ×Value)}(r:KV kvs vs):(!vs.isEmpty)=!kvs.isEmpty:=by
 cases r <;> rfl
theorem zwh{xs:List V}{its:List Value}(r:Vals xs its):(!its.toArray.isEmpty)=!xs.isEmpty:=by
 cases r <;> simp
theorem zak:(sizeLine:Nat) < 2 ^ 63:=by rw[sizeLine_eq];decide
theorem zu91:TruR X (λx H Q=>∃k,TruV X.K x H k/\Q k H):=by
 intro pins s Y H x v Q I rx h;obtain⟨k,e,q⟩:=h;have hl:=zak;have hs:sizeLine=16777216:=sizeLine_eq;cases x with
|non =>
  cases rx;have e':k=false:=e;subst e';exact truthy_none ⟨H,I,q⟩
|bl b =>
  cases rx;have e':k=b:=e;subst e';exact wpAny_truthy_bool ⟨H,I,q⟩
|int i =>
  obtain⟨t,rfl⟩:=rx;have e':k=(i != 0):=e;subst e';exact PySem.P.truthy_int ⟨H,I,q⟩
|str y =>
  obtain⟨t,rfl⟩:=rx;obtain⟨hy,e'⟩:y.length<=sizeLine/\k=((y.length:Int) != 0):=e;subst e';exact PySem.P.truthy_str (by lia) ⟨H,I.tok _,q⟩
|byt y =>
  obtain⟨t,rfl⟩:=rx;obtain⟨hy,e'⟩:y.size<=sizeLine/\k=((y.size:Int) != 0):=e;subst e';exact PySem.W.truthy_bytes (by lia) ⟨H,I.tok _,q⟩
|ref p =>
  cases rx;have e':(∃xs,SqL X.K H p xs/\k=!xs.isEmpty) \/ (∃xs,SqT X.K H p xs/\k=!xs.isEmpty) \/ ∃kvs,H p=some (.dK kvs)/\k=!kvs.isEmpty:=e;rcases e' with⟨xs,hx,e'⟩|⟨xs,hx,e'⟩|⟨kvs,hx,e'⟩
  ·subst e';obtain⟨its,r,pl,hz⟩:=I.list hx;have hlen:=r.length;exact wpAny_truthy_list pl.isList (by simp only[wE];lia) ⟨H,I.tok _,by rw[zwh r];exact q⟩
  ·subst e';obtain⟨its,r,pl,hz⟩:=I.tuple hx;have hlen:=r.length;exact truthy_tuple pl (by simp only[wE];lia) ⟨H,I.tok _,by rw[zwh r];exact q⟩
  ·subst e';obtain⟨hz,hS,vs,r,m⟩:kvs.length<=sizeLine/\(p == sysModules)=false/\∃vs,KV kvs vs/\s.heap.DictOf (zu2 X.prog X.w) p vs:=I.hok p _ hx;have hlen:kvs.length=vs.length:=Paired.length r;exact wpAny_truthy_dict hS m (by lia) ⟨H,I.tok _,by rw[zdr r];exact q⟩
|_=>exact(show False from e).elim
theorem zs01(ha:PE X a ta)(he:∀whole,isTrue a X.env whole=(do let v <- whole;standAt a.pos;holding [v] (truthy v))) :
  PT X a (λY H Q=>ta Y H λx H'=>∃k,TruV X.K x H' k/\Q k H'):=by
 intro pins s Y H Q I h;exact isTrue_plain (thn (ha pins s Y H _ I h) λv s1 ⟨x,H1,I1,r1,q1⟩=>zu91 pins s1 Y H1 x v Q I1 r1 q1) (he _)
theorem zdp:OpR X (binaryOp .Add) (λx y H Q=>∃i j,x=.str i/\y=.str j/\i.length+j.length<=sizeLine/\Q (.str (i++j)) H):=by
 intro pins s Y H x y v u Q I rx ry h;obtain⟨i,j,rfl,rfl,hz,q⟩:=h;obtain⟨t,rfl⟩:=rx;obtain⟨t',rfl⟩:=ry;exact add_str (λt' tk=>⟨.str (i++j),H,I.tok _,⟨_,rfl⟩,q⟩) hz
theorem zf21{x:V}(r:Vals [x] us):∃u,us=[u]/\RelV x u:=by
 cases r with
|cons r1 r2=>cases r2;exact⟨_,rfl,r1⟩
theorem zl61{x y:V}(r:Vals [x,y] us):∃u w',us=[u,w']/\RelV x u/\RelV y w':=by
 cases r with
|cons r1 r2 =>
  cases r2 with
 |cons r3 r4=>cases r4;exact⟨_,_,rfl,r1,r3⟩
theorem zhv(hc:X.calm=true):CallR X (.builtin "max") (λxs H Q=>∃i j,xs=[.int i,.int j]/\Q (.int (if j > i then j else i)) H):=by
 intro pins s Y H xs us Q I r h;obtain⟨i,j,rfl,q⟩:=h;obtain⟨u,w',rfl,⟨t,rfl⟩,⟨t',rfl⟩⟩:=zl61 r;refine max_two_ints (I.ok.hd hc) λh' tk k=>⟨_,H,I.kept k,?_,q⟩
 by_cases hj:j > i
 ·rw[if_pos hj,if_pos hj];exact⟨_,rfl⟩
 ·rw[if_neg hj,if_neg hj];exact⟨_,rfl⟩
theorem zjt(hc:X.calm=true):CallR X (.builtin "min") (λxs H Q=>∃i j,xs=[.int i,.int j]/\Q (.int (if j < i then j else i)) H):=by
 intro pins s Y H xs us Q I r h;obtain⟨i,j,rfl,q⟩:=h;obtain⟨u,w',rfl,⟨t,rfl⟩,⟨t',rfl⟩⟩:=zl61 r;refine min_two_ints (I.ok.hd hc) λh' tk k=>⟨_,H,I.kept k,?_,q⟩
 by_cases hj:j < i
 ·rw[if_pos hj,if_pos hj];exact⟨_,rfl⟩
 ·rw[if_neg hj,if_neg hj];exact⟨_,rfl⟩
theorem zwt:CallR X (.type "int") (λxs H Q=>(∃i,xs=[.int i]/\Q (.int i) H) \/ ∃k,xs=[.bl k]/\Q (.int (if k then 1 else 0)) H):=by
 intro pins s Y H xs us Q I r h;rcases h with⟨i,rfl,q⟩|⟨k,rfl,q⟩
 ·obtain⟨u,rfl,t,rfl⟩:=zf21 r;exact call_int_int ⟨.int i,H,I,⟨_,rfl⟩,q⟩
 ·obtain⟨u,rfl,r1⟩:=zf21 r;cases r1;exact call_int_bool ⟨.int (if k then 1 else 0),H,I.tok _,⟨_,rfl⟩,q⟩
noncomputable def LenV(K:Fg)(x:V)(H:Hp)(n:Nat):Prop :=
 match x with
|.str y=>y.length<=sizeLine/\n=y.length
|.byt y=>y.size<=sizeLine/\n=y.size
|.ref p=>(∃xs,SqL K H p xs/\n=xs.length) \/ ∃xs,SqT K H p xs/\n=xs.length
|_=>False
theorem zoz:CallR X (.builtin "len") (λxs H Q=>∃x n,xs=[x]/\LenV X.K x H n/\Q (.int n) H):=by
 intro pins s Y H xs us Q I r h;obtain⟨x,n,rfl,e,q⟩:=h;obtain⟨u,rfl,rx⟩:=zf21 r;have hl:=zak;have hs:sizeLine=16777216:=sizeLine_eq;cases x with
|str y =>
  obtain⟨t,rfl⟩:=rx;obtain⟨hy,e'⟩:y.length<=sizeLine/\n=y.length:=e;subst e';exact len_str (by lia) ⟨.int _,H,I.tok _,⟨_,rfl⟩,q⟩
|byt y =>
  obtain⟨t,rfl⟩:=rx;obtain⟨hy,e'⟩:y.size<=sizeLine/\n=y.size:=e;subst e';exact PySem.W.len_bytes (by lia) ⟨.int _,H,I.tok _,⟨_,rfl⟩,q⟩
|ref p =>
  cases rx;have e':(∃xs,SqL X.K H p xs/\n=xs.length) \/ ∃xs,SqT X.K H p xs/\n=xs.length:=e;rcases e' with⟨xs,hx,e'⟩|⟨xs,hx,e'⟩
  ·subst e';obtain⟨its,r',pl,hz⟩:=I.list hx;have hlen:=r'.length;exact Calls.call_len_list pl.isList (by simp only[wE];lia) ⟨.int xs.length,H,I.tok _,⟨_,by simp only[wE];rw[hlen]⟩,q⟩
  ·subst e';obtain⟨its,r',pl,hz⟩:=I.tuple hx;have hlen:=r'.length;exact len_tuple pl (by simp only[wE];lia) ⟨.int xs.length,H,I.tok _,⟨_,by simp only[wE];rw[hlen]⟩,q⟩
|_=>exact(show False from e).elim
end
structure ObjM(h:Heap)(x dx C:Addr)(mA:Str->Option Value):Prop where
 obj:h.get? x=some (PySem.W.instObj C dx)
 ns:h.Ns1 dx mA
 ne:dx≠x
theorem zst{h:Heap}(n:h.Ns1 dx mA):∃od,h.get? dx=some od/\∀name,PySem.W.lookIn name od=some (mA name):=by
 obtain⟨o,es,ep,ho,hd,hk,_,hm⟩:=n;refine⟨o,ho,λname=>?_⟩;have e:=hm name;unfold nsFind findBy at e;rw[<- Array.find?_toList]at e;unfold PySem.W.lookIn;rw[hd];dsimp only;split
 ·rename_i y q
  rw[q]at e;exact congrArg some e
 ·rename_i q
  rw[q]at e;have a:es.toList.any (·.refKey)=false:=by
   rw[List.any_eq_false];intro y hy;obtain⟨z,t,hkey⟩:=hk y (Array.mem_toList_iff.mp hy);simp[DictEntry.refKey,hkey]
  have a':¬es.toList.any (·.refKey)=true:=by rw[a];exact wF
  rw[if_neg a'];exact congrArg some e
theorem ObjM.look{h:Heap}{x:Addr}(I:ObjM h x dx C mA):∃od,PySem.W.InstAt h x (PySem.W.instObj C dx) C (some od)/\∀name,PySem.W.lookIn name od=some (mA name) :=
 let ⟨od,ho,hl⟩:=zst I.ns
 ⟨od,⟨I.obj,rfl,rfl,ho⟩,hl⟩
section
variable {prog:Program}{w:World}{A:Around}{E:Value->Shared->Prop}{s:Shared}{K:Fg}{x dx C f:Addr}{mA:Str->Option Value}{name:Str}{v:Value}
theorem zm61{expr:Bool}{Q:Value->Shared->Prop}(X:K.In s.heap)(I:ObjM s.heap x dx C mA)(hg:PySem.W.plainGet K C name=true)(hh:PySem.W.hasDictIn K C=true)
  (ha:PySem.W.findIn K (.ref C) name=some none) (hv:mA name=some v) (hv':PySem.W.handedIn v=true) (h:Q v { s with toks:=s.toks+1 }) :
  wpAny (model prog w) A (getAttr (.ref x) name expr) Q E s:=by
 obtain⟨od,J,hl⟩:=I.look;exact PySem.W.get_value X J (PySem.W.plainGet_of hg).1 (PySem.W.findObj_own hh ha rfl (by rw[hl,hv])) hv' h
theorem zf01{pl:Sem Bool}{Q:Value×List Value->Shared->Prop}(X:K.In s.heap)(I:ObjM s.heap x dx C mA)(hg:PySem.W.plainGet K C name=true)
  (hf:PySem.W.findIn K (.ref C) name=some (some (.ref f))) (ht:PySem.W.isFn K (.ref f)=true) (hv:mA name=none) (h:Q (.ref f,[.ref x]) s) :
  wpAny (model prog w) A (getMethod (.ref x) name pl) Q E s:=by
 obtain⟨od,J,hl⟩:=I.look;exact PySem.W.method_fn X J (PySem.W.plainGet_of hg).1 (PySem.W.plainGet_of hg).2 hf (beq_iff_eq.mp ht) (by show(PySem.W.lookIn name od).map (·.isSome)=some false;rw[hl,hv];rfl) h
theorem zl71{ns:List Str}{Q:Unit->Shared->Prop}(X:K.In s.heap)(I:ObjM s.heap x dx C mA)
  (hs:PySem.W.findIn K (.ref C) "__setattr__"=some (some (.builtin "object.__setattr__"))) (hp:PySem.W.plainOver K C=true) (ht:PySem.W.takerIn K C name=some none) (hh:PySem.W.hasDictIn K C=true)
  (hw:PySem.Within mA ns) (hsz:ns.length<=sizeLine)
  (h:∀h',ObjM h' x dx C (λy=>if y=name then some v else mA y)->Heap.SameBut dx s.heap h'->Q () { s with heap:=h',toks:=s.toks+2 }) :
  wpAny (model prog w) A (setAttr (.ref x) name v) Q E s:=by
 obtain⟨od,J,hl⟩:=I.look;refine PySem.W.set_plain X J hs (PySem.W.osa_open (s:={ s with toks:=s.toks+1 }) (r:=none) X J hp ht λb=>?_);obtain⟨cd,hc,hd'⟩:=PySem.W.any_some hh;have hx:s.heap.get? x=some ⟨.ref C,some dx,.plain,#[]⟩:=I.obj;refine wpAny_bind (wpAny_pure (wpAny_bind (wpAny_bind (wpAny_loadPart hx (wpAny_bind (PySem.W.Looks.here (s:={ s with toks:=s.toks+1 }) (PySem.W.looks_clsIn X hc) ?_))))));rw[hd'];refine wpAny_pure (a:=some dx) (wpAny_bind (wpAny_pure (wpAny_bind ?_)));refine wpAny_nsSet1 (s:={ s with toks:=s.toks+1 }) I.ns λh' hn2 hs2=>?_;obtain⟨oD,esD,epD,hoD,hdD,hcD⟩:=hn2.count (PySem.Within.cons name v hw);refine wpAny_bind (wpAny_lookBehind hoD (by rw[hdD];exact pastItsLine_dict (wP hcD (by rw[xO];lia))) ?_);exact wpAny_pure (h _ ⟨(hs2.2 _ (Ne.symm I.ne)).trans I.obj,hn2,I.ne⟩ hs2)
theorem zz01{R:Result->Shared->Prop}{vs:List Value}(X:K.In s.heap)(hm:PySem.W.makesIn K C=true)
  (hi:PySem.W.findIn K (.ref C) "__init__"=some (some (.ref f))) (hf:PySem.W.typeIn K (.ref f)=some (.type "function"))
  (h:codeAny (model prog w) (A.under (.builtin "type.__call__" ⟨.ref C :: vs,kw⟩)) (.call (.ref f) ⟨.ref (s.heap.objs.size+1) :: vs,kw⟩) (PySem.W.InitBack (s.heap.objs.size+1) R)
   { s with heap:=(s.heap.push PySem.W.emptyDict).push (PySem.W.instObj C s.heap.objs.size) }) :
  codeAny (model prog w) A (.call (.ref C) ⟨vs,kw⟩) R s:=by
 obtain⟨hh,g,d,t,os⟩:=s;exact PySem.W.make_core (PySem.W.makes_of X hm) (PySem.W.looks_findIn X hi) (λself=>PySem.W.bind_fn X self hf) (.inl rfl) h
end
noncomputable def putF(f:Str)(v:V):List (Str×V)->List (Str×V)
|[]=>[(f,v)]
|(g,x) :: r=>if g=f then(g,v) :: r else(g,x) :: putF f v r
theorem zgg(f g:Str)(v:V):∀fs:List (Str×V),(putF f v fs).lookup g=if g=f then some v else fs.lookup g
|[]=>by
  show w6 g [(f,v)]=_;by_cases h:g=f
  ·have hb:(g == f)=true:=beq_iff_eq.mpr h;simp only[w6,hb,if_pos h]
  ·have hb:(g == f)=false:=beq_eq_false_iff_ne.mpr h;simp only[w6,hb,if_neg h]
|(k,x) :: r=>by
  have ih:=zgg f g v r;rw[show putF f v ((k,x) :: r)=(if k=f then(k,v) :: r else(k,x) :: putF f v r)from rfl];by_cases hk:k=f
  ·rw[if_pos hk];by_cases h:g=k
   ·have hb:(g == k)=true:=beq_iff_eq.mpr h;simp only[w6,hb,if_pos (h.trans hk)]
   ·have hb:(g == k)=false:=beq_eq_false_iff_ne.mpr h;simp only[w6,hb,if_neg (λe:g=f=>h (e.trans hk.symm))]
  ·rw[if_neg hk];by_cases h:g=k
   ·have hb:(g == k)=true:=beq_iff_eq.mpr h;simp only[w6,hb,if_neg (λe:g=f=>hk (h.symm.trans e))]
   ·have hb:(g == k)=false:=beq_eq_false_iff_ne.mpr h;simp only[w6,hb];exact ih
theorem zoh(f:Str)(v:V):∀fs:List (Str×V),f∈(putF f v fs).map (·.1)/\∀g,g∈fs.map (·.1)->g∈(putF f v fs).map (·.1)
|[]=>⟨by simp[putF],λg h=>by simp at h⟩
|(k,x) :: r=>by
  obtain⟨i1,i2⟩:=zoh f v r;rw[show putF f v ((k,x) :: r)=(if k=f then(k,v) :: r else(k,x) :: putF f v r)from rfl];by_cases hk:k=f
  ·rw[if_pos hk];subst hk;exact⟨by simp,λg h=>by simpa using h⟩
  ·rw[if_neg hk];refine⟨?_,λg h=>?_⟩
   ·rw[wM];exact v8 _ i1
   ·rw[wM]at h ⊢;rcases v6.mp h with e|e
    ·exact v6.mpr (.inl e)
    ·exact v8 _ (i2 g e)
theorem zeg(f:Str)(v:V):∀fs:List (Str×V),(putF f v fs).length<=fs.length+1
|[]=>by simp[putF]
|(k,x) :: r=>by
  have ih:=zeg f v r;rw[show putF f v ((k,x) :: r)=(if k=f then(k,v) :: r else(k,x) :: putF f v r)from rfl];by_cases hk:k=f
  ·rw[if_pos hk,xO,xO];lia
  ·rw[if_neg hk,xO,xO];lia
theorem RelO.some_of{v:V}{o:Option Value}(r:RelO (some v) o):∃u,o=some u/\RelV v u:=by
 cases o with
|none=>exact(show False from r).elim
|some u=>exact⟨u,rfl,r⟩
theorem RelO.none_of{o:Option Value}(r:RelO none o):o=none:=by
 cases o with
|none=>rfl
|some u=>exact(show False from r).elim
theorem zcv{v:V}(r:RelV v u):PySem.W.handedIn u=true:=by
 cases v with
|non=>cases (show u=xG from r);rfl
|bl b=>cases (show u=y3 b from r);rfl
|int i=>obtain⟨t,e⟩:=(show ∃t,u=x6 i t from r);cases e;rfl
|str x=>obtain⟨t,e⟩:=(show ∃t,u=yT x t from r);cases e;rfl
|byt b=>obtain⟨t,e⟩:=(show ∃t,u=Value.bytes b t from r);cases e;rfl
|flt b=>obtain⟨t,e⟩:=(show ∃t,u=zL b t from r);cases e;rfl
|ref a=>cases (show u=u7 a from r);rfl
|ty n=>cases (show u=y4 n from r);rfl
section
variable {P:Program}{w:World}{H H':Hp}{h h':Heap}{a C dx:Addr}{fs fs':List (Str×V)}
theorem zvm(hok:HOk P w H h)(e:H a=some (.ins C dx fs)):∃mA,ObjM h a dx C mA/\(∀f,RelO (fs.lookup f) (mA f))/\PySem.Within mA (fs.map (·.1))/\fs.length<=1000/\H dx=some (.own a):=by
 obtain⟨d,z,ne,ob,mA,n,r,q⟩:=(show ObjOk P w H h a (.ins C dx fs)from hok a _ e)
 exact⟨mA,⟨ob,n,ne⟩,r,q,z,d⟩
end
structure Cls(K:Fg)(C:Addr):Prop where
 pg:PySem.W.plainGet K C y9=true
 hd:PySem.W.hasDictIn K C=true
 po:PySem.W.plainOver K C=true
 sa:PySem.W.findIn K (.ref C) "__setattr__"=some (some (.builtin "object.__setattr__"))
theorem Cls.get(c:Cls K C)(f:Str):PySem.W.plainGet K C f=true:=c.pg
noncomputable def NoAttr(K:Fg)(C:Addr)(f:Str):Prop:=PySem.W.findIn K (.ref C) f=some none
theorem NoAttr.taker{f:Str}(n:NoAttr K C f):PySem.W.takerIn K C f=some none:=by
 unfold PySem.W.takerIn;rw[show PySem.W.findIn K (.ref C) f=some none from n];rfl
structure Meth(K:Fg)(C:Addr)(m:Str)(f:Addr):Prop where
 at_:PySem.W.findIn K (.ref C) m=some (some (.ref f))
 fn:PySem.W.isFn K (.ref f)=true
 kp:PySem.W.keepIn K (.ref f)=true
section
variable {X:Cx}{pins:List (Addr×Obj)}{Y:St}{H:Hp}{s:Shared}{a C dx:Addr}{fs:List (Str×V)}{f:Str}{v:V}{A:Around}{E:Value->Shared->Prop}
theorem zyh{b:Bool}{Q:Value->Shared->Prop}(I:Inv X pins Y H s)(e:H a=some (.ins C dx fs))(c:Cls X.K C)(n:NoAttr X.K C f)(l:fs.lookup f=some v)
  (h:∀u s',Inv X pins Y H s'->RelV v u->Q u s'):wpAny (model X.prog X.w) A (getAttr (.ref a) f b) Q E s:=by
 obtain⟨mA,O,r,_,_,_⟩:=zvm I.hok e;obtain⟨u,hu,ru⟩:=RelO.some_of (v:=v) (o:=mA f) (by rw[<- l];exact r f);exact zm61 I.kIn O (c.get f) c.hd n hu (zcv ru) (h u _ (I.tok _) ru)
theorem zd7{m:Str}{g:Addr}{pl:Sem Bool}{Q:Value×List Value->Shared->Prop}(I:Inv X pins Y H s)(e:H a=some (.ins C dx fs))(c:Cls X.K C)(k:Meth X.K C m g)(l:fs.lookup m=none)
  (h:Q (.ref g,[.ref a]) s):wpAny (model X.prog X.w) A (getMethod (.ref a) m pl) Q E s:=by
 obtain⟨mA,O,r,_,_,_⟩:=zvm I.hok e;have hn:mA m=none:=RelO.none_of (by rw[<- l];exact r m);exact zf01 I.kIn O (c.get m) k.at_ k.fn hn h
theorem zzi{y:V}{Q:Unit->Shared->Prop}(I:Inv X pins Y H s)(e:H a=some (.ins C dx fs))(c:Cls X.K C)(n:NoAttr X.K C f)(hl:fs.length < 1000)(ry:RelV y u)
  (h:∀s',Inv X pins Y (upd H a (.ins C dx (putF f y fs))) s'->Q () s'):wpAny (model X.prog X.w) A (setAttr (.ref a) f u) Q E s:=by
 obtain⟨mA,O,r,wi,_,ho⟩:=zvm I.hok e;have hz:(fs.map (·.1)).length<=sizeLine:=by rw[u4,sizeLine_eq];lia
 refine zl71 I.kIn O c.sa c.po n.taker c.hd wi hz λh' O' sb=>h _ ?_;have hd:∃o,h'.get? dx=some o:=let ⟨o,_,_,e',_⟩:=O'.ns;⟨o,e'⟩;refine I.write (x:=a) (e:=dx) (by rw[e];exact True.intro) (.inr ho) (λb q hb z=>(sb.2 b hb).trans z) hd ?_;refine⟨by rw[zm0 O.ne];exact ho,?_,O.ne,O'.obj,_,O'.ns,λg=>?_,λg hg=>?_⟩
 ·have:=zeg f y fs;lia
 ·show RelO ((putF f y fs).lookup g) (if g=f then some u else mA g);rw[zgg];by_cases q:g=f
  ·rw[if_pos q,if_pos q];exact ry
  ·rw[if_neg q,if_neg q];exact r g
 ·by_cases q:g=f
  ·rw[q];exact(zoh f y fs).1
  ·refine(zoh f y fs).2 g (wi g λz=>hg ?_);show(if g=f then some u else mA g)=none;rw[if_neg q];exact z
theorem Inv.made(I:Inv X pins Y H s):Inv X pins Y (upd (upd H s.heap.objs.size (.own (s.heap.objs.size+1))) (s.heap.objs.size+1) (.ins C s.heap.objs.size []))
  { s with heap:=(s.heap.push PySem.W.emptyDict).push (PySem.W.instObj C s.heap.objs.size) }:=by
 have e1:(s.heap.push PySem.W.emptyDict).get? s.heap.objs.size=some PySem.W.emptyDict:=wI s.heap rfl;have e2:((s.heap.push PySem.W.emptyDict).push (PySem.W.instObj C s.heap.objs.size)).get? (s.heap.objs.size+1)=some (PySem.W.instObj C s.heap.objs.size):=by
  have:=wI (s.heap.push PySem.W.emptyDict) (o:=PySem.W.instObj C s.heap.objs.size) rfl
  rwa [xP]at this
 have e3:(s.heap.push PySem.W.emptyDict).Ns s.heap.objs.size (λ_=>none):=⟨PySem.W.emptyDict,#[],_,e1,rfl,(λe he=>absurd he (by simp)),λ_=>rfl⟩
 have I1:=I.laid (a:=s.heap.objs.size) (o:=.own (s.heap.objs.size+1)) (h':=s.heap.push PySem.W.emptyDict) (t':=s.toks) (λb u q=>u5 _ q) (u3 _) ⟨_,e1⟩;refine I1.laid (a:=s.heap.objs.size+1) (o:=.ins C s.heap.objs.size []) (t':=s.toks) (λb u q=>u5 _ q) (Nat.le_of_eq (xP _ _)) ?_;have ne:s.heap.objs.size≠s.heap.objs.size+1:=wN (zP _);refine⟨by rw[zm0 ne,zj0],wW _,ne,e2,λ_=>none,(Heap.Ns1.of_empty e3).at λo q=>u5 _ q,λ_=>True.intro,λy hy=>absurd rfl hy⟩
theorem za71{prog:Program}{env:Env}{e:Expr}{f:Str}{Q:Value->Shared->Prop}(hb:attributeBase e f env (eval e env)=eval e env)
  (h:wpAny (model prog w) A (eval e env) (λo s₁=>wpAny (model prog w) A (getAttr o f true) Q E s₁) E s):wpAny (model prog w) A (eval (.Attribute e f pos) env) Q E s :=
 Attribute_any_ h (by rw[arm_eval_Attribute,hb])
end
noncomputable def tFld(K:Fg)(ta:TE)(f:Str):TE:=λY H Q=>ta Y H λx H1=>∃a C dx fs v,x=.ref a/\H1 a=some (.ins C dx fs)/\Cls K C/\NoAttr K C f/\fs.lookup f=some v/\Q v H1
noncomputable def sFld(K:Fg)(ta tv:TE)(f:Str):TS:=λD Y H=>tv Y H λy H1=>ta Y H1 λx H2=>∃a C dx fs,x=.ref a/\H2 a=some (.ins C dx fs)/\Cls K C/\NoAttr K C f/\fs.length < 1000 /\
 D.nx Y (upd H2 a (.ins C dx (putF f y fs)))
noncomputable def InOp(X:Cx)(op:Operator)(rd:V->V->Hp->VK->Prop):Prop :=
 ∀(pins:List (Addr×Obj))(s:Shared)(Y:St)(H:Hp)(x y:V)(u v:Value)(Q:VK),Inv X pins Y H s->RelV x u->RelV y v->rd x y H Q->wpAny (model X.prog X.w) X.A (inplaceOp op u v) (EP X pins Y Q) X.xe s
noncomputable def zwv(K:Fg)(ta tv:TE)(rd:V->V->Hp->VK->Prop)(f:Str):TS:=λD Y H=>ta Y H λx H1=>∃a C dx fs v,x=.ref a/\H1 a=some (.ins C dx fs)/\Cls K C/\NoAttr K C f/\fs.lookup f=some v /\
 tv Y H1 λy H2=>rd v y H2 λz H3=>∃dx' fs',H3 a=some (.ins C dx' fs')/\fs'.length < 1000/\D.nx Y (upd H3 a (.ins C dx' (putF f z fs')))
section
variable {X:Cx}{o e value:Expr}{f:Str}{pos pos' tpos:Pos}{ta tv:TE}
theorem zwa1(he:PE X e ta)(hb:attributeBase e f X.env (eval e X.env)=eval e X.env):PE X (.Attribute e f pos) (tFld X.K ta f):=by
 intro pins s Y H Q I h;refine za71 hb (thn (he pins s Y H _ I h) λu s1 hz=>?_);obtain⟨x,H1,I1,rx,a,C,dx,fs,v,ex,ea,c,n,l,q⟩:=hz;subst ex;obtain rfl:u=u7 a:=rx;exact zyh I1 ea c n l λu' s2 I2 ru=>⟨v,H1,I2,ru,q⟩
theorem zhb(ha:PE X o ta)(hv:PE X value tv)(hs:swapsWith value (some (.Attribute o f pos')) pos.line X.env=pure false):PS X (.Assign [.Attribute o f pos'] value pos) (sFld X.K ta tv f):=by
 intro pins s Y H D I h;refine plainObj_wpAny_Assign_Attribute (thn (hv pins s Y H _ I h) λu s1 ⟨y,H1,I1,ry,q⟩=>thn (ha pins s1 Y H1 _ I1 q) λov s2 hz=>?_) hs;obtain⟨x,H2,I2,rx,a,C,dx,fs,ex,ea,c,n,l,q2⟩:=hz;subst ex;obtain rfl:ov=u7 a:=rx;exact zzi I2 ea c n l ry λs3 I3=>⟨Y,_,I3,q2⟩
theorem zjv{op:Operator}{rd:V->V->Hp->VK->Prop}(ha:PE X o ta)(hv:PE X value tv)(hop:InOp X op rd):PS X (.AugAssign (.Attribute o f tpos) op value pos) (zwv X.K ta tv rd f):=by
 intro pins s Y H D I h;refine wpAny_AugAssign_AttributeAny (thn (ha pins s Y H _ I h) λov s1 hz=>?_);obtain⟨x,H1,I1,rx,a,C,dx,fs,v,ex,ea,c,n,l,q⟩:=hz;subst ex;obtain rfl:ov=u7 a:=rx;refine zyh I1 ea c n l λu s2 I2 ru=>thn (hv pins s2 Y H1 _ I2 q) λw3 s3 ⟨y,H2,I3,ry,q3⟩=>thn (hop pins s3 Y H2 v y u w3 _ I3 ru ry q3) λw4 s4 hz=>?_;obtain⟨z,H3,I4,rz,dx',fs',ea',l',q4⟩:=hz;exact zzi I4 ea' c n l' rz λs5 I5=>⟨Y,_,I5,q4⟩
noncomputable def rAdd:V->V->Hp->VK->Prop:=λx y H Q=>∃i j,x=.int i/\y=.int j/\Q (.int (i+j)) H
theorem zzb1:InOp X .Add rAdd:=by
 rintro pins s Y H x y u v Q I rx ry ⟨i,j,rfl,rfl,q⟩;obtain⟨t,rfl⟩:=(show ∃t,u=x6 i t from rx)
 obtain⟨t',rfl⟩:=(show ∃t',v=x6 j t' from ry)
 exact PyProof.Rows.iadd_int ⟨.int (i+j),H,I.tok _,⟨_,rfl⟩,q⟩
end
section
variable {X:Cx}{pins:List (Addr×Obj)}{Y:St}{H:Hp}{s:Shared}{A:Around}{E:Value->Shared->Prop}{Q:Value->Shared->Prop}{c:Value}{b:Bool}
inductive TyOf(K:Fg)(H:Hp):V->Value->Prop where
|non:TyOf K H .non (.type "NoneType")
|bl (x:Bool):TyOf K H (.bl x) (.type "bool")
|int (i:Int):TyOf K H (.int i) (.type "int")
|str (x:Str):TyOf K H (.str x) (.type "str")
|flt (x:UInt64):TyOf K H (.flt x) (.type "float")
|lst {a:Addr} {xs:List V} (e:H a=some (.lst xs)):TyOf K H (.ref a) (.type "list")
|frz {a:Addr} {o:Obj} {xs:List V} (e:H a=some (.frz o (.lst xs))):TyOf K H (.ref a) (.type "list")
|tup {a:Addr} {xs:List V} (e:H a=some (.tup xs)):TyOf K H (.ref a) (.type "tuple")
|dK {a:Addr} {kvs:List (Key×V)} (e:H a=some (.dK kvs)):TyOf K H (.ref a) (.type "dict")
|dT {a:Addr} {kvs:List (List Key×V)} (e:H a=some (.dT kvs)):TyOf K H (.ref a) (.type "dict")
|ins {a C dx:Addr} {fs:List (Str×V)} (e:H a=some (.ins C dx fs)) (cl:Cls K C) (ha:PySem.W.findIn K (.ref C) "__class__"=some (some (.builtin "object.__class__")))
   (hn:PySem.W.specialIn K (.builtin "object.__class__") "__get__"=some (some (.builtin "getset_descriptor.__get__"))) (htk:PySem.W.takesIn K (.builtin "object.__class__")=some true)
   (hm:PySem.W.mroIn K C (.type "object")=some true):TyOf K H (.ref a) (.ref C)
theorem zau{x:V}{t:Value}(I:Inv X pins Y H s)(rx:RelV x u)(ty:TyOf X.K H x t)(e:PySem.W.kitOne X.K t c=some b)(h:∀tk,Q (.bool b) { s with toks:=tk }) :
  wpAny (model X.prog X.w) A (call (.builtin "isinstance") [u,c]) Q E s:=by
 cases ty with
|non=>cases (show u=xG from rx);exact PySem.W.kia_one PySem.W.kitx_none I.kIn True.intro e (λz=>nomatch z) h
|bl y=>cases (show u=y3 y from rx);exact PySem.W.kia_one PySem.W.kitx_bool I.kIn True.intro e (λz=>nomatch z) h
|int i=>obtain⟨t,q⟩:=(show ∃t,u=x6 i t from rx);cases q;exact PySem.W.kia_one PySem.W.kitx_int I.kIn True.intro e (λz=>nomatch z) h
|str y=>obtain⟨t,q⟩:=(show ∃t,u=yT y t from rx);cases q;exact PySem.W.kia_one PySem.W.kitx_str I.kIn True.intro e (λz=>nomatch z) h
|flt y=>obtain⟨t,q⟩:=(show ∃t,u=zL y t from rx);cases q;exact PySem.W.kia_one PySem.W.kitx_float I.kIn True.intro e (λz=>nomatch z) h
|@lst a xs ea =>
  cases (show u=u7 a from rx);obtain⟨_,_,n,_,h1⟩:=(show ObjOk X.prog X.w H s.heap a (.lst xs)from I.hok a _ ea)
  exact PySem.W.kia_one PySem.W.kitx_list I.kIn ⟨_,h1,rfl⟩ e (λz=>nomatch z) h
|@frz a ob xs ea =>
  cases (show u=u7 a from rx);obtain⟨_,_,_,n,_,h1⟩:=(show ObjOk X.prog X.w H s.heap a (.frz ob (.lst xs))from I.hok a _ ea)
  exact PySem.W.kia_one PySem.W.kitx_list I.kIn ⟨_,h1,rfl⟩ e (λz=>nomatch z) h
|@tup a xs ea =>
  cases (show u=u7 a from rx);obtain⟨_,_,_,p⟩:=(show ObjOk X.prog X.w H s.heap a (.tup xs)from I.hok a _ ea)
  obtain⟨o,h1,h2,_⟩:=p;exact PySem.W.kia_one PySem.W.kitx_tuple I.kIn ⟨o,h1,h2⟩ e (λz=>nomatch z) h
|@dK a kvs ea =>
  cases (show u=u7 a from rx);obtain⟨_,_,vs,_,p⟩:=(show ObjOk X.prog X.w H s.heap a (.dK kvs)from I.hok a _ ea)
  obtain⟨o,es,ep,h1,h2,_⟩:=p;exact PySem.W.kia_one PySem.W.kitx_dict I.kIn ⟨o,h1,h2.1⟩ e (λz=>nomatch z) h
|@dT a kvs ea =>
  cases (show u=u7 a from rx);obtain⟨_,_,xs,_,o,es,ep,h1,h2,_⟩:=(show ObjOk X.prog X.w H s.heap a (.dT kvs)from I.hok a _ ea)
  exact PySem.W.kia_one PySem.W.kitx_dict I.kIn ⟨o,h1,h2.1⟩ e (λz=>nomatch z) h
|@ins a C dx fs ea cl ha hn htk hm =>
  cases (show u=u7 a from rx);obtain⟨mA,O,_⟩:=zvm I.hok ea;obtain⟨od,J,_⟩:=O.look;exact PySem.W.kia_one (PySem.W.kitx_own (cl.get _) cl.hd ha hn htk hm) I.kIn J e (λz=>nomatch z) h
end
structure Room(k:Nat)(A:Around):Prop where
 hd:A.handled=none
 dp:A.depth+3 * k+5 < recursionLimit
 gd:A.guards=some []
 un:A.units+16 * k+200 < cLine
theorem Room.mono{j k:Nat}(r:Room k A)(h:j<=k):Room j A:=⟨r.hd,by have:=r.dp;lia,r.gd,by have:=r.un;lia⟩
theorem Room.deeper{k:Nat}{A:Around}(r:Room (k+1) A)(env:Env):Room k (A.deeper env) :=
 ⟨r.hd,by have:=r.dp;show A.depth+1+3 * k+5 < _;lia,r.gd,by have:=r.un;show A.units+3+16 * k+200 < _;lia⟩
theorem zmr:(A.under (.builtin "type.__call__" ⟨.ref C :: us,kw⟩)).depth=A.depth+1:=by
 first|rfl|simp[Around.under,Code.weight,Code.isCreation,Code.isGuard,Code.isCaller,Code.frames,Code.isFrame,guardIds]
theorem zqs:(A.under (.builtin "type.__call__" ⟨.ref C :: us,kw⟩)).units=A.units+1:=by
 first|rfl|simp[Around.under,Code.cUnits,Code.frames,Code.isFrame]
theorem Room.make{k:Nat}(r:Room (k+1) A)(C:Addr)(us:List Value)(kw:List (Str×Value)):Room k (A.under (.builtin "type.__call__" ⟨.ref C :: us,kw⟩)) :=
 ⟨r.hd,by have:=r.dp;rw[zmr];lia,r.gd,by have:=r.un;rw[zqs];lia⟩
theorem Room.depth{k:Nat}{A:Around}(r:Room k A):A.depth < recursionLimit:=by have:=r.dp;lia
theorem Room.units{k:Nat}{A:Around}(r:Room k A):A.units+64 < cLine:=by have:=r.un;lia
noncomputable def tNil:TA:=λ_ H Q=>Q [] H
noncomputable def zw2(ta:TE)(tr:TA):TA:=λY H Q=>ta Y H λx H1=>tr Y H1 λxs H2=>Q (x :: xs) H2
section
variable {X:Cx}{e:Expr}{es:List Expr}{te:TE}{t:TA}{pos:Pos}
theorem zg0:PA X [] tNil:=λ_ _ _ _ H Q I h=>Calls.spliced_nil ⟨[],H,I,.nil,h⟩
theorem za0(ha:PE X e te)(hr:PA X es t)(hs:starEach (e :: es) X.env=(false,eval e X.env) :: starEach es X.env:=by rfl):PA X (e :: es) (zw2 te t):=by
 intro pos pins s Y H Q I h;rw[hs];show wpAny _ _ (spliced ((false,eval e X.env) :: backTo pos (starEach es X.env))) _ _ s;refine Calls.spliced_cons (thn (ha pins s Y H _ I h) λu s1 hz=>?_);obtain⟨x,H1,I1,r1,q1⟩:=hz;exact thn (hr pos pins s1 Y H1 _ I1 q1) λus s2 ⟨xs,H2,I2,r2,q2⟩=>⟨x :: xs,H2,I2,.cons r1 r2,q2⟩
noncomputable def tTup(t:TA):TE:=λY H Q=>t Y H λxs H1=>xs.length<=sizeLine/\∀p,H1 p=none->Q (.ref p) (upd H1 p (.tup xs))
noncomputable def tLst(t:TA):TE:=λY H Q=>t Y H λxs H1=>xs.length<=sizeLine/\∀p,H1 p=none->Q (.ref p) (upd H1 p (.lst xs))
theorem zxc1{x1}(h:PA X es t):PE X (.Tuple es x1 pos) (tTup t):=by
 intro pins s Y H Q I hq;refine wpAny_Tuple_spliced (thn (h pos pins s Y H _ I hq) λus s1 ⟨xs,H1,I1,r,z,q⟩=>⟨by rw[<- r.length];exact z,?_⟩);have hf:H1 s1.heap.objs.size=none:=I1.hok.fresh (u3 _);refine⟨.ref s1.heap.objs.size,upd H1 s1.heap.objs.size (.tup xs),I1.laid (t':=s1.toks) (λb u e=>u5 _ e) (u3 _) ?_,rfl,q _ hf⟩;exact⟨z,us,r,⟨_,wI _ rfl,rfl,_,rfl⟩⟩
theorem zr91(h:PA X es t):PE X (.List es pos) (tLst t):=by
 intro pins s Y H Q I hq;refine wpAny_List_spliced (thn (h pos pins s Y H _ I hq) λus s1 ⟨xs,H1,I1,r,z,q⟩=>⟨by rw[<- r.length];exact z,?_⟩);have hf:H1 s1.heap.objs.size=none:=I1.hok.fresh (u3 _);refine⟨.ref s1.heap.objs.size,upd H1 s1.heap.objs.size (.lst xs),I1.laid (t':=s1.toks) (λb u e=>u5 _ e) (u3 _) ?_,rfl,q _ hf⟩;exact⟨z,us,0,r,wI _ rfl⟩
end
noncomputable abbrev Sp:=List V->Hp->VK->XK->Prop
noncomputable abbrev CXT:=List Env->Hp->Shared->XK->Value->Shared->Prop
structure Env0(P:Program)(w:World)(K:Fg)(mg:Str->Option Value)(base:Heap)(A:Around)(outer:List Env)(s:Shared)(H:Hp):Prop where
 frames:A.frames=some outer
 mod:Mod K mg base
 bs:∀b o,base.get? b=some o->s.heap.get? b=some o/\H b=none
 bsz:base.objs.size<=s.heap.objs.size
 funs:s.heap.FunFrames base outer
 frf:∀b∈frs outer,H b=none
 hok:HOk P w H s.heap
 bare:AllBare s.gens
noncomputable def CE(outer:List Env)(P:Program)(w:World)(H:Hp)(s:Shared)(Q:VK)(u:Value)(s':Shared):Prop :=
 ∃v H',s'.os=s.os/\AllBare s'.gens/\Un (frs outer) [] H H' s.heap s'.heap/\HOk P w H' s'.heap/\RelV v u/\Q v H'
noncomputable def CR(CX:CXT)(outer:List Env)(P:Program)(w:World)(H:Hp)(s:Shared)(Q:VK)(E:XK)(r:Result)(s':Shared):Prop :=
 match r with
|.ok (.ret u)=>CE outer P w H s Q u s'
|.ok _=>False
|.error e=>CX outer H s E e s'
structure FnOk(P:Program)(w:World)(K:Fg)(mg:Str->Option Value)(base:Heap)(CX:CXT)(k:Nat)(f:Addr)(fd:FuncData)(ps:List Str)(sp:Sp):Prop where
 len:∀vs H Q E,sp vs H Q E->vs.length=ps.length
 run:∀(A:Around)(outer:List Env)(s:Shared)(H:Hp)(args:Args)(us:List Value)(vs:List V)(Q:VK)(E:XK),Room k A->Env0 P w K mg base A outer s H->BindsTo s fd args (ps.zip us)->Vals vs us->sp vs H Q E ->
  codeAny (model P w) A (.call (.ref f) args) (CR CX outer P w H s Q E) s
theorem Env0.make{P:Program}{H:Hp}(e:Env0 P w K mg base A outer s H)(C:Addr)(us:List Value)(kw:List (Str×Value)) :
  Env0 P w K mg base (A.under (.builtin "type.__call__" ⟨.ref C :: us,kw⟩)) outer s H:=⟨by first|exact e.frames|(simpa[Around.under,Code.envs,Code.isFrame,pushEnvs]using e.frames),e.mod,e.bs,e.bsz,e.funs,e.frf,e.hok,e.bare⟩
section
variable {X:Cx}{pins:List (Addr×Obj)}{Y:St}{H:Hp}{s s':Shared}
theorem Inv.env0(I:Inv X pins Y H s):Env0 X.prog X.w X.K X.mg X.base X.A X.stack s H :=
 ⟨I.ok.frames,I.ok.mod,I.bs,wP I.ok.bsz I.sz,I.stack,I.stkFree,I.hok,I.bare⟩
theorem Inv.after{Q:VK}(I:Inv X pins Y H s)(h:CE X.stack X.prog X.w H s Q u s'):EP X pins Y Q u s':=by
 obtain⟨v,H',os,bare,un,hok,r,q⟩:=h;obtain⟨hh,g,d,t,os'⟩:=s';obtain rfl:os'=s.os:=os;exact⟨v,H',I.call (h':=hh) (g':=g) (d':=d) (t':=t) (ch:=[]) un hok bare (λb z=>absurd z (by simp)),r,q⟩
end
noncomputable def zl21(sp:Sp)(dvs:List V)(E:XK)(t:TA):TE:=λY H Q=>t Y H λvs H1=>sp (vs++dvs) H1 Q E
noncomputable def zi21(C:Addr)(m:Str)(sp:Sp)(dvs:List V)(E:XK)(ta:TE)(t:TA):TE:=λY H Q=>ta Y H λx H1=>∃a dx fs,x=.ref a/\H1 a=some (.ins C dx fs)/\fs.lookup m=none /\
 t Y H1 λvs H2=>sp (x :: (vs++dvs)) H2 Q E
noncomputable def zza1(C:Addr)(sp:Sp)(dvs:List V)(E:XK)(t:TA):TE:=λY H Q=>t Y H λvs H1=>∀x dx,H1 x=none->H1 dx=none->dx≠x ->
 sp (.ref x :: (vs++dvs)) (upd (upd H1 dx (.own x)) x (.ins C dx [])) (λv H2=>v=.non/\Q (.ref x) H2) E
noncomputable def Binds(K:Fg)(fd:FuncData)(ps:List Str)(ds:List Value):Prop :=
 ∀(s:Shared)(us:List Value),K.In s.heap->(us++ds).length=ps.length->BindsTo s fd ⟨us,[]⟩ (ps.zip (us++ds))
theorem Binds.all{fd:FuncData}(h:∀us:List Value,us.length=ps.length->bindArgs fd ⟨us,[]⟩=pure (ps.zip us)):Binds K fd ps []:=λs us _ hl=>by
 rw[wQ]at hl ⊢;exact .of_eq (h us hl)
noncomputable def zzh(CX:CXT)(X:Cx)(E:XK):Prop:=∀(pins:List (Addr×Obj))(Y:St)(H:Hp)(s:Shared)(e:Value)(s':Shared),Inv X pins Y H s->CX X.stack H s E e s'->X.xe e s'
section
variable {X:Cx}{CX:CXT}{k:Nat}{f C:Addr}{fd:FuncData}{ps:List Str}{sp:Sp}{dvs:List V}{ds:List Value}{E:XK}{x m:Str}{p pos apos:Pos}{e o:Expr}{es:List Expr}{ta:TE}{t:TA}
theorem zdu{Y:St}{H:Hp}{Q:VK}{vs:List V}(F:FnOk X.prog X.w X.K X.mg X.base CX k f fd ps sp)(hr:Room k X.A)(hb:Binds X.K fd ps ds)(hd:Vals dvs ds)(hx:zzh CX X E)
  (I:Inv X pins Y H s) (r:Vals vs us) (h:sp (vs++dvs) H Q E):wpAny (model X.prog X.w) X.A (call (.ref f) us) (EP X pins Y Q) X.xe s:=by
 have r2:Vals (vs++dvs) (us++ds):=r.append hd;have hl:(us++ds).length=ps.length:=by rw[<- r2.length];exact F.len _ _ _ _ h
 refine wpAny_call (codeAny_mono (F.run X.A X.stack s H ⟨us,[]⟩ (us++ds) (vs++dvs) Q E hr I.env0 (hb s us I.kIn hl) r2 h) λr s' hq=>?_);cases r with
|error e=>exact hx pins Y H s e s' I hq
|ok fl =>
  cases fl with
 |ret u=>exact I.after hq
 |next=>exact False.elim hq
 |brk=>exact False.elim hq
 |cont=>exact False.elim hq
theorem zd31(F:FnOk X.prog X.w X.K X.mg X.base CX k f fd ps sp)(hr:Room k X.A)(hg:Gl X x)(hm:X.mg x=some (.ref f))(hk:PySem.W.keepIn X.K (.ref f)=true)(hb:Binds X.K fd ps ds)(hd:Vals dvs ds)(hx:zzh CX X E)
  (ha:PA X (e :: es) t) (hdb:(x == ("__debug__":Str))=false:=by decide) (he:starEach (e :: es) X.env=(false,eval e X.env) :: starEach es X.env:=by rfl) (hpl:(backTo pos (starEach es X.env)).any (·.1)=false:=by rfl) :
  PE X (.Call (.Name x p) (e :: es) [] pos) (zl21 sp dvs E t):=by
 intro pins s Y H Q I h;refine wpAny_Call_Name_kw (zng I hg hm ?_ hdb);refine PySem.W.callWith_K (h₀:=X.base) I.ok.mod.kin hk (thn (ha pos pins s Y H _ I h) λus s1 ⟨vs,H1,I1,r,q⟩=>⟨I1.kIn,?_⟩) he hpl;exact zdu F hr hb hd hx I1 r q
theorem zj81{pl:Sem Bool}(he:PE X o ta)(c:Cls X.K C)(hm:Meth X.K C m f)(F:FnOk X.prog X.w X.K X.mg X.base CX k f fd ps sp)(hr:Room k X.A)(hb:Binds X.K fd ps ds)(hd:Vals dvs ds)(hx:zzh CX X E)(ha:PA X (e :: es) t)
  (hst:starEach (e :: es) X.env=(false,eval e X.env) :: starEach es X.env:=by rfl) (hpl:(backTo pos (starEach es X.env)).any (·.1)=false:=by rfl)
  (ht:eval (.Call (.Attribute o m apos) (e :: es) [] pos) X.env=(do
   let ov <- eval o X.env
   standAt apos.atName
   let (f,first) <- holding [ov] (getMethod ov m pl)
   callWith pos f first (backTo pos (starEach (e :: es) X.env)) (backToKw pos (keywordEach [] X.env))):=by rfl) :
  PE X (.Call (.Attribute o m apos) (e :: es) [] pos) (zi21 C m sp dvs E ta t):=by
 intro pins s Y H Q I h;refine PySem.W.methodCall_KW (pl:=pl) (thn (he pins s Y H _ I h) λu s1 hz=>?_) ht;obtain⟨x,H1,I1,rx,a,dx,fs,ex,ea,l,q⟩:=hz;subst ex;obtain rfl:u=u7 a:=rx;refine zd7 I1 ea c hm l ?_;refine PySem.W.callWith_K (first:=[.ref a]) (h₀:=X.base) I.ok.mod.kin hm.kp (thn (ha pos pins s1 Y H1 _ I1 q) λus s2 ⟨vs,H2,I2,r,q2⟩=>⟨I2.kIn,?_⟩) hst hpl;exact zdu (us:=.ref a :: us) (vs:=.ref a :: vs) F hr hb hd hx I2 (.cons rfl r) q2
theorem zay{pl:Sem Bool}(he:PE X o ta)(c:Cls X.K C)(hm:Meth X.K C m f)(F:FnOk X.prog X.w X.K X.mg X.base CX k f fd ps sp)(hr:Room k X.A)(hb:Binds X.K fd ps ds)(hd:Vals dvs ds)(hx:zzh CX X E)
  (ht:eval (.Call (.Attribute o m apos) [] [] pos) X.env=(do
   let ov <- eval o X.env
   standAt apos.atName
   let (f,first) <- holding [ov] (getMethod ov m pl)
   callWith pos f first (backTo pos (starEach [] X.env)) (backToKw pos (keywordEach [] X.env))):=by rfl) :
  PE X (.Call (.Attribute o m apos) [] [] pos) (zi21 C m sp dvs E ta tNil):=by
 intro pins s Y H Q I h;refine PySem.W.methodCall_KW (pl:=pl) (thn (he pins s Y H _ I h) λu s1 hz=>?_) ht;obtain⟨x,H1,I1,rx,a,dx,fs,ex,ea,l,q⟩:=hz;subst ex;obtain rfl:u=u7 a:=rx;refine zd7 I1 ea c hm l ?_;exact PySem.W.callWith_K0 (first:=[.ref a]) I1.kIn hm.kp (zdu (us:=[.ref a]) (vs:=[.ref a]) F hr hb hd hx I1 (.cons rfl .nil) q)
structure Mk(K:Fg)(C f:Addr):Prop where
 makes:PySem.W.makesIn K C=true
 init:PySem.W.findIn K (.ref C) "__init__"=some (some (.ref f))
 fn:PySem.W.isFn K (.ref f)=true
 kp:PySem.W.keepIn K (.ref C)=true
theorem zwy{Y:St}{H:Hp}{Q:VK}{vs:List V}(M:Mk X.K C f)(F:FnOk X.prog X.w X.K X.mg X.base CX k f fd ps sp)(hr:Room (k+1) X.A)(hb:Binds X.K fd ps ds)(hd:Vals dvs ds)
  (hx:zzh CX X E) (I:Inv X pins Y H s) (r:Vals vs us)
  (h:∀x dx,H x=none->H dx=none->dx≠x->sp (.ref x :: (vs++dvs)) (upd (upd H dx (.own x)) x (.ins C dx [])) (λv H2=>v=.non/\Q (.ref x) H2) E) :
  wpAny (model X.prog X.w) X.A (call (.ref C) us) (EP X pins Y Q) X.xe s:=by
 have hq:=h (s.heap.objs.size+1) s.heap.objs.size (I.hok.fresh (xQ _)) (I.hok.fresh (u3 _)) (wN (zP _));have I2:=Inv.made (C:=C) I;have r2:Vals (V.ref (s.heap.objs.size+1) :: (vs++dvs)) (u7 (s.heap.objs.size+1) :: (us++ds)):=.cons rfl (r.append hd);have hl:(u7 (s.heap.objs.size+1) :: us++ds).length=ps.length:=by
  have e:=r2.length;rw[F.len _ _ _ _ hq]at e;exact e.symm
 refine wpAny_call (zz01 (f:=f) I.kIn M.makes M.init (beq_iff_eq.mp M.fn) (codeAny_mono (F.run _ X.stack _ _ ⟨u7 (s.heap.objs.size+1) :: us,[]⟩ (u7 (s.heap.objs.size+1) :: (us++ds)) _ _ E (hr.make C us [])
  (I2.env0.make C us []) (hb _ (u7 (s.heap.objs.size+1) :: us) I2.kIn hl) r2 hq) λr s' hq'=>?_))
 cases r with
|error e=>exact hx pins Y _ _ e s' I2 hq'
|ok fl =>
  cases fl with
 |ret u =>
   obtain⟨v,H',I3,rv,ev,q3⟩:=I2.after hq';subst ev;exact⟨rv,⟨V.ref (s.heap.objs.size+1),H',I3,rfl,q3⟩⟩
 |next=>exact False.elim hq'
 |brk=>exact False.elim hq'
 |cont=>exact False.elim hq'
theorem zg51(M:Mk X.K C f)(F:FnOk X.prog X.w X.K X.mg X.base CX k f fd ps sp)(hr:Room (k+1) X.A)(hg:Gl X x)(hm:X.mg x=some (.ref C))(hb:Binds X.K fd ps ds)(hd:Vals dvs ds)(hx:zzh CX X E)
  (ha:PA X (e :: es) t) (hdb:(x == ("__debug__":Str))=false:=by decide) (he:starEach (e :: es) X.env=(false,eval e X.env) :: starEach es X.env:=by rfl) (hpl:(backTo pos (starEach es X.env)).any (·.1)=false:=by rfl) :
  PE X (.Call (.Name x p) (e :: es) [] pos) (zza1 C sp dvs E t):=by
 intro pins s Y H Q I h;refine wpAny_Call_Name_kw (zng I hg hm ?_ hdb);refine PySem.W.callWith_K (h₀:=X.base) I.ok.mod.kin M.kp (thn (ha pos pins s Y H _ I h) λus s1 ⟨vs,H1,I1,r,q⟩=>⟨I1.kIn,?_⟩) he hpl;exact zwy M F hr hb hd hx I1 r q
end
structure FnScope(N P:List Str)(sc:Scope):Prop where
 kind:sc.kind=.function
 co:sc.isCoroutine=false
 gen:sc.isGenerator=false
 nd:N.Nodup
 pre:N.take P.length=P
 par:∀x∈P,sc.names.lookup x=some .local \/ sc.names.lookup x=some .cell
 nofree:∀y∈sc.names,y.2≠.free
theorem zul{kindOf:Str->Option NameKind}{x:Str}:∀{binds:List (Str×Value)}{m:Str->Option Value},(∀v,(x,v) ∉ binds)->bindL kindOf binds m x=m x
|[],_,_=>rfl
|(n,v) :: r,m,h=>by
  unfold bindL;rw[zul λw hw=>h w (v8 _ hw)];split
  ·have:x≠n:=by rintro rfl;exact h v wJ
   simp[this]
  ·rfl
theorem zom{kindOf:Str->Option NameKind}{x:Str}:∀{binds:List (Str×Value)}{m:Str->Option Value},(∀v,(x,v) ∉ binds)->bindC kindOf binds m x=m x
|[],_,_=>rfl
|(n,v) :: r,m,h=>by
  unfold bindC;rw[zom λw hw=>h w (v8 _ hw)];split
  ·rfl
  ·have:x≠n:=by rintro rfl;exact h v wJ
   simp[this]
theorem zqm{kindOf:Str->Option NameKind}{x:Str}{v:Value}:∀{P:List Str}{vs:List Value}{i:Nat}{m:Str->Option Value},P.Nodup->P[i]?=some x->vs[i]?=some v->kindOf x=some .local ->
  bindL kindOf (P.zip vs) m x=some v
|[],_,_,_,_,h,_,_=>by simp at h
|_ :: _,[],_,_,_,_,h,_=>by simp at h
|p :: P,w :: vs,0,m,nd,h1,h2,hk=>by
  simp at h1 h2;subst h1;subst h2;show bindL kindOf ((p,w) :: P.zip vs) m p=_;unfold bindL;rw[zul λv hv=>(wG.mp nd).1 (zQ hv).1,if_pos hk];simp
|p :: P,w :: vs,i+1,m,nd,h1,h2,hk=>by
  show bindL kindOf ((p,w) :: P.zip vs) m x=_;unfold bindL;exact zqm (i:=i) (wG.mp nd).2 (by simpa using h1) (by simpa using h2) hk
theorem zen{kindOf:Str->Option NameKind}{x:Str}{v:Value}:∀{P:List Str}{vs:List Value}{i:Nat}{m:Str->Option Value},P.Nodup->P[i]?=some x->vs[i]?=some v->kindOf x≠some .local ->
  bindC kindOf (P.zip vs) m x=some v
|[],_,_,_,_,h,_,_=>by simp at h
|_ :: _,[],_,_,_,_,h,_=>by simp at h
|p :: P,w :: vs,0,m,nd,h1,h2,hk=>by
  simp at h1 h2;subst h1;subst h2;show bindC kindOf ((p,w) :: P.zip vs) m p=_;unfold bindC;rw[zom λv hv=>(wG.mp nd).1 (zQ hv).1,if_neg hk];simp
|p :: P,w :: vs,i+1,m,nd,h1,h2,hk=>by
  show bindC kindOf ((p,w) :: P.zip vs) m x=_;unfold bindC;exact zen (i:=i) (wG.mp nd).2 (by simpa using h1) (by simpa using h2) hk
noncomputable def start(N:List Str)(vs:List V):St:=vs.map some++v9 (N.length - vs.length) none
noncomputable def cxOf(CX:CXT)(P:Program)(w:World)(K:Fg)(mg:Str->Option Value)(base:Heap)(N:List Str)(qual:Str)(scope:Scope)(f:Addr)(cd:Value)(A:Around)(outer:List Env)(s:Shared)(H:Hp)(E:XK):Cx where
 prog:=P
 w:=w
 K:=K
 mg:=mg
 base:=base
 A:=A.deeper (envOfC qual scope s.heap.objs.size f cd)
 N:=N
 s₀:=s
 H₀:=H
 env:=envOfC qual scope s.heap.objs.size f cd
 outer:=outer
 stack:=envOfC qual scope s.heap.objs.size f cd :: outer
 ex:=[]
 calm:=true
 fn:=λ_=>true
 pn:=[]
 xe:=λe s'=>wpAny (model P w) (A.deeper (envOfC qual scope s.heap.objs.size f cd)) (leaving (envOfC qual scope s.heap.objs.size f cd) e) (λ_ s''=>CX outer H s E e s'') (λe' s''=>CX outer H s E e' s'') s'
theorem zhr{sc:Scope}(h:sc.names.lookup x=some .cell):∃c,(cellsFrom n sc.names []).lookup x=some c:=by
 have q:=PySem.W.cellsFrom_some sc.names n [] (.inl h);exact yV.mp q
theorem ziv{CX:CXT}{P:Program}{f:Addr}{cd:Value}{s1:Shared}{H:Hp}{E:XK}{vs:List V}
  (S:FnScope N ps scope) (hd:A.handled=none) (e0:Env0 P w K mg base A outer s H) (hl:vs.length=ps.length) (r:Vals vs us)
  (x:InCallC s s.heap.objs.size (bindL (envOfC qual scope s.heap.objs.size f cd).kindOf (ps.zip us) λ_=>none) (cellsFrom (s.heap.objs.size+1) scope.names []) (bindC (envOfC qual scope s.heap.objs.size f cd).kindOf (ps.zip us) λ_=>none) s1) :
  Inv (cxOf CX P w K mg base N qual scope f cd A outer s H E) [] (start N vs) H s1:=by
 have hpl:ps.length<=N.length:=by have:=congrArg List.length S.pre;rw[yA]at this;lia
 obtain⟨h1,tk,rfl,hk⟩:=x.done;have noA:∀b:Addr,b ∉ (cxOf CX P w K mg base N qual scope f cd A outer s H E).ex:=λb z=>absurd (show b∈([]:List Addr)from z) (by simp);refine⟨⟨e0.mod,S.kind,rfl,rfl,u3 _,λy z c h1 h2=>?_,λy hy=>?_,λy c _ h=>?_,λ_=>hd,Around.frames_deeper e0.frames,.inr ⟨rfl,rfl⟩,λb z=>absurd z (noA b),e0.bs,e0.bsz,λb _ _=>noA b,λb z=>absurd z (noA b),e0.funs,e0.frf⟩,
  rfl,e0.bare,Un.kept hk,⟨_,x.toInCall.ns,λi y v h1 h2 h3=>?_⟩,λy c h=>⟨_,x.cell y c h⟩,e0.hok.fresh (u3 _),λy c h=>?_,λp hp=>absurd (show p∈([]:List (Addr×Obj))from hp) (by simp),e0.hok.kept hk,?_⟩
 ·exact name_of_addr x.apart (PySem.mem_of_lookup h1) (PySem.mem_of_lookup h2)
 ·have hy:scope.names.lookup y=some .cell \/ scope.names.lookup y=some .free:=hy;rcases hy with hy|hy
  ·exact zhr hy
  ·exact absurd rfl (S.nofree _ (PySem.mem_of_lookup hy))
 ·exact yM (x.above y c (PySem.mem_of_lookup h))
 ·have hi:i < vs.length:=by
   unfold start at h2;by_cases hi:i < vs.length
   ·exact hi
   ·rw[xC (by simpa using hi)]at h2;rw[xK]at h2;split at h2 <;> cases h2
  have ha:vs[i]?=some v:=by
   unfold start at h2;rw[xD (by simpa using hi),wD]at h2;cases e:vs[i]? with
  |none=>rw[e]at h2;cases h2
  |some a=>rw[e]at h2;cases h2;rfl
  obtain⟨u,hu,rv⟩:=r.get ha;have hp:ps[i]?=some y:=by
   rw[<- S.pre,List.getElem?_take_of_lt (by lia)];exact h1
  have ndP:ps.Nodup:=by rw[<- S.pre];exact S.nd.sublist (List.take_sublist _ _)
  refine⟨u,rv,?_⟩;rcases S.par y (wT hp)with k|k
  ·exact .inl ⟨k,zqm ndP hp hu k⟩
  ·obtain⟨c,e⟩:=zhr (n:=s.heap.objs.size+1) k;refine .inr ⟨.inl k,c,e,?_⟩;have q:=x.cell y c e;rw[zen ndP hp hu (by show scope.names.lookup y≠_;rw[k];decide)]at q;exact q
 ·exact e0.hok.fresh (yM (x.above y c (PySem.mem_of_lookup h)))
 ·unfold start;show _=N.length;rw[yB,u4,zR];lia
theorem zwe1{CX:CXT}{P:Program}{k:Nat}{f:Addr}{name:Str}{params:Arguments}{dV kV doc pm cdv ct oc:Value}{an od:Option Addr}
  {osl:Array (Option Value)} {sp:Sp} (lk:K.lookup f=some ⟨oc,od,.func (PySem.W.fnOf name qual params body scope dV kV doc pm an cdv ct),osl⟩) (hcd:PySem.W.codeIn K cdv qual=true) (S:FnScope N ps scope)
  (len:∀vs H Q E,sp vs H Q E->vs.length=ps.length)
  (hbody:∀(A:Around)(outer:List Env)(s:Shared)(H:Hp)(vs:List V)(Q:VK)(E:XK),Room k (A.deeper (envOfC qual scope s.heap.objs.size f cdv))->sp vs H Q E ->
   ∃t,PSs (cxOf CX P w K mg base N qual scope f cdv A outer s H E) body t/\t { nx:=λ_ H'=>Q .non H',rt:=Q } (start N vs) H) :
  FnOk P w K mg base CX (k+1) f (PySem.W.fnOf name qual params body scope dV kV doc pm an cdv ct) ps sp:=by
 refine⟨len,λA outer s H args us vs Q E hr e0 hb r hsp=>?_⟩;have hl:=len _ _ _ _ hsp;have KX:K.In s.heap:=e0.mod.kin.keeps λb o e=>(e0.bs b o e).1;have lim:s.heap.NoLimit:=e0.mod.nolimit.keeps λb o e=>(e0.bs b o e).1;have hkind:∀y∈ps.zip us,scope.names.lookup y.1=some .local \/ (scope.names.lookup y.1=some .cell/\((cellsFrom (s.heap.objs.size+1) scope.names []).lookup y.1).isSome=true):=λ⟨n,v⟩ hy=>by
  rcases S.par n (zQ hy).1 with q|q
  ·exact .inl q
  ·exact .inr ⟨q,PySem.W.cellsFrom_some _ _ _ (.inl q)⟩
 refine codeAny_call_function hr.depth (KX _ _ lk) rfl S.co S.gen rfl (PySem.W.codeRec_of KX hcd) (hb _ _ _ _ ?_);refine wpAny_newFunctionEnv_cells S.kind hkind λenv he s1 x=>?_;subst he;refine⟨lim.keeps x.toInCall.keep,codeAny_func ?_⟩;obtain⟨t,ht,hq⟩:=hbody A outer s H vs Q E (hr.deeper _) hsp;have I:Inv (cxOf CX P w K mg base N qual scope f cdv A outer s H E) [] (start N vs) H s1:=ziv S hr.hd e0 hl r x;refine wpAny_mono (ht [] s1 (start N vs) H _ I hq) (λfl s' hs=>?_) λe s' hs=>hs;have fin:∀{Y':St}{H':Hp}{v:V}{u:Value},Inv (cxOf CX P w K mg base N qual scope f cdv A outer s H E) [] Y' H' s'->RelV v u->Q v H'->CE outer P w H s Q u s' :=
  λ{Y' H' v u} J rv q=>⟨v,H',J.os,J.bare,J.base,J.hok,rv,q⟩
 cases fl with
|ret u =>
  obtain⟨v,Y',H',J,rv,q⟩:=hs;exact fin J rv q
|next =>
  obtain⟨Y',H',J,q⟩:=hs;exact fin (v:=V.non) (u:=xG) J rfl q
|brk =>
  obtain⟨_,_,_,q⟩:=hs;exact False.elim q
|cont =>
  obtain⟨_,_,_,q⟩:=hs;exact False.elim q
section
variable {X:Cx}{x:Str}{p pos:Pos}{e:Expr}{es:List Expr}{t:TA}{id T:String}{r:List V->Hp->VK->Prop}
noncomputable def tCB(r:List V->Hp->VK->Prop)(t:TA):TE:=λY H Q=>t Y H λvs H1=>r vs H1 Q
theorem zb1(hc:CallR X (.builtin id) r)(hg:Gl X x)(hm:X.mg x=none)(hv:bootBuiltins x=some (.builtin id))(ha:PA X (e :: es) t)(hn:x ≠ "__name__":=by decide)(hdb:(x == ("__debug__":Str))=false:=by decide)
  (he:starEach (e :: es) X.env=(false,eval e X.env) :: starEach es X.env:=by rfl) (hpl:(backTo pos (starEach es X.env)).any (·.1)=false:=by rfl):PE X (.Call (.Name x p) (e :: es) [] pos) (tCB r t):=by
 intro pins s Y H Q I h;refine wpAny_Call_Name_kw (zuk I hg hm hv ?_ hn hdb);exact PyProof.Rows.callWith_builtin1 (thn (ha pos pins s Y H _ I h) λus s1 ⟨vs,H1,I1,r1,q1⟩=>hc pins s1 Y H1 vs us Q I1 r1 q1) he hpl
theorem zp2(hc:CallR X (.type T) r)(hg:Gl X x)(hm:X.mg x=none)(hv:bootBuiltins x=some (.type T))(ha:PA X (e :: es) t)(hn:x ≠ "__name__":=by decide)(hdb:(x == ("__debug__":Str))=false:=by decide)
  (he:starEach (e :: es) X.env=(false,eval e X.env) :: starEach es X.env:=by rfl) (hpl:(backTo pos (starEach es X.env)).any (·.1)=false:=by rfl):PE X (.Call (.Name x p) (e :: es) [] pos) (tCB r t):=by
 intro pins s Y H Q I h;refine wpAny_Call_Name_kw (zuk I hg hm hv ?_ hn hdb);exact PyProof.Rows.callWith_type1 (thn (ha pos pins s Y H _ I h) λus s1 ⟨vs,H1,I1,r1,q1⟩=>hc pins s1 Y H1 vs us Q I1 r1 q1) he hpl
end
end _2
namespace HT
open PySem PyProof.Rows
variable {hi lo:Option Int}{sl:Addr}{vl vu:Value}
section
variable {prog:Program}{w:World}{A:Around}{E:Value->Shared->Prop}{s:Shared}
theorem cat_tup{t b:Addr}{vs ws:List Value}{Q:Value->Shared->Prop}(ht:IsTup s.heap t vs.toArray)(hb:IsTup s.heap b ws.toArray)(hv:vs≠[])
  (h1:ws=[]->Q (.ref t) s) (h2:ws≠[]->Q (.ref s.heap.objs.size) { s with heap:=s.heap.push { cls:=.type "tuple",data:=.seq (vs++ws).toArray } })
  (hsz:vs.length+ws.length<=sizeLine):wpAny (model prog w) A (binaryOp .Add (.ref t) (.ref b)) Q E s:=by
 obtain⟨⟨cls,dd,data,sl⟩,ho,hc,n,hd⟩:=id ht;obtain⟨⟨cls2,dd2,data2,sl2⟩,ho2,hc2,n2,hd2⟩:=id hb;simp only at hc hd hc2 hd2;subst hc hd hc2 hd2;have e:vs.toArray++ws.toArray=(vs++ws).toArray:=by simp
 by_cases hw:ws=[]
 ·exact concat_meets ⟨_,ho,rfl⟩ ⟨_,ho2,rfl⟩ noFill_tuple_add seq_tuple_add ğm ğj (ği _ _)
   (tuple_addW1 t b vs.toArray ws.toArray n n2 dd dd2 sl sl2 (by simpa using hv) (by simp[hw])) ⟨ho,ho2,h1 hw⟩
 ·refine concat_meets ⟨_,ho,rfl⟩ ⟨_,ho2,rfl⟩ noFill_tuple_add seq_tuple_add ğm ğj (ği _ _)
   (tuple_addW2 t b vs.toArray ws.toArray n n2 dd dd2 sl sl2 (by simpa using hv) (by simpa using hw) (by rw[wE,wE];exact hsz)) ⟨ho,ho2,?_⟩
  rw[e];exact h2 hw
noncomputable def sIx(n d:Nat):Option Int->Nat
|none=>d
|some v=>if v < 0 then(v+(n:Int)).toNat else min v.toNat n
theorem sIx_none(n d:Nat):sIx n d none=d:=rfl
theorem sIx_nat(n d k:Nat):sIx n d (some (k:Int))=min k n:=by
 show(if(k:Int) < 0 then((k:Int)+(n:Int)).toNat else min (k:Int).toNat n)=min k n;rw[if_neg (by lia),wH]
theorem zoa1(n d:Nat)(hd:d<=n)(o:Option Int):sIx n d o<=n:=by
 cases o with
|none=>exact hd
|some v =>
  show(if v < 0 then(v+(n:Int)).toNat else min v.toNat n)<=n;by_cases hv:v < 0
  ·rw[if_pos hv];lia
  ·rw[if_neg hv];exact Nat.min_le_right _ _
theorem zlw(v:Int)(n d:Nat):(if v < 0 then max (v+(n:Int)) 0 else min v (n:Int))=((sIx n d (some v):Nat):Int):=by
 show(if v < 0 then max (v+(n:Int)) 0 else min v (n:Int))=(((if v < 0 then(v+(n:Int)).toNat else min v.toNat n):Nat):Int)
 by_cases hv:v < 0
 ·simp only[if_pos hv];lia
 ·simp only[if_neg hv];lia
theorem zfp(lo hi:Option Int)(n:Nat):Builtin.Slice.sliceAdjust lo hi 1 (n:Int)=(((sIx n 0 lo:Nat):Int),((sIx n n hi:Nat):Int)):=by
 have h1:¬((1:Int) < 0):=by lia
 unfold Builtin.Slice.sliceAdjust;simp only[h1,if_false];refine Prod.ext ?_ ?_
 ·cases lo with
 |none=>rfl
 |some v=>exact zlw v n 0
 ·cases hi with
 |none=>rfl
 |some v=>exact zlw v n n
theorem zqr(i j:Nat):Builtin.Slice.slicePlaces (i:Int) (j:Int) 1=j - i:=by
 unfold Builtin.Slice.slicePlaces;have h1:(1:Int) > 0:=by lia
 simp only[h1,if_true,Int.ediv_one];split <;> lia
theorem zbi{v:Value}{o:Option Int}{Q:Option Int->Shared->Prop}(p:IsPart v o)(h:Q o s):wpAny (model prog w) A (Builtin.Slice.slicePartIndex v) Q E s:=by
 cases p with
|none=>exact slicePart_none h
|int i t=>exact slicePart_int h
theorem zxe{n:Nat}{Q:Int×Int×Nat->Shared->Prop}(hs:s.heap.IsSliceOf sl vl vu .none)(pl:IsPart vl lo)(pu:IsPart vu hi)
  (h:Q (((sIx n 0 lo:Nat):Int),1,sIx n n hi - sIx n 0 lo) s):wpAny (model prog w) A (Builtin.Slice.sliceApplied (.ref sl) (pure (n:Int))) Q E s:=by
 obtain⟨os,hos,hcs,hds⟩:=id hs;unfold Builtin.Slice.sliceApplied Builtin.Slice.sliceFields;refine wpAny_bind (wpAny_bind (wpAny_field hos hds (x:=vl) rfl (wpAny_bind (wpAny_field hos hds (x:=vu) rfl (wpAny_bind (wpAny_field hos hds (x:=.none) rfl (wpAny_pure ?_)))))));refine wpAny_bind (slicePart_none ?_);show wpAny _ _ (if((1:Int) == 0)=true then _ else _) _ _ s;rw[if_neg (by decide)];refine wpAny_bind (zbi pl (wpAny_bind (zbi pu (wpAny_bind (wpAny_pure ?_)))));show wpAny _ _ (match Builtin.Slice.sliceAdjust lo hi 1 (n:Int)with|(lo,hi)=>pure (lo,(1:Int),Builtin.Slice.slicePlaces lo hi 1)) _ _ s;rw[zfp lo hi n];show wpAny _ _ (pure (((sIx n 0 lo:Nat):Int),(1:Int),Builtin.Slice.slicePlaces ((sIx n 0 lo:Nat):Int) ((sIx n n hi:Nat):Int) 1)) _ _ s;rw[zqr];exact wpAny_pure h
theorem zhy(xs:Array Value)(i k:Nat):((w9 k).filterMap λ(m:Nat)=>xs[((i:Int)+(m:Int) * 1).toNat]?).toArray=((xs.toList.drop i).take k).toArray:=by
 have e:(λ(m:Nat)=>xs[((i:Int)+(m:Int) * 1).toNat]?)=λm=>xs[i+m]?:=by
  funext m;have:((i:Int)+(m:Int) * 1).toNat=i+m:=by lia
  rw[this]
 rw[e];have:=pick_run xs i k;rw[j3]at this;have e2:((λx=>xs[x]?) ∘ λx=>i+x)=λm=>xs[i+m]?:=rfl;rw[e2]at this;rw[this]
theorem getItem_tuple_cut{t:Addr}{items:Array Value}{Q:Value->Shared->Prop}(ht:IsTup s.heap t items)(hs:s.heap.IsSliceOf sl vl vu .none)(pl:IsPart vl lo)(pu:IsPart vu hi)
  (hw:¬(sIx items.size 0 lo=0/\sIx items.size items.size hi=items.size))
  (h:Q (.ref s.heap.objs.size) { s with heap:=s.heap.push { cls:=.type "tuple",data:=.seq ((items.toList.drop (sIx items.size 0 lo)).take (sIx items.size items.size hi - sIx items.size 0 lo)).toArray } })
  (hsz:items.size<=sizeLine):wpAny (model prog w) A (getItem (.ref t) (.ref sl)) Q E s:=by
 have htake:sizeOk (.seq ((items.toList.drop (sIx items.size 0 lo)).take (sIx items.size items.size hi - sIx items.size 0 lo)).toArray):=by
  show((items.toList.drop (sIx items.size 0 lo)).take (sIx items.size items.size hi - sIx items.size 0 lo)).toArray.size<=sizeLine;rw[wE,yA,List.length_drop,xJ];lia
 have hj:sIx items.size items.size hi<=items.size:=zoa1 _ _ (u3 _) hi;obtain⟨os,hos,hcs,hds⟩:=id hs;have hTs:s.TypeIs (.ref sl) "slice":=⟨os,hos,hcs⟩
 unfold getItem
 try with_reducible refine wpAny_holding ?_
 first|refine wpAny_bind (wpAny_pure ?_)|skip
 refine wpAny_bind (wpAny_sequenceKey ht.typeIs (by decide) ?_);refine wpAny_bind (wpAny_callSpecial?_slot (name:=wY "__getitem__") ht.typeIs PyProof.Rows.slot_tuple_getitem
  (wpAny_call_entry PyProof.Rows.slot_tuple_getitem ht.typeIs entry_tuple_getitem ?_ (args_tuple_getitem _ _)))
 show wpAny _ _ (Builtin.Tuple.tupleItemsOf (.ref t) >>= _) _ _ s;refine wpAny_bind (tupleItemsOf_ ht ?_);refine wpAny_bind (wpAny_typeOf hTs ?_);rw[if_pos (by decide)];refine wpAny_bind (zxe hs pl pu ?_);have hno:¬((((sIx items.size 0 lo:Nat):Int) == 0 && (1:Int) == 1 && (sIx items.size items.size hi - sIx items.size 0 lo) == items.size)=true):=by
  intro q;rw[Bool.and_eq_true,Bool.and_eq_true]at q;have q1:((sIx items.size 0 lo:Nat):Int)=0:=eq_of_beq q.1.1;have q2:sIx items.size items.size hi - sIx items.size 0 lo=items.size:=eq_of_beq q.2;exact hw ⟨by lia,by lia⟩
 show wpAny _ _ (if(((sIx items.size 0 lo:Nat):Int) == 0 && (1:Int) == 1 && (sIx items.size items.size hi - sIx items.size 0 lo) == items.size)=true then _ else _) _ _ s;rw[if_neg hno,zhy]
 first
 |exact wpAny_bind (m:=Builtin.Tuple.tupleExact _) (wpAny_newObj_type (wpAny_pure ⟨_,rfl,wpAny_pure h⟩) htake)
 |exact wpAny_bind (m:=Builtin.Tuple.tupleExact _) (wpAny_newObj_type (wpAny_bind (wpAny_pure (wpAny_pure ⟨_,rfl,wpAny_pure h⟩))) htake)
 |exact wpAny_bind (wpAny_bind (m:=Builtin.Tuple.tupleExact _) (wpAny_newObj_type (wpAny_pure (wpAny_pure ⟨_,rfl,wpAny_pure h⟩)) htake))
 |exact wpAny_bind (wpAny_bind (m:=Builtin.Tuple.tupleExact _) (wpAny_newObj_type (wpAny_pure ⟨_,rfl,wpAny_pure h⟩) htake))
end
end HT
namespace _2
open PySem PySem.Spec PyProof.Rows
variable {Y:St}{i:Int}{its us:List Value}{n:Nat}{pins:List (Addr×Obj)}{s:Shared}{x:V}
noncomputable abbrev TO:=St->Hp->(Option Int->Hp->Prop)->Prop
noncomputable def PO(X:Cx)(e:Option Expr)(t:TO):Prop :=
 ∀(pins:List (Addr×Obj))(s:Shared)(Y:St)(H:Hp)(Q:Option Int->Hp->Prop),Inv X pins Y H s->t Y H Q ->
  wpAny (model X.prog X.w) X.A (evalPart e X.env) (λu s'=>∃o H',Inv X pins Y H' s'/\IsPart u o/\Q o H') X.xe s
noncomputable def zzw:TO:=λ_ H Q=>Q none H
noncomputable def zpf1(t:TE):TO:=λY H Q=>t Y H λx H1=>∃i,x=.int i/\Q (some i) H1
theorem zat{ns:List Int}:∀{us:List Value},Vals (ns.map V.int) us->IntsAre us ns:=by
 induction ns with
|nil=>intro us r;rw[yC]at r;cases r;exact .nil
|cons n ns ih =>
  intro us r;rw[wM]at r;cases r with
 |cons r1 r2 =>
   obtain⟨t,e⟩:=r1;subst e;exact .cons n t (ih r2)
section
variable {X:Cx}{e:Expr}{te:TE}{lo hi:Option Expr}{tl th:TO}{pos p2:Pos}
theorem ziw:PO X none zzw:=by
 intro pins s Y H Q I h;rw[evalPart_none];exact wpAny_pure ⟨none,H,I,.none,h⟩
theorem zx21(h:PE X e te):PO X (some e) (zpf1 te):=by
 intro pins s Y H Q I hw;rw[evalPart_some];refine thn (h pins s Y H _ I hw) λu s1 hz=>?_;obtain⟨x,H1,I1,r1,q1⟩:=hz;obtain⟨i,rfl,q⟩:=q1;obtain⟨t,rfl⟩:=r1;exact⟨some i,H1,I1,.int i t,q⟩
noncomputable def SlR(X:Cx)(r:V->Option Int->Option Int->Hp->VK->Prop):Prop :=
 ∀(pins:List (Addr×Obj))(s:Shared)(Y:St)(H:Hp)(x:V)(v vl vu:Value)(lo hi:Option Int)(sl:Addr)(Q:VK),Inv X pins Y H s->RelV x v->s.heap.IsSliceOf sl vl vu .none->IsPart vl lo->IsPart vu hi->r x lo hi H Q ->
  ∃T id,typeLookup (.type T) "__getitem__"=pure (some (.builtin id))/\s.TypeIs v T/\wpAny (model X.prog X.w) X.A (getItem v (.ref sl)) (EP X pins Y Q) X.xe s
theorem SlR.or{r r':V->Option Int->Option Int->Hp->VK->Prop}(h:SlR X r)(h':SlR X r'):SlR X (λx lo hi H Q=>r x lo hi H Q \/ r' x lo hi H Q):=by
 intro pins s Y H x v vl vu lo hi sl Q I rx hs pl pu q;rcases q with q|q
 ·exact h pins s Y H x v vl vu lo hi sl Q I rx hs pl pu q
 ·exact h' pins s Y H x v vl vu lo hi sl Q I rx hs pl pu q
noncomputable def tSl(r:V->Option Int->Option Int->Hp->VK->Prop)(te:TE)(tl th:TO):TE:=λY H Q=>te Y H λx H1=>tl Y H1 λl H2=>th Y H2 λu H3=>r x l u H3 Q
theorem zg01{r:V->Option Int->Option Int->Hp->VK->Prop}(hr:SlR X r)(he:PE X e te)(hl:PO X lo tl)(hu:PO X hi th):PE X (.Subscript e (.Slice lo hi none p2) pos) (tSl r te tl th):=by
 intro pins s Y H Q I h;refine Subscript_ (thn (he pins s Y H _ I h) λv s1 hz=>?_);obtain⟨x,H1,I1,r1,q1⟩:=hz;refine wpAny_Slice (thn (hl pins s1 Y H1 _ I1 q1) λvl s2 ⟨l,H2,I2,pl,q2⟩=>thn (hu pins s2 Y H2 _ I2 q2) λvu s3 hz=>?_);obtain⟨u,H3,I3,pu,q3⟩:=hz;rw[evalPart_none];refine wpAny_pure ?_;have I4:Inv X pins Y H3 { s3 with heap:=s3.heap.push { cls:=.type "slice",data:=.fields #[vl,vu,.none] } }:=I3.kept (t':=s3.toks) λb ob q=>u5 _ q;obtain⟨T,id,hT,ht,hg⟩:=hr pins { s3 with heap:=s3.heap.push { cls:=.type "slice",data:=.fields #[vl,vu,.none] } } Y H3 x v vl vu l u s3.heap.objs.size Q I4 r1 (Heap.IsSliceOf.new ..) pl pu q3;show wpAny (model X.prog X.w) X.A (subscriptTail e (.Slice lo hi none p2) v (.ref s3.heap.objs.size)) (EP X pins Y Q) X.xe { s3 with heap:=s3.heap.push { cls:=.type "slice",data:=.fields #[vl,vu,.none] } };exact tail_any (ops:=[.ref s3.heap.objs.size,v]) ht hT hg (by with_unfolding_all rfl)
noncomputable def cutV(xs:List V)(lo hi:Option Int):List V:=(xs.drop (HT.sIx xs.length 0 lo)).take (HT.sIx xs.length xs.length hi - HT.sIx xs.length 0 lo)
theorem zbg(xs:List V)(lo hi:Option Int):(cutV xs lo hi).length<=xs.length:=by
 unfold cutV;rw[yA,List.length_drop];lia
noncomputable def rSlT(K:Fg):V->Option Int->Option Int->Hp->VK->Prop:=λx lo hi H Q=>∃a xs,x=.ref a/\SqT K H a xs /\
 ¬(HT.sIx xs.length 0 lo=0/\HT.sIx xs.length xs.length hi=xs.length)/\∀p,H p=none->Q (.ref p) (upd H p (.tup (cutV xs lo hi)))
theorem zjc1:SlR X (rSlT X.K):=by
 intro pins s Y H x v vl vu lo hi sl Q I rx hs pl pu h;obtain⟨a,xs,rfl,hx,hw,q⟩:=h;cases rx;obtain⟨its,r,ht,hz⟩:=I.tuple hx;have hlen:its.toArray.size=xs.length:=by rw[wE];exact r.length.symm
 refine⟨"tuple",_,PyProof.Rows.slot_tuple_getitem.lookup,ht.typeIs,?_⟩;refine HT.getItem_tuple_cut ht hs pl pu (by rw[hlen];exact hw) ?_ (by rw[hlen];exact hz);rw[hlen];refine⟨.ref s.heap.objs.size,_,I.laid (t':=s.toks) (o:=.tup (cutV xs lo hi)) (λb ob q=>u5 _ q) (u3 _) ?_,rfl,q _ (I.hok.fresh (u3 _))⟩;exact⟨wP (zbg xs lo hi) hz,_,(r.drop (HT.sIx xs.length 0 lo)).take (HT.sIx xs.length xs.length hi - HT.sIx xs.length 0 lo),IsTup.new _ _⟩
noncomputable def zye1(K:Fg):R2:=λx y H Q=>∃a b xs ys,x=.ref a/\y=.ref b/\SqT K H a xs/\SqT K H b ys/\xs≠[]/\xs.length+ys.length<=sizeLine /\
 (ys=[]->Q (.ref a) H)/\(ys≠[]->∀p,H p=none->Q (.ref p) (upd H p (.tup (xs++ys))))
theorem Vals.nil_iff{xs:List V}(r:Vals xs us):us=[] ↔ xs=[]:=by
 cases r with
|nil=>simp
|cons _ _=>simp
theorem zo51:OpR X (binaryOp .Add) (zye1 X.K):=by
 intro pins s Y H x y v u Q I rx ry h;obtain⟨a,b,xs,ys,rfl,rfl,ha,hb,hx,hz,q1,q2⟩:=h;cases rx;cases ry;obtain⟨its,r1,p1,_⟩:=I.tuple ha;obtain⟨its2,r2,p2,_⟩:=I.tuple hb;refine HT.cat_tup p1 p2 (λz=>hx (r1.nil_iff.mp z)) (λz=>⟨.ref a,H,I,rfl,q1 (r2.nil_iff.mp z)⟩) (λz=>?_) (by rw[<- r1.length,<- r2.length];exact hz);refine⟨.ref s.heap.objs.size,_,I.laid (t':=s.toks) (o:=.tup (xs++ys)) (λb ob q=>u5 _ q) (u3 _) ?_,rfl,q2 (λw=>z (r2.nil_iff.mpr w)) _ (I.hok.fresh (u3 _))⟩;exact⟨by rw[yB];exact hz,_,r1.append r2,IsTup.new _ _⟩
end
noncomputable def ixN(n:Nat)(i:Int):Option Nat:=if 0<=i then(if i < n then some i.toNat else none)else if -(n:Int)<=i then some (i+n).toNat else none
noncomputable def atI{α:Type}(xs:List α)(i:Int):Option α:=(ixN xs.length i).bind λj=>xs[j]?
theorem zfs{j:Nat}(h:ixN n i=some j):seqIndex? i n=some j/\j < n/\-(n:Int)<=i/\i < n:=by
 unfold ixN at h;by_cases h0:0<=i
 ·rw[if_pos h0]at h;by_cases h1:i < n
  ·rw[if_pos h1]at h;have e:i.toNat=j:=wV.inj h;exact⟨by rw[seqIndex_of h0 h1,e],by lia,by lia,h1⟩
  ·rw[if_neg h1]at h;cases h
 ·rw[if_neg h0]at h;by_cases h1:-(n:Int)<=i
  ·rw[if_pos h1]at h;have e:(i+n).toNat=j:=wV.inj h;exact⟨by rw[seqIndex_neg (by lia) h1,e],by lia,h1,by lia⟩
  ·rw[if_neg h1]at h;cases h
theorem zzo{α:Type}{xs:List α}{v:α}(h:atI xs i=some v):∃j,seqIndex? i xs.length=some j/\xs[j]?=some v/\j < xs.length/\-(xs.length:Int)<=i/\i < xs.length:=by
 unfold atI at h;cases e:ixN xs.length i with
|none=>rw[e]at h;cases h
|some j =>
  rw[e]at h;obtain⟨h1,h2,h3,h4⟩:=zfs e;exact⟨j,h1,h,h2,h3,h4⟩
theorem zi41{α:Type}{xs:List α}{j:Nat}{v:α}(h:xs[j]?=some v):atI xs (j:Int)=some v:=by
 have hj:j < xs.length:=(wR.mp h).1;have e:ixN xs.length (j:Int)=some j:=by
  unfold ixN;rw[if_pos (by lia),if_pos (by lia)];simp
 unfold atI;rw[e];exact h
noncomputable def zxv(b:Expr):Prop:=∀o i,subscripted b false o i=operate [o,i] (getItem o i)
noncomputable def IxR(X:Cx)(r:R2):Prop :=
 ∀(value slice:Expr)(pins:List (Addr×Obj))(s:Shared)(Y:St)(H:Hp)(x y:V)(v u:Value)(Q:VK),Inv X pins Y H s->RelV x v->RelV y u->r x y H Q ->
  subscripted slice false v u=operate [v,u] (getItem v u)->wpAny (model X.prog X.w) X.A (subscriptTail value slice v u) (EP X pins Y Q) X.xe s
noncomputable def MtR(X:Cx)(id:String)(r:V->List V->Hp->VK->Prop):Prop :=
 ∀(pins:List (Addr×Obj))(s:Shared)(Y:St)(H:Hp)(x:V)(xs:List V)(v:Value)(us:List Value)(Q:VK),Inv X pins Y H s->RelV x v->Vals xs us->r x xs H Q ->
  wpAny (model X.prog X.w) X.A (call (.builtin id) (v :: us)) (EP X pins Y Q) X.xe s
section
variable {X:Cx}{a b:Expr}{ta tb:TE}{pos:Pos}
theorem IxR.or{r r':R2}(h:IxR X r)(h':IxR X r'):IxR X (λx y H Q=>r x y H Q \/ r' x y H Q):=by
 intro value slice pins s Y H x y v u Q I rx ry q hs;rcases q with q|q
 ·exact h value slice pins s Y H x y v u Q I rx ry q hs
 ·exact h' value slice pins s Y H x y v u Q I rx ry q hs
theorem zyf1{r:R2}(hr:IxR X r)(ha:PE X a ta)(hb:PE X b tb)(hs:zxv b):PE X (.Subscript a b pos) (tOp r ta tb):=by
 intro pins s Y H Q I h;exact Subscript_ (binT ha hb I h λv u s2 x y H2 I2 rx ry q=>hr a b pins s2 Y H2 x y v u Q I2 rx ry q (hs _ _))
noncomputable def rIxL(K:Fg):R2:=λx y H Q=>∃p xs i v,x=.ref p/\y=.int i/\SqL K H p xs/\atI xs i=some v/\Q v H
noncomputable def rIxT(K:Fg):R2:=λx y H Q=>∃p xs i v,x=.ref p/\y=.int i/\SqT K H p xs/\atI xs i=some v/\Q v H
noncomputable def rIxS:R2:=λx y H Q=>∃z i c,x=.str z/\y=.int i/\z.length<=sizeLine/\atI z.cps.toList i=some c/\Q (.str ⟨#[c]⟩) H
theorem zk41:IxR X (rIxL X.K):=by
 intro value slice pins s Y H x y v u Q I rx ry h hs;obtain⟨p,xs,i,z,rfl,rfl,hq,he,q⟩:=h;cases rx;obtain⟨t,rfl⟩:=ry;obtain⟨its,r,pl,hz⟩:=I.list hq;obtain⟨j,h1,h2,h3,h4,h5⟩:=zzo he;obtain⟨w,ew,rw'⟩:=r.get h2;have hl:=r.length;have hn:=zak;have fin:EP X pins Y Q w s:=⟨z,H,I,rw',q⟩
 by_cases h0:0<=i
 ·have hj:i.toNat=j:=by
   rw[seqIndex_of h0 h5]at h1;exact wV.inj h1
  exact item_listR pl.isList h0 (by lia) (by rw[hj];simpa using ew) fin hs
 ·have hj:(i+(its.toArray.size:Int)).toNat=j:=by
   rw[seqIndex_neg (by lia) h4]at h1;rw[wE,<- hl];exact wV.inj h1
  exact subscriptTail_builtinR (x:=w) pl.isList.typeIs slot_list_getitem.lookup
   (wpAny_getItem_list_neg (Q:=λr s'=>r=w/\EP X pins Y Q r s') pl.isList (by lia) (by rw[wE] <;> lia) (by lia) (by rw[hj];simpa using ew) ⟨rfl,fin⟩) hs
theorem zla1:IxR X (rIxT X.K):=by
 intro value slice pins s Y H x y v u Q I rx ry h hs;obtain⟨p,xs,i,z,rfl,rfl,hq,he,q⟩:=h;cases rx;obtain⟨t,rfl⟩:=ry;obtain⟨its,r,pl,hz⟩:=I.tuple hq;obtain⟨j,h1,h2,h3,h4,h5⟩:=zzo he;obtain⟨w,ew,rw'⟩:=r.get h2;have hl:=r.length;have hn:=zak;have fin:EP X pins Y Q w s:=⟨z,H,I,rw',q⟩
 exact subscriptTail_builtinR (x:=w) pl.typeIs slot_tuple_getitem.lookup
  (getItem_tuple (j:=j) (Q:=λr s'=>r=w/\EP X pins Y Q r s') pl (by lia) (by lia) (by rw[wE,<- hl];exact h1) (by simpa using ew) ⟨rfl,fin⟩) hs
theorem zdd1:IxR X rIxS:=by
 intro value slice pins s Y H x y v u Q I rx ry h hs;obtain⟨z,i,c,rfl,rfl,hz,he,q⟩:=h;obtain⟨t,rfl⟩:=rx;obtain⟨t',rfl⟩:=ry;obtain⟨j,h1,h2,h3,h4,h5⟩:=zzo he;have hl:z.cps.toList.length=z.length:=by simp[Str.length]
 rw[hl]at h1 h4 h5;have hn:=zak;exact tail_any (typeIs_str s z t) slot_str_getitem.lookup (getItem_str (c:=c) (by
  have e1:decide (i < -(2 ^ 63:Int))=false:=decide_eq_false (by lia);have e2:decide (i ≥ 2 ^ 63)=false:=decide_eq_false (by lia);rw[e1,e2,Bool.or_false]) (by rw[h1];simpa using h2) ⟨.str ⟨#[c]⟩,H,I.tok _,⟨_,rfl⟩,q⟩) hs
noncomputable def rIx(K:Fg):R2:=λx y H Q=>rIxL K x y H Q \/ rIxT K x y H Q \/ rIxS x y H Q
theorem zk91:IxR X (rIx X.K):=zk41.or (zla1.or zdd1)
theorem zir(its:List Value)(n j:Nat)(u:Value):Obj.mapSeq (·.setIfInBounds j u) { cls:=.type "list",data:=.seq its.toArray n }={ cls:=.type "list",data:=.seq (its.set j u).toArray n }:=by
 simp[Obj.mapSeq]
theorem Inv.lst{pins:List (Addr×Obj)}{Y:St}{H:Hp}{s:Shared}{p:Addr}{xs:List V}(I:Inv X pins Y H s)(h:H p=some (.lst xs)) :
  ∃(its:List Value)(n:Nat),Vals xs its/\s.heap.get? p=some { cls:=.type "list",data:=.seq its.toArray n }/\xs.length<=sizeLine:=by
 obtain⟨z,its,n,r,e⟩:=I.hok p _ h;exact⟨its,n,r,e,z⟩
theorem Inv.lstUpd{H:Hp}{p:Addr}{xs ys:List V}{its its':List Value}{n n':Nat}{f:Obj->Obj}(I:Inv X pins Y H s)(h:H p=some (.lst xs))
  (ho:s.heap.get? p=some { cls:=.type "list",data:=.seq its.toArray n }) (hf:f { cls:=.type "list",data:=.seq its.toArray n }={ cls:=.type "list",data:=.seq its'.toArray n' }) (r:Vals ys its') (hz:ys.length<=sizeLine) (t:Nat) :
  Inv X pins Y (upd H p (.lst ys)) { s with heap:=s.heap.update p f,toks:=t }:=by
 have e:(s.heap.update p f).get? p=some { cls:=.type "list",data:=.seq its'.toArray n' }:=by
  rw[zS f ho (by rw[hf] <;> rfl),hf]
 refine I.write (x:=p) (e:=p) (by rw[h];trivial) (.inl rfl) (λb u hb q=>(j4 _ _ (Ne.symm hb)).trans q) ⟨_,e⟩ ?_;exact⟨hz,its',n',r,e⟩
noncomputable def zkd1:V->V->V->Hp->(Hp->Prop)->Prop:=λo i v H Q=>∃p xs k j,o=.ref p/\i=.int k/\H p=some (.lst xs)/\ixN xs.length k=some j/\Q (upd H p (.lst (xs.set j v)))
theorem zh11:PSet X zkd1:=by
 intro pins s Y H o i v ov iv u Q I ro ri rv h;obtain⟨p,xs,k,j,rfl,rfl,hp,hj,q⟩:=h;cases ro;obtain⟨t,rfl⟩:=ri;obtain⟨its,n,r,ho,hz⟩:=I.lst hp;obtain⟨h1,h2,h3,h4⟩:=zfs hj;have hl:=r.length;have hn:=zak;have I':Inv X pins Y (upd H p (.lst (xs.set j v))) { s with heap:=s.heap.update p (Obj.mapSeq (·.setIfInBounds j u)) } :=
  I.lstUpd hp ho (zir its n j u) (r.set rv j) (by rw[xH];exact hz) s.toks
 by_cases h0:0<=k
 ·have hk:k.toNat=j:=by
   rw[seqIndex_of h0 h4]at h1;exact wV.inj h1
  exact PySem.W.ki_setAt ho h0 (by lia) (by rw[wE,<- hl];exact h4) (by rw[hk];exact⟨_,I',q⟩)
 ·have hk:(k+(its.toArray.size:Int)).toNat=j:=by
   rw[seqIndex_neg (by lia) h3]at h1;rw[wE,<- hl];exact wV.inj h1
  exact PySem.W.ki_setBack ho (by lia) (by rw[wE,<- hl];exact h3) (by lia) (by rw[hk];exact⟨_,I',q⟩)
theorem zpl(lo hi:Option Int)(n:Nat):(sliceBounds lo hi none n).1=((HT.sIx n 0 lo:Nat):Int)/\(sliceBounds lo hi none n).2.1=((HT.sIx n n hi:Nat):Int)/\(sliceBounds lo hi none n).2.2=1:=by
 refine⟨?_,?_,rfl⟩
 ·cases lo with
 |none=>simp[sliceBounds,HT.sIx]
 |some i =>
   simp only[sliceBounds,HT.sIx,Option.getD_none,show(1:Int) > 0 by decide,if_true];by_cases h:i < 0
   ·simp only[h,if_true] <;> lia
   ·simp only[h,if_false] <;> lia
 ·cases hi with
 |none=>simp[sliceBounds,HT.sIx]
 |some i =>
   simp only[sliceBounds,HT.sIx,Option.getD_none,show(1:Int) > 0 by decide,if_true];by_cases h:i < 0
   ·simp only[h,if_true] <;> lia
   ·simp only[h,if_false] <;> lia
theorem zwi(its:List Value)(lo hi:Option Int):slicePick its.toArray lo hi none=((its.drop (HT.sIx its.length 0 lo)).take (HT.sIx its.length its.length hi - HT.sIx its.length 0 lo)).toArray:=by
 obtain⟨h1,h2,h3⟩:=zpl lo hi its.toArray.size;unfold slicePick;rw[h1,h2,h3];simp only[sliceRange_one,pick_run,wE] <;> rfl
noncomputable def rSlL(K:Fg):V->Option Int->Option Int->Hp->VK->Prop:=λx lo hi H Q=>∃a xs,x=.ref a/\SqL K H a xs/\∀p,H p=none->Q (.ref p) (upd H p (.lst (cutV xs lo hi)))
theorem zt61:SlR X (rSlL X.K):=by
 intro pins s Y H x v vl vu lo hi sl Q I rx hs pl pu h;obtain⟨a,xs,rfl,hx,q⟩:=h;cases rx;obtain⟨its,r,ht,hz⟩:=I.list hx;have hlen:=r.length;refine⟨"list",_,slot_list_getitem.lookup,ht.isList.typeIs,?_⟩;refine wpAny_getItem_list_slice ht.isList hs pl pu .none (by simp) ?_ (by rw[wE] <;> lia);rw[zwi,<- hlen];refine⟨.ref s.heap.objs.size,_,I.laid (t':=s.toks) (o:=.lst (cutV xs lo hi)) (λb ob q=>u5 _ q) (u3 _) ?_,rfl,q _ (I.hok.fresh (u3 _))⟩;exact⟨wP (zbg xs lo hi) hz,_,0,(r.drop (HT.sIx xs.length 0 lo)).take (HT.sIx xs.length xs.length hi - HT.sIx xs.length 0 lo),wI _ rfl⟩
theorem CallR.or{f:Value}{r r':List V->Hp->VK->Prop}(h:CallR X f r)(h':CallR X f r'):CallR X f (λxs H Q=>r xs H Q \/ r' xs H Q):=by
 intro pins s Y H xs us Q I rs q;rcases q with q|q
 ·exact h pins s Y H xs us Q I rs q
 ·exact h' pins s Y H xs us Q I rs q
theorem zmk:CallR X (.type "list") (λxs H Q=>∃p ys,xs=[.ref p]/\(SqL X.K H p ys \/ SqT X.K H p ys)/\∀l,H l=none->Q (.ref l) (upd H l (.lst ys))):=by
 intro pins s Y H xs us Q I r h;obtain⟨p,ys,rfl,hq,q⟩:=h;obtain⟨u,rfl,rx⟩:=zf21 r;cases rx;have fin:∀(its:List Value),Vals ys its->ys.length<=sizeLine->∀(h':Heap)(c':Nat),(∀b o',s.heap.get? b=some o'->h'.get? b=some o') ->
   h'.get? s.heap.objs.size=some { cls:=.type "list",dict:=none,data:=.seq its.toArray c',slots:=#[] }->EP X pins Y Q (.ref s.heap.objs.size) { s with heap:=h' }:=λits r' hz h' c' kp e =>
  ⟨.ref s.heap.objs.size,_,I.laid (t':=s.toks) kp (u3 _) (show ObjOk X.prog X.w _ h' _ (.lst ys)from⟨hz,its,c',r',e⟩),rfl,q _ (I.hok.fresh (u3 _))⟩
 rcases hq with hq|hq
 ·obtain⟨its,r',pl,hz⟩:=I.list hq;have hlen:=r'.length;obtain⟨o,ho,hc,n,hd⟩:=pl.isList;exact call_list_seq p (.inl rfl) ho hc hd (λh' c' kp e=>fin its r' hz h' c' kp e) (by simp only[wE] <;> lia)
 ·obtain⟨its,r',pl,hz⟩:=I.tuple hq;have hlen:=r'.length;obtain⟨o,ho,hc,n,hd⟩:=pl;exact call_list_seq p (.inr rfl) ho hc hd (λh' c' kp e=>fin its r' hz h' c' kp e) (by simp only[wE] <;> lia)
noncomputable def tyV(K:Fg)(T:String)(x:V)(H:Hp):Prop:=match x with
|.str _=>T = "str"
|.int _=>T = "int"
|.ref p=>(T = "list"/\∃xs,SqL K H p xs) \/ (T = "tuple"/\∃o,K.lookup p=some o/\o.cls=.type "tuple"/\o.dict=none) \/
   (T = "dict"/\((∃kvs,H p=some (.dK kvs)) \/ ∃kvs,H p=some (.dT kvs))) \/ (T = "set"/\∃S n,H p=some (.set S n))
|_=>False
theorem zm41{H:Hp}{T:String}{v:Value}(I:Inv X pins Y H s)(r:RelV x v)(ty:tyV X.K T x H) :
  s.TypeIs v T/\∀a,v=.ref a->∃ob,s.heap.get? a=some ob/\ob.dict=none:=by
 cases x with
|str z =>
  obtain⟨t,rfl⟩:=r;cases (show T = "str" from ty);exact⟨typeIs_str s z t,λ_ e=>nomatch e⟩
|int i =>
  obtain⟨t,rfl⟩:=r;cases (show T = "int" from ty);exact⟨typeIs_int s i t,λ_ e=>nomatch e⟩
|ref p =>
  cases r;rcases ty with⟨rfl,xs,hq⟩|⟨rfl,o,hk,hc,hd⟩|⟨rfl,hk⟩|⟨rfl,S,n,hk⟩
  ·obtain⟨its,_,pl,_⟩:=I.list hq;refine⟨pl.isList.typeIs,λa e=>?_⟩;cases e;obtain⟨o,n,e,c,hd,_⟩:=pl;exact⟨o,e,hd⟩
  ·refine⟨⟨o,I.kIn p o hk,hc⟩,λa e=>?_⟩;cases e;exact⟨o,I.kIn _ o hk,hd⟩
  ·have z:∃o,s.heap.get? p=some o/\o.ExactDict:=by
    rcases hk with⟨kvs,hk⟩|⟨kvs,hk⟩
    ·obtain⟨_,_,_,_,o,_,_,e,ex,_⟩:=I.hok p _ hk;exact⟨o,e,ex⟩
    ·obtain⟨_,_,_,_,o,_,_,e,ex,_⟩:=I.hok p _ hk;exact⟨o,e,ex⟩
   obtain⟨o,e,ex⟩:=z;refine⟨⟨o,e,ex.1⟩,λa e2=>?_⟩;cases e2;exact⟨o,e,ex.2.1⟩
  ·obtain⟨o,_,_,_,e,ex,_⟩:=I.hok p _ hk;refine⟨⟨o,e,ex.1⟩,λa e2=>?_⟩;cases e2;exact⟨o,e,ex.2.1⟩
|_=>exact False.elim ty
noncomputable def tBM0(K:Fg)(T:String)(r:V->List V->Hp->VK->Prop)(to:TE):TE:=λY H Q=>to Y H λx H1=>tyV K T x H1/\r x [] H1 Q
noncomputable def tBM(K:Fg)(T:String)(r:V->List V->Hp->VK->Prop)(to:TE)(t:TA):TE:=λY H Q=>to Y H λx H1=>tyV K T x H1/\t Y H1 λxs H2=>r x xs H2 Q
variable {o e:Expr}{es:List Expr}{to:TE}{t:TA}{name:Str}{apos cpos:Pos}{T id:String}{r:V->List V->Hp->VK->Prop}
theorem zbb1(pa:PlainAttrs T)(slot:Slot T name id)(hty:typeOf (.builtin id)=pure (.type "method_descriptor"))(hm:MtR X id r)(ho:PE X o to)
  (hbase:attributeBase o name X.env (eval o X.env)=eval o X.env:=by rfl) (hline:(apos.endLine == cpos.line)=true:=by rfl):PE X (.Call (.Attribute o name apos) [] [] cpos) (tBM0 X.K T r to):=by
 intro pins s Y H Q I h;refine wpAny_Call_method0_late hbase hline (thn (ho pins s Y H _ I h) λv s1 hz=>?_);obtain⟨x,H1,I1,r1,ty,q1⟩:=hz;obtain⟨h1,h2⟩:=zm41 I1 r1 ty;exact⟨T,id,pa,slot,hty,h1,h2,Calls.callWith_builtin rfl (PySem.evalArgs_none (hm pins s1 Y H1 x [] v [] Q I1 r1 .nil q1))⟩
theorem zuf1(pa:PlainAttrs T)(slot:Slot T name id)(hty:typeOf (.builtin id)=pure (.type "method_descriptor"))(hm:MtR X id r)(ho:PE X o to)(ha:PA X (e :: es) t)
  (hbase:attributeBase o name X.env (eval o X.env)=eval o X.env:=by rfl)
  (hfew:((backTo cpos (starEach (e :: es) X.env)).all (λx=>!x.1) && (backToKw cpos (keywordEach [] X.env)).all (λx=>x.1.isSome)
   && decide ((e :: es).length+([]:List Keyword).length+(if([]:List Keyword).isEmpty then 0 else 1) < 30))=true:=by rfl)
  (hline:(apos.endLine == cpos.line)=true:=by rfl) (hs:starEach (e :: es) X.env=(false,eval e X.env) :: starEach es X.env:=by rfl) (hplain:(backTo cpos (starEach es X.env)).any (·.1)=false:=by rfl) :
  PE X (.Call (.Attribute o name apos) (e :: es) [] cpos) (tBM X.K T r to t):=by
 intro pins s Y H Q I h;refine wpAny_Call_method_late hbase hfew hline rfl (thn (ho pins s Y H _ I h) λv s1 hz=>?_);obtain⟨x,H1,I1,r1,ty,q1⟩:=hz;obtain⟨h1,h2⟩:=zm41 I1 r1 ty;refine⟨T,id,pa,slot,hty,h1,h2,?_⟩;have hA:=ha cpos pins s1 Y H1 _ I1 q1;rw[hs]at hA ⊢;refine Calls.callWith_builtin (by show(false || (backTo cpos (starEach es X.env)).any (·.1))=false;rw[hplain] <;> rfl) (Calls.evalArgs_plain ?_);exact thn hA λus s2 ⟨vs,H2,I2,r2,q2⟩=>hm pins s2 Y H2 x vs v us Q I2 r1 r2 q2
end
noncomputable def MtM(X:Cx)(id:String)(r:V->List V->Hp->VK->Prop):Prop :=
 ∀(pins:List (Addr×Obj))(s:Shared)(Y:St)(H:Hp)(x:V)(xs:List V)(v:Value)(us:List Value)(Q:VK),Inv X pins Y H s->RelV x v->Vals xs us->r x xs H Q ->
  wpAny (model X.prog X.w) X.A (call (.builtin id) (v :: us)) (EP X pins Y Q) X.xe s
theorem Vals.one(h:Vals [x] us):∃u,us=[u]/\RelV x u:=by cases h with|cons r t=>cases t;exact⟨_,rfl,r⟩
theorem Vals.two{y:V}(h:Vals [x,y] us):∃u v,us=[u,v]/\RelV x u/\RelV y v:=by cases h with|cons r t=>cases t with|cons q t=>cases t;exact⟨_,_,rfl,r,q⟩
theorem Vals.zero:∀{us:List Value},Vals [] us->us=[]
|_,.nil=>rfl
theorem Vals.eraseIdx:∀{xs:List V}{us:List Value}(i:Nat),Vals xs us->Vals (xs.eraseIdx i) (us.eraseIdx i)
|_,_,_,.nil=>.nil
|_,_,0,.cons _ t=>t
|_,_,i+1,.cons r t=>.cons r (Vals.eraseIdx i t)
theorem Vals.rep{xs:List V}{us:List Value}(h:Vals xs us):∀k:Nat,Vals (v9 k xs).flatten (v9 k us).flatten
|0=>.nil
|k+1=>by
  rw[yK,yK,yN,yN];exact Vals.append h (Vals.rep h k)
theorem zim{α:Type}:∀(l:List α)(i:Nat),(l.eraseIdx i).length<=l.length
|[],_=>u3 _
|_ :: _,0=>xQ _
|_ :: r,i+1=>Nat.succ_le_succ (zim r i)
theorem zan(its:List Value):∀(k:Nat)(acc:List Value),
  List.foldl (λx1 x2=>x1++x2) acc.toArray (v9 k its.toArray)=(acc++(v9 k its).flatten).toArray
|0,acc=>by simp
|k+1,acc=>by
  have e:acc.toArray++its.toArray=(acc++its).toArray:=by simp
  have e2:(acc++its)++(v9 k its).flatten=acc++(v9 (k+1) its).flatten:=by
   rw[yK,yN,yD]
  rw[<- e2,<- zan its k (acc++its),<- e,yK,List.foldl_cons]
section
variable {X:Cx}{pins:List (Addr×Obj)}{Y:St}{H:Hp}{s:Shared}{l b:Addr}{xs ys zs:List V}
theorem Inv.lset{its its':List Value}{n:Nat}{f:Array Value->Array Value}{t':Nat}(I:Inv X pins Y H s)(hH:H l=some (.lst xs))
  (e:s.heap.get? l=some { cls:=.type "list",data:=.seq its.toArray n }) (hf:f its.toArray=its'.toArray) (hv:Vals ys its') (hz:ys.length<=sizeLine) :
  Inv X pins Y (upd H l (.lst ys)) { s with heap:=s.heap.update l (Obj.mapSeq f),toks:=t' }:=by
 have q:=PySem.IsL.update e f;rw[hf]at q;refine I.write (x:=l) (e:=l) (by rw[hH];exact trivial) (.inl rfl) (λb' u hb hu=>(j4 s.heap (Obj.mapSeq f) (Ne.symm hb)).trans hu) ⟨_,q⟩ ?_;exact⟨hz,its',_,hv,q⟩
theorem Inv.lnew{t':Nat}(I:Inv X pins Y H s)(hv:Vals ys its)(hz:ys.length<=sizeLine) :
  Inv X pins Y (upd H s.heap.objs.size (.lst ys)) { s with heap:=s.heap.push { cls:=.type "list",data:=.seq its.toArray },toks:=t' } :=
 I.laid (λ_ _ q=>u5 _ q) (u3 _) ⟨hz,its,0,hv,wI _ rfl⟩
theorem Inv.fresh(I:Inv X pins Y H s):H s.heap.objs.size=none:=I.hok.fresh (u3 _)
theorem Inv.lstM(I:Inv X pins Y H s)(hH:H l=some (.lst xs)):xs.length<=sizeLine/\∃(its:List Value)(n:Nat),Vals xs its/\xs.length=its.length/\s.heap.get? l=some { cls:=.type "list",data:=.seq its.toArray n }:=by
 obtain⟨z,its,n,r,e⟩:=I.hok l _ hH;exact⟨z,its,n,r,r.length,e⟩
theorem zlr(h:n<=sizeLine):Builtin.List.listTooLong n=false:=by
 unfold Builtin.List.listTooLong;exact decide_eq_false (by lia)
end
section
variable {X:Cx}
noncomputable def zaq:V->List V->Hp->VK->Prop:=λx vs H Q=>∃l xs y,x=.ref l/\vs=[y]/\H l=some (.lst xs)/\xs.length < sizeLine/\Q .non (upd H l (.lst (xs++[y])))
theorem zh4:MtM X "list.append" zaq:=by
 intro pins s Y H x vs v us Q I rx rv h;obtain⟨l,xs,y,rfl,rfl,hH,hz,q⟩:=h;cases rx;obtain⟨u,rfl,ru⟩:=rv.one;obtain⟨z,its,n,r,hl,e⟩:=I.lstM hH;refine call_meets F.slot_list_append ⟨_,e,rfl⟩ F.entry_list_append (F.args_list_append_2 _ _) (PySem.list_append l its.toArray n u (by rw[wE];lia)) ⟨e,?_⟩;refine⟨.non,_,I.lset (its':=its++[u]) hH e (by simp) (r.append (.cons ru .nil)) ?_,rfl,q⟩;rw[yB,List.length_singleton];lia
noncomputable def zf81:V->List V->Hp->VK->Prop:=λx vs H Q=>∃l xs i k y,x=.ref l/\vs=[.int i]/\H l=some (.lst xs)/\-(2 ^ 63)<=i/\i < 2 ^ 63/\seqIndex? i xs.length=some k/\xs[k]?=some y/\Q y (upd H l (.lst (xs.eraseIdx k)))
theorem zfy:MtM X "list.pop" zf81:=by
 intro pins s Y H x vs v us Q I rx rv h;obtain⟨l,xs,i,k,y,rfl,rfl,hH,h1,h2,hk,hy,q⟩:=h;cases rx;obtain⟨u,rfl,ru⟩:=rv.one;obtain⟨t,rfl⟩:=ru;obtain⟨z,its,n,r,hl,e⟩:=I.lstM hH;obtain⟨w,hw,rw'⟩:=r.get hy;refine call_meets F.slot_list_pop ⟨_,e,rfl⟩ F.entry_list_pop (F.args_list_pop_2 _ _)
  (MeetsSeq.list_pop_at l its.toArray n i t k w (fitsIndex_both h1 h2) (by rw[wE,<- hl];exact hk) (by rw[<- zA];exact hw) (by rw[wE];lia)) ⟨e,?_⟩
 refine⟨y,_,I.lset (its':=its.eraseIdx k) hH e ?_ (r.eraseIdx k) ?_,rw',q⟩
 ·show its.toArray.eraseIdxIfInBounds k=(its.eraseIdx k).toArray;rw[List.eraseIdxIfInBounds_toArray]
 ·have:=zim xs k;lia
noncomputable def zh31:V->List V->Hp->VK->Prop:=λx vs H Q=>∃l xs,x=.ref l/\vs=[]/\H l=some (.lst xs)/\Q .non (upd H l (.lst []))
theorem zqk:MtM X "list.clear" zh31:=by
 intro pins s Y H x vs v us Q I rx rv h;obtain⟨l,xs,rfl,rfl,hH,q⟩:=h;cases rx;have hus:=rv.zero;subst hus;obtain⟨z,its,n,r,hl,e⟩:=I.lstM hH;refine call_meets F.slot_list_clear ⟨_,e,rfl⟩ F.entry_list_clear (F.args_list_clear_1 _) (AutoSeq1.list_clear_list_0 l its.toArray n (by rw[wE];lia)) ⟨e,?_⟩;exact⟨.non,_,I.lset (its':=[]) (ys:=[]) hH e rfl .nil (wW _),rfl,q⟩
noncomputable def rCat:R2:=λx y H Q=>∃l b xs zs,x=.ref l/\y=.ref b/\H l=some (.lst xs)/\H b=some (.lst zs)/\xs.length+zs.length<=sizeLine/\∀p,H p=none->Q (.ref p) (upd H p (.lst (xs++zs)))
theorem zfb1:OpR X (binaryOp .Add) rCat:=by
 intro pins s Y H x y v u Q I rx ry h;obtain⟨l,b,xs,zs,rfl,rfl,hH,hB,hz,q⟩:=h;cases rx;cases ry;obtain⟨z,its,n,r,hl,e⟩:=I.lstM hH;obtain⟨z2,its2,n2,r2,hl2,e2⟩:=I.lstM hB;refine PySem.P.add_list e e2 ?_ (by rw[wE,wE];lia);have ea:its.toArray++its2.toArray=(its++its2).toArray:=by simp
 rw[ea];exact⟨.ref _,_,I.lnew (t':=s.toks) (r.append r2) (by rw[yB];lia),rfl,q _ I.fresh⟩
noncomputable def rRep:R2:=λx y H Q=>∃l k xs,x=.ref l/\y=.int k/\H l=some (.lst xs)/\-(2 ^ 63)<=k/\k < 2 ^ 63/\xs.length * k.toNat<=sizeLine /\
 ∀p,H p=none->Q (.ref p) (upd H p (.lst (v9 k.toNat xs).flatten))
theorem za51{α:Type}(xs:List α)(k:Nat):(v9 k xs).flatten.length=k * xs.length:=by
 induction k with
|zero=>simp
|succ k ih=>rw[yK,yN,yB,ih,Nat.succ_mul,Nat.add_comm]
theorem zr71:OpR X (binaryOp .Mult) rRep:=by
 intro pins s Y H x y v u Q I rx ry h;obtain⟨l,k,xs,rfl,rfl,hH,h1,h2,hz,q⟩:=h;cases rx;obtain⟨t,rfl⟩:=ry;obtain⟨z,its,n,r,hl,e⟩:=I.lstM hH;have hlen:its.toArray.size * k.toNat<=sizeLine:=by rw[wE,<- hl];exact hz
 have hcap:¬its.toArray.size * k.toNat > (2 ^ 63 - 1) / 8:=by
  have:(sizeLine:Nat)<=(2 ^ 63 - 1) / 8:=by decide
  lia
 have hfit:¬(!Builtin.List.listFitsIndex k)=true:=by
  rw[fitsIndex_both h1 h2];exact wF
 have hlong:¬Builtin.List.listTooLong (its.toArray.size * k.toNat)=true:=by
  rw[zlr hlen];exact wF
 have hnew:List.foldl (λx1 x2=>x1++x2) #[] (v9 (if its.toArray.isEmpty=true then 0 else k.toNat) its.toArray)=(v9 k.toNat its).flatten.toArray:=by
  have f0:∀m:Nat,List.foldl (λx1 x2=>x1++x2) #[] (v9 m its.toArray)=(v9 m its).flatten.toArray:=λm=>by
   have:=zan its m [];rw[xR]at this;exact this
  rw[f0];cases its with
 |nil=>simp
 |cons a r'=>rw[if_neg (by simp)]
 refine wpAny_binaryOp_repeat_ref (T := "list") (U := "int") (by decide) ⟨_,e,rfl⟩ (λs'=>typeIs_int s' k t) noFill_list_mul F.fills_int_mul F.slot_int_rmul repeat_list F.slot_int_index.lookup
  (call_meets F.slot_int_rmul (typeIs_int s k t) F.entry_int_rmul (F.args_int_rmul_2 _ _) (int___rmul___int_list k t l its.toArray n)
   ⟨e,rfl,⟨_,e,rfl⟩,call_meets F.slot_list_mul ⟨_,e,rfl⟩ F.entry_list_mul (F.args_list_mul_2 _ _) (AutoListH.list___mul___list_int_3 l its.toArray n k t hfit hcap hlong) ⟨e,?_⟩⟩)
 rw[hnew];exact⟨.ref _,_,I.lnew (t':=s.toks) (r.rep k.toNat) (by rw[za51,Nat.mul_comm];exact hz),rfl,q _ I.fresh⟩
end
end _2
namespace Att
open PySem PySem.W PySem.Calls PyProof.Rows
variable {n:Nat}
theorem zkf{P:Params}{h:Heap}:∀(ns:List Int)(vs:List Value),WellAll P h vs (ns.map WData.int)->IntsAre vs ns:=by
 intro ns
 induction ns with
|nil =>
  intro vs w;rw[yC]at w;cases w;exact .nil
|cons n ns ih =>
  intro vs w;rw[wM]at w;cases w with
 |cons a b =>
   cases a;exact .cons _ _ (ih _ b)
theorem zeu{l:OpenLaw}(hn:l.most=some n){P:Params}{h:Heap}{args:List WData}{vals:List Value}
  (hpre:l.row.toRowW.claim.pre args=true) (hwl:WellAll P h vals args) :
  ∃a vs ns,vals=[u7 a]/\args=[WData.list (ns.map WData.int)]/\h.get? a=some { cls:=.type "list",data:=.seq vs.toArray }/\IntsAre vs ns/\ns.length<=n:=by
 have hsh:WShape.hasAll [] args [.list .int]=true:=(pre_splitW hpre).1;have hc:l.pre.holds [] { args:=args }=true:=(pre_splitW hpre).2;obtain⟨d,r,rfl,h1,h2⟩:=hasAllW_cons hsh;obtain rfl:=hasAllW_nil h2;obtain⟨xs,rfl,h3⟩:=hasW_list h1;obtain⟨ns,rfl⟩:=items_int h3;have hlen:ns.length<=n:=by
  unfold OpenLaw.pre at hc;have h4:(WTm.not (.lt (.lit (.int (n:Int))) (.len (.arg 0)))).holds [] { args:=[.list (ns.map .int)] }=true:=by
   have h4:=(holds_andW hc).1;rw[hn]at h4;exact h4
  have h5:=condW_of h4 (w_not (w_lt w_lit (w_len_list (w_arg rfl))));rw[u4]at h5;refine Nat.le_of_not_lt λq=>?_;have q':(n:Int) < ((ns.length:Nat):Int):=by lia
  first
  |(rw[decide_eq_true q']at h5;exact absurd h5 (by decide))
  |(simp at h5;lia)
 cases hwl with
|cons w1 w2 =>
  cases w2;cases w1 with
 |list ho hall=>exact⟨_,_,ns,rfl,rfl,ho,zkf ns _ hall,hlen⟩
theorem zzt(l:OpenLaw)(args:List WData):l.row.toRowW.claim.post args (.bool true) args=true :=
 postW_of (r:=l.row.toRowW) (X:=(true == true))
  (show WShape.has [] (.bool true) .bool=true by first|rfl|decide|simp[WShape.has,WShape.arms,WShape.armsAll])
  (show(WTm.eq .res (.lit (.bool true))).value [] { args:=args,res:=some (.bool true),after:=args }=some (.bool (true == true))from w_eq_bool (w_res rfl) w_lit) rfl
theorem attach_call{l:OpenLaw}{q:Program}{loose:List Str}{XP:(Str->Option Value)->Heap->Prop}{YP:World->Heap->Prop}{d:DefRec}
  (hn:l.most=some n) (hdf:d.params.defaults=[])
  (call:∀(w:World)(s₀ s₁:Shared)(mg mb:Str->Option Value)(fa:Addr)(o:Obj)(pm cd doc:Value)(a:Addr)(vs:List Value)(ns:List Int),
   Ground q loose [] XP w s₀ mg mb s₁.heap->YP w s₁.heap ->
   s₁.heap.get? fa=some o->o.data=.func (docDef d.name d.params d.body d.scope pm cd doc)->s₁.heap.CodeRec cd d.name->mg d.name=some (.ref fa) ->
   s₁.heap.get? a=some { cls:=.type "list",data:=.seq vs.toArray }->IntsAre vs ns->ns.length<=n->s₁.gens=#[] ->
   codeAny (model l.prog w) callerA (.call (.ref fa) ⟨[.ref a],[]⟩) (λr s'=>r=.ok (.ret (.bool true))/\OldK s₁.heap s'.heap/\s'.os=s₁.os/\AllBare s'.gens) s₁) :
  WalkO q loose XP YP l.row.toRowW d [] (λf vs=>PySem.call f vs):=by
 intro w s₀ s₁ mg mb G Yv fa o pm cd doc dV kV ho hd hcd hD hmg hg args vals as hpre hlay hrd hwl hlo;obtain rfl:dV=.none:=Dflts.none hD hdf;obtain rfl:kV=.none:=Dflts.noKw hD;obtain⟨a,vs,ns,rfl,rfl,hobj,hints,hlen⟩:=zeu hn hpre hwl;refine enter_call (codeAny_mono (call w s₀ s₁ mg mb fa o pm cd doc a vs ns G Yv ho (fd_plain hd) hcd hmg hobj hints hlen hg) λr s' hq=>?_);obtain⟨rfl,h2,h3,h4⟩:=hq;exact⟨.inl ⟨.bool true,.bool true,[],rfl,λ_=>rfl,.bool true,zzt l _,λ_=>⟨List.Pairwise.nil,λ_ hm=>(nomatch hm)⟩⟩,h2,h3,h4⟩
end Att
namespace _2
open PySem PySem.Spec PyProof.Rows
variable {K:Fg}{a f:Addr}{fd:FuncData}{ps:List Str}{qual x:Str}{sp:Sp}{st:Stmt}
theorem zvl:∀{vs:List Value}{ns:List Int},IntsAre vs ns->Vals (ns.map V.int) vs
|_,_,.nil=>.nil
|_,_,.cons n t h=>.cons ⟨t,rfl⟩ (zvl h)
noncomputable def Only(H:Hp):Prop:=∀b,H b=none \/ ∃o xs,H b=some (.frz o (.lst xs))
theorem zu11{P:Program}{w:World}{mg mb:Str->Option Value}{CX:CXT}{k:Nat}{fa:Addr}{fd:FuncData}{sp:Sp}{s₁:Shared}{vs:List Value}{ns:List Int}
  (KX:K.In s₁.heap) (hns:s₁.heap.Ns mainGlobals mg) (hb:s₁.heap.Ns builtinsNs mb) (hbb:∀x:Str,x ≠ "__name__"->mb x=bootBuiltins x) (hlim:s₁.heap.NoLimit) (hg:s₁.gens=#[])
  (ha:s₁.heap.get? a=some { cls:=.type "list",data:=.seq vs.toArray }) (hi:IntsAre vs ns) (hl:ns.length<=sizeLine) (hr:Room k callerA)
  (F:∀base:Heap,K.In base->base.Ns mainGlobals mg->FnOk P w K mg base CX k fa fd [x] sp) (hbind:∀(s:Shared)(u:Value),BindsTo s fd ⟨[u],[]⟩ [(x,u)])
  (hsp:∀H:Hp,Only H->SqL K H a (ns.map V.int)->sp [.ref a] H (λv _=>v=.bl true) λ_ _ _=>False)
  (hCX:∀H e s',CX [] H s₁ (λ_ _ _=>False) e s'->False) :
  codeAny (model P w) callerA (.call (.ref fa) ⟨[.ref a],[]⟩) (λr s'=>r=.ok (.ret (.bool true))/\OldK s₁.heap s'.heap/\s'.os=s₁.os/\AllBare s'.gens) s₁:=by
 have rv:=zvl hi;have lenV:=hi.length
 -- from an abstract heap in which nothing but the script may be tracked
 have core:∀H:Hp,Only H->SqL K H a (ns.map V.int)->HOk P w H s₁.heap->(∀b,H b≠none->b=a)->(H a≠none->K.lookup a=none) ->
   codeAny (model P w) callerA (.call (.ref fa) ⟨[.ref a],[]⟩) (λr s'=>r=.ok (.ret (.bool true))/\OldK s₁.heap s'.heap/\s'.os=s₁.os/\AllBare s'.gens) s₁:=by
  intro H hO hS hok hA hK;have base_of:∀{b:Addr}{o:Obj},s₁.heap.get? b=some o->H b=none->(hidT s₁.heap H).get? b=some o:=λe n=>zzy e n;have noA:∀{b:Addr}{o:Obj}{es:Array DictEntry}{ep:Nat},s₁.heap.get? b=some o->o.data=.dict es ep->H b=none:=λ{b o es ep} e d=>by
   cases q:H b with
  |none=>rfl
  |some u =>
    have e':b=a:=hA b (by rw[q];simp);subst e';rw[ha]at e;cases e;have d':Data.seq vs.toArray _=Data.dict es ep:=d;cases d'
  have nsK:∀{b:Addr}{m:Str->Option Value},s₁.heap.Ns b m->(hidT s₁.heap H).Ns b m:=λ{b m} ⟨o,es,ep,e,d,r⟩=>⟨o,es,ep,base_of e (noA e d),d,r⟩
  have hKb:K.In (hidT s₁.heap H):=λb o e=>base_of (KX b o e) (by
   cases q:H b with
  |none=>rfl
  |some u =>
    have e':b=a:=hA b (by rw[q];simp);subst e';rw[hK (by rw[q];simp)]at e;cases e)
  have hM:Mod K mg (hidT s₁.heap H):=⟨hKb,nsK hns,⟨mb,nsK hb,hbb⟩,let ⟨mc,h1,h2⟩:=hlim;⟨mc,nsK h1,h2⟩⟩
  have e0:Env0 P w K mg (hidT s₁.heap H) callerA [] s₁ H:=⟨rfl,hM,λb o e=>zw21 e,Nat.le_of_eq (zfu _ _),trivial,λb hb=>absurd (show b∈([]:List Addr)from hb) (by simp),hok,.of_eq hg⟩
  refine codeAny_mono ((F _ hKb (nsK hns)).run callerA [] s₁ H ⟨[.ref a],[]⟩ [.ref a] [.ref a] _ _ hr e0 (hbind s₁ (.ref a)) (.cons rfl .nil) (hsp H hO hS)) λr s' h=>?_;cases r with
 |error e=>exact(hCX H e s' h).elim
 |ok fl =>
   cases fl with
  |next=>exact False.elim h
  |brk=>exact False.elim h
  |cont=>exact False.elim h
  |ret u =>
    obtain⟨v,H',os,bare,un,hok',r',q⟩:=h;have q':v=.bl true:=q;subst q';obtain rfl:u=y3 true:=r';refine⟨rfl,OldK.of_keep λb o e=>?_,os,bare⟩;cases q:H b with
   |none=>exact un.keep b o e q (by intro z;exact absurd (show b∈([]:List Addr)from z) (by simp)) (by simp)
   |some u =>
     rcases hO b with z|⟨ob,xs,z⟩
     ·rw[q]at z;cases z
     ·have z2:=un.frzs b ob _ z;obtain⟨e1,_⟩:=hok b _ z;obtain⟨e2,_⟩:=hok' b _ z2;rw[e]at e1;cases e1;exact e2
 cases hk:K.lookup a with
|some o =>
  -- the script is one of the module's own objects
  have e:=KX a o hk;rw[ha]at e;cases e;refine core (λ_=>none) (λ_=>.inl rfl) (.inr ⟨_,vs.toArray,_,hk,rfl,rfl,rfl,by rw[wE,lenV];exact hl,by simpa using rv⟩) (λb u z=>by have z':(none:Option HO)=some u:=z;cases z') (λb z=>absurd rfl z) λz=>absurd rfl z
|none =>
  refine core (λb=>if b=a then some (.frz { cls:=.type "list",data:=.seq vs.toArray } (.lst (ns.map V.int)))else none) (λb=>?_) (.inl (.inr ⟨{ cls:=.type "list",data:=.seq vs.toArray },if_pos rfl⟩)) (λb u z=>?_) (λb z=>?_) λ_=>hk
  ·by_cases hb:b=a
   ·exact .inr ⟨_,_,if_pos hb⟩
   ·exact .inl (if_neg hb)
  ·by_cases hb:b=a
   ·have z':=(if_pos hb).symm.trans z;cases z';subst hb;exact⟨ha,by rw[u4];exact hl,vs,_,rv,ha⟩
   ·have z':=(if_neg hb).symm.trans z;cases z'
  ·by_cases hb:b=a
   ·exact hb
   ·exact absurd (if_neg hb) z
theorem walk_of{l:PySem.W.OpenLaw}{n k:Nat}{q:Program}{loose:List Str}{XP:(Str->Option Value)->Heap->Prop}{YP:World->Heap->Prop}{d:DefRec}{K:Params->Fg}{CX:World->CXT}{sp:World->Sp} 
  (hn:l.most=some n) (hn2:n<=sizeLine) (hdf:d.params.defaults=[]) (hr:Room k callerA)
  (hY:∀(w:World)(h:Heap),YP w h->(K w.params).In h)
  (F:∀(w:World)(mg:Str->Option Value)(fa:Addr)(h:Heap),(K w.params).In h->h.Ns mainGlobals mg->mg d.name=some (.ref fa) ->
   ∃fd:FuncData,(∀(s:Shared)(u:Value),BindsTo s fd ⟨[u],[]⟩ [(x,u)]) /\
    ∀base:Heap,(K w.params).In base->base.Ns mainGlobals mg->FnOk l.prog w (K w.params) mg base (CX w) k fa fd [x] (sp w))
  (hsp:∀(w:World)(H:Hp)(a:Addr)(ns:List Int),ns.length<=n->Only H->SqL (K w.params) H a (ns.map V.int)->sp w [.ref a] H (λv _=>v=.bl true) λ_ _ _=>False)
  (hCX:∀(w:World)(H:Hp)(s:Shared)(e:Value)(s':Shared),CX w [] H s (λ_ _ _=>False) e s'->False) :
  PySem.W.WalkO q loose XP YP l.row.toRowW d [] (λf vs=>PySem.call f vs):=by
 refine Att.attach_call hn hdf λw s₀ s₁ mg mb fa o pm cd doc a vs ns G Yv ho hd hcd hmg hobj hints hlen hg=>?_;have KX:=hY w _ Yv;obtain⟨fd,hb,hF⟩:=F w mg fa _ KX G.T.g hmg;exact zu11 KX G.T.g G.T.b G.T.builtins G.T.nolimit hg hobj hints (wP hlen hn2) hr hF hb (λH hO hS=>hsp w H a ns hlen hO hS) λH e s'=>hCX w H s₁ e s'
def zu5(s:Stmt)(j:Nat):Stmt:=match s with
|.ClassDef _ _ _ body _ _ _ _ _ _ _=>body.getD j (.Pass ⟨0,0,0,0⟩)
|_=>.Pass ⟨0,0,0,0⟩
noncomputable def zxb(s:Stmt):Arguments:=match s with
|.FunctionDef _ a _ _ _ _ _ _ _ _=>a
|_=>{ posonlyargs:=[],args:=[],vararg:=none,kwonlyargs:=[],kw_defaults:=[],kwarg:=none,defaults:=[] }
def zu3(s:Stmt):List Stmt:=match s with
|.FunctionDef _ _ b _ _ _ _ _ _ _=>b
|_=>[]
def zh0(s:Stmt):Scope:=match s with
|.FunctionDef _ _ _ _ _ _ sc _ _ _=>sc
|_=>{ kind:=.function,names:=[],isGenerator:=false,isCoroutine:=false }
noncomputable abbrev CX0:CXT:=λ_ _ _ _ _ _=>False
noncomputable abbrev E0:XK:=λ_ _ _=>False
theorem zr31{X:Cx}:zzh CX0 X E0:=λ_ _ _ _ _ _ _ h=>h.elim
structure Fun(K:Fg)(x qual:Str)(st:Stmt)(f:Addr)(fd:FuncData):Prop where
 ex:∃(oc:Value)(od:Option Addr)(kV doc pm:Value)(an:Option Addr)(cdv ct:Value)(osl:Array (Option Value)),
  fd=PySem.W.fnOf x qual (zxb st) (zu3 st) (zh0 st) .none kV doc pm an cdv ct/\K.lookup f=some ⟨oc,od,.func fd,osl⟩/\PySem.W.codeIn K cdv qual=true
 kp:PySem.W.keepIn K (.ref f)=true
section
variable {P:Program}{w:World}{K:Fg}{mg:Str->Option Value}{base:Heap}
theorem Fun.ok{N:List Str}{k:Nat}(F:Fun K x qual st f fd)(S:FnScope N ps (zh0 st))(len:∀vs H Q E,sp vs H Q E->vs.length=ps.length)
  (hbody:∀(cdv:Value)(A:Around)(outer:List Env)(s:Shared)(H:Hp)(vs:List V)(Q:VK)(E:XK),Room k (A.deeper (envOfC qual (zh0 st) s.heap.objs.size f cdv))->sp vs H Q E ->
   ∃t,PSs (cxOf CX0 P w K mg base N qual (zh0 st) f cdv A outer s H E).nox (zu3 st) t/\t { nx:=λ_ H'=>Q .non H',rt:=Q } (start N vs) H):FnOk P w K mg base CX0 (k+1) f fd ps sp:=by
 obtain⟨oc,od,kV,doc,pm,an,cdv,ct,osl,rfl,lk,hcd⟩:=F.ex;refine zwe1 lk hcd S len λA outer s H vs Q E hr hsp=>?_;obtain⟨t,h,q⟩:=hbody cdv A outer s H vs Q E hr hsp;exact⟨t,h.nox,q⟩
theorem Fun.binds(F:Fun K x qual st f fd)
  (h:∀(kV doc pm:Value)(an:Option Addr)(cdv ct:Value)(us:List Value),us.length=ps.length->bindArgs (PySem.W.fnOf x qual (zxb st) (zu3 st) (zh0 st) .none kV doc pm an cdv ct) ⟨us,[]⟩=pure (ps.zip us)):Binds K fd ps []:=by
 obtain⟨oc,od,kV,doc,pm,an,cdv,ct,osl,rfl,lk,hcd⟩:=F.ex;exact .all (h kV doc pm an cdv ct)
theorem ze81{oc:Value}{od an:Option Addr}{osl:Array (Option Value)}{kV doc pm cdv ct:Value}(l:K.lookup f=some ⟨oc,od,.func (PySem.W.fnOf x qual (zxb st) (zu3 st) (zh0 st) .none kV doc pm an cdv ct),osl⟩)
  (c:PySem.W.codeIn K cdv qual=true) (k:PySem.W.keepIn K (.ref f)=true):Fun K x qual st f (PySem.W.fnOf x qual (zxb st) (zu3 st) (zh0 st) .none kV doc pm an cdv ct):=⟨⟨oc,od,kV,doc,pm,an,cdv,ct,osl,rfl,l,c⟩,k⟩
end
section
variable {X:Cx}
theorem pv(i:Nat){pos:Pos}(hN:X.N[i]?=some x:=by rfl)(hv:Vis X.env.scope x:=by first|exact Or.inl rfl|exact Or.inr (Or.inl rfl)|exact Or.inr (Or.inr rfl))(hd:(x == ("__debug__":Str))=false:=by decide)
  (hcd:(x == ("__classdict__":Str))=false:=by decide):PE X (.Name x pos) (tVar i):=zea1 hN hv hd hcd
end
noncomputable def Same(H H':Hp):Prop:=∀b o,H b=some o->H' b=some o
theorem Same.trans{H H1 H2:Hp}(a:Same H H1)(b:Same H1 H2):Same H H2:=λc o h=>b c o (a c o h)
theorem Same.seq{H H':Hp}{xs:List V}(e:Same H H')(h:SqL K H a xs):SqL K H' a xs:=by
 rcases h with(h|⟨o,h⟩)|h
 ·exact .inl (.inl (e _ _ h))
 ·exact .inl (.inr ⟨o,e _ _ h⟩)
 ·exact .inr h
end _2
namespace _3
open PySem PySem.Spec PyProof.Rows _2
variable {C f:Addr}{K:Fg}{N ps:List Str}{X:Cx}{a b:Expr}{an od:Option Addr}{cdv ct doc oc pm:Value}{env:Env}{es:List Expr}{fp:List Addr}{m qual x:Str}{mg:Str->Option Value}{op:CmpOp}{osl:Array (Option Value)}{pos:Pos}{scope:Scope}{sp:Sp}{st:Stmt}{ta tb:TE}
noncomputable abbrev St:=_2.St
noncomputable def zg7(env:Env):List (Str×NameKind)->List (Str×Addr)->List (Str×Addr)
|[],cs=>cs
|(n,k) :: r,cs=>zg7 env r (if k == .free then(match env.cells.lookup n with|some c=>(n,c) :: cs|none=>cs)else cs)
theorem zye{env:Env}:∀(names:List (Str×NameKind))(cs:List (Str×Addr)),(∀y∈names,y.2=.free->∃c,env.cells.lookup y.1=some c) ->
  (forIn names cs (λ(x:Str×NameKind)(r:List (Str×Addr))=>(match x with|(name,kind)=>if kind == .free then do let c <- cellOf env name;pure (ForInStep.yield ((name,c) :: r))else pure (ForInStep.yield r):Sem (ForInStep (List (Str×Addr))))):Sem (List (Str×Addr)))=pure (zg7 env names cs)
|[],cs,_=>rfl
|(n,k) :: r,cs,h=>by
  rw[zT];by_cases hk:k=.free
  ·subst hk;obtain⟨c,hc⟩:=h (n,.free) wJ rfl;have hc':env.cells.lookup n=some c:=hc;have e1:cellOf env n=pure c:=by unfold cellOf;rw[hc']
   simp only[beq_self_eq_true,if_true,e1];have:=zye r ((n,c) :: cs) λy hy=>h y (v8 _ hy);unfold zg7;simp only[beq_self_eq_true,if_true,hc'];exact this
  ·have hb:(k == NameKind.free)=false:=by simpa using hk
   simp only[hb,xV,if_false];have:=zye r cs λy hy=>h y (v8 _ hy);unfold zg7;simp only[hb,xV,if_false];exact this
theorem zqi(h:∀y∈scope.names,y.2=.free->∃c,env.cells.lookup y.1=some c):closureFor scope env=pure (zg7 env scope.names []):=by
 unfold closureFor;show(forIn scope.names [] _ >>= λcs=>pure cs)=_;rw[zye scope.names [] h];rfl
theorem zgh{env:Env}{x:Str}{c:Addr}:∀(names:List (Str×NameKind))(cs:List (Str×Addr)),(∀x c,cs.lookup x=some c->env.cells.lookup x=some c)->(zg7 env names cs).lookup x=some c->env.cells.lookup x=some c
|[],cs,h,e=>h x c e
|(n,k) :: r,cs,h,e=>by
  unfold zg7 at e;refine zgh r _ (λy d q=>?_) e;split at q
  ·split at q
   ·rename_i c' hc'
    rw[wO]at q;split at q
    ·rename_i hy
     cases q;rw[beq_iff_eq.mp hy];exact hc'
    ·exact h y d q
   ·exact h y d q
  ·exact h y d q
theorem zdg{env:Env}{x:Str}:∀(names:List (Str×NameKind))(cs:List (Str×Addr)),(∃c,cs.lookup x=some c)->∃c,(zg7 env names cs).lookup x=some c
|[],cs,h=>h
|(n,k) :: r,cs,⟨c,h⟩=>by
  unfold zg7;refine zdg r _ ?_;split
  ·split
   ·rename_i c' hc'
    rw[wO];split
    ·exact⟨_,rfl⟩
    ·exact⟨c,h⟩
   ·exact⟨c,h⟩
  ·exact⟨c,h⟩
theorem zef{env:Env}{x:Str}:∀(names:List (Str×NameKind))(cs:List (Str×Addr)),(x,NameKind.free)∈names->(∃c,env.cells.lookup x=some c)->∃c,(zg7 env names cs).lookup x=some c
|[],cs,h,_=>nomatch h
|(n,k) :: r,cs,h,⟨c,hc⟩=>by
  rcases v6.mp h with e|h
  ·cases e;unfold zg7;simp only[beq_self_eq_true,if_true,hc];exact zdg r _ ⟨c,by simp[wO]⟩
  ·unfold zg7;exact zef r _ h ⟨c,hc⟩
theorem zxf{env:Env}{x:Str}{c:Addr}:∀(names:List (Str×NameKind))(cs:List (Str×Addr)),(zg7 env names cs).lookup x=some c->(x,NameKind.free)∈names \/ cs.lookup x=some c
|[],cs,e=>.inr e
|(n,k) :: r,cs,e=>by
  unfold zg7 at e;rcases zxf r _ e with q|q
  ·exact .inl (v8 _ q)
  ·split at q
   ·rename_i hk
    split at q
    ·rw[wO]at q;split at q
     ·rename_i hy
      rw[beq_iff_eq.mp hy,<- beq_iff_eq.mp hk];exact .inl wJ
     ·exact .inr q
    ·exact .inr q
   ·exact .inr q
theorem zy31{x:Str}{c:Addr}:∀(names:List (Str×NameKind))(n:Nat)(acc:List (Str×Addr)),(cellsFrom n names acc).lookup x=some c->acc.lookup x=some c \/ ((x,NameKind.cell)∈names/\n<=c)
|[],_,_,e=>.inl e
|(y,k) :: r,n,acc,e=>by
  unfold cellsFrom at e;split at e
  ·rename_i hk
   rcases zy31 r (n+1) _ e with q|q
   ·rw[wO]at q;split at q
    ·rename_i hy
     cases q;rw[beq_iff_eq.mp hy,<- beq_iff_eq.mp hk];exact .inr ⟨wJ,u3 _⟩
    ·exact .inl q
   ·exact .inr ⟨v8 _ q.1,yW q.2⟩
  ·rcases zy31 r n _ e with q|q
   ·exact .inl q
   ·exact .inr ⟨v8 _ q.1,q.2⟩
theorem zc01{x:Str}:∀(names:List (Str×NameKind))(n:Nat)(acc:List (Str×Addr)),(x,NameKind.cell) ∉ names->(cellsFrom n names acc).lookup x=acc.lookup x
|[],_,_,_=>rfl
|(y,k) :: r,n,acc,h=>by
  unfold cellsFrom;split
  ·rename_i hk
   rw[zc01 r _ _ λz=>h (v8 _ z),wO];have:(x == y)=false:=by
    refine beq_eq_false_iff_ne.mpr λe=>h ?_;rw[e,<- beq_iff_eq.mp hk];exact wJ
   rw[this]
  ·exact zc01 r _ _ λz=>h (v8 _ z)
theorem zq01:∀(names:List (Str×NameKind))(n:Nat)(acc:List (Str×Addr)),(∀x c,acc.lookup x=some c->c < n)->(∀x y c,acc.lookup x=some c->acc.lookup y=some c->x=y) ->
  ∀x y c,(cellsFrom n names acc).lookup x=some c->(cellsFrom n names acc).lookup y=some c->x=y
|[],_,_,_,h=>h
|(z,k) :: r,n,acc,hb,h=>by
  unfold cellsFrom;split
  ·refine zq01 r (n+1) _ (λx c e=>?_) λx y c e1 e2=>?_
   ·rw[wO]at e;split at e
    ·cases e;exact zP _
    ·exact zB (hb x c e)
   ·rw[wO]at e1 e2;by_cases a:(x == z)=true <;> by_cases b:(y == z)=true
    ·rw[beq_iff_eq.mp a,beq_iff_eq.mp b]
    ·rw[a]at e1;rw[zU]at b;rw[b]at e2;cases e1;exact absurd (hb _ _ e2) (xA _)
    ·rw[b]at e2;rw[zU]at a;rw[a]at e1;cases e2;exact absurd (hb _ _ e1) (xA _)
    ·rw[zU]at a b;rw[a]at e1;rw[b]at e2;exact h x y c e1 e2
  ·exact zq01 r n acc hb h
theorem zco:∀(names:List (Str×NameKind))(h:Heap)(acc:List (Str×Addr)),(∀x c,acc.lookup x=some c->∃v,h.IsCell c v) ->
  ∀x c,(cellsFrom h.objs.size names acc).lookup x=some c->∃v,(pushCells h names).IsCell c v
|[],_,_,p=>p
|(y,k) :: r,h,acc,p=>by
  unfold cellsFrom pushCells;split
  ·have q:=zco r (h.push { cls:=.type "cell",data:=.cell none }) ((y,h.objs.size) :: acc) (by
    intro x c e;rw[wO]at e;split at e
    ·cases e;exact⟨none,_,wI _ rfl,rfl⟩
    ·obtain⟨v,z⟩:=p x c e;exact⟨v,z.keeps λb o e=>u5 _ e⟩)
   rwa [xP]at q
  ·exact zco r h acc p
theorem zsl{x:Str}{k k':NameKind}:∀{names:List (Str×NameKind)},(names.map (·.1)).Nodup->(x,k)∈names->(x,k')∈names->k=k'
|(y,j) :: r,h,a,b=>by
  obtain⟨h1,h2⟩:=wG.mp h;rcases v6.mp a with e|a' <;> rcases v6.mp b with e'|b'
  ·cases e;cases e';rfl
  ·cases e;exact(h1 (wU.mpr ⟨_,b',rfl⟩)).elim
  ·cases e';exact(h1 (wU.mpr ⟨_,a',rfl⟩)).elim
  ·exact zsl h2 a' b'
theorem zaj{M:Model}{A:Around}{E:Value->Shared->Prop}{s:Shared}{globals:Addr}{cl:List (Str×Addr)}{qual:Str}{env:Env}{Q:Env->Shared->Prop}
  (h:Q { scope,locals:=s.heap.objs.size,globals,cells:=cellsFrom (s.heap.objs.size+1) scope.names cl,qual,func:=none,code:=env.code,frame:=env.frame,builtins:=env.builtins } { s with heap:=pushCells (s.heap.push { cls:=.type "dict",data:=.dict #[] }) scope.names }) :
  wpAny M A (newFunctionEnv scope globals cl [] qual none .none (some env)) Q E s:=by
 simp only[newFunctionEnv,j5,if_true];refine wpAny_bind (wpAny_alloc ?_);refine wpAny_bind (wpAny_layCells _ (λname kind cells=>by cases hkc:kind == NameKind.cell <;> simp[hkc]) _ _ _ _ ?_);rw[show({ s with heap:=s.heap.push { cls:=.type "dict",data:=.dict #[] } }:Shared).heap.objs.size=s.heap.objs.size+1 from xP ..];rw[zV];exact wpAny_bind (wpAny_pure (wpAny_pure h))
section
variable {prog:Program}{w:World}{A:Around}{R:Result->Shared->Prop}{s:Shared}
theorem zrk{elt target iter:Expr}{ifs:List Expr}{it acc:Value}(I:Nat->Shared->Prop)
  (turn:∀n s,I n s->wpAny (model prog w) A (pyNext it) (λr s₁=>match r with
  |none=>R (.ok .next) s₁
  |some v=>wpAny (model prog w) A (letOwnedTupleGo target it v) (λ_ s₁'=>wpAny (model prog w) A (assign target env v) (λ_ s₂ =>
     wpAny (model prog w) A (forIn ifs true λc r=>if r=true then do let ok <- isTrue c env (eval c env);pure (ForInStep.yield ok)else pure (ForInStep.yield r)) (λok s₃ =>
      if ok=true then wpAny (model prog w) A (eval elt env) (λx s₄ =>
       wpAny (model prog w) A (call (.builtin "list.append") [acc,x]) (λ_ s₅=>∃m,m < n/\I m s₅) (notedBy (model prog w) A env λe s'=>R (.error e) s') s₄) (notedBy (model prog w) A env λe s'=>R (.error e) s') s₃
      else ∃m,m < n/\I m s₃) (notedBy (model prog w) A env λe s'=>R (.error e) s') s₂) (notedBy (model prog w) A env λe s'=>R (.error e) s') s₁') (notedBy (model prog w) A env λe s'=>R (.error e) s') s₁) (notedBy (model prog w) A env λe s'=>R (.error e) s') s)
  (n:Nat) (h:I n s) :
  codeAny (model prog w) A (.compLoop (.ListComp elt [⟨target,iter,ifs,0⟩] scope pos) 0 it acc env) R s:=by
 refine codeAny_loop rfl I (λn s hI=>?_) n h;show wpAny _ A ((compTurn (.ListComp elt [⟨target,iter,ifs,0⟩] scope pos) 0 it acc env).onRaise (λx=>do noteFrame x env;theTreesLotGoes x)) _ _ s;refine wpAny_noted ?_;rw[compTurn_list];refine wpAny_bind (wpAny_standAt (wpAny_bind (wpAny_mono (turn n s hI) (λr s₁ h₁=>?_) λ_ _ h'=>h')));cases r with
|none=>exact wpAny_pure h₁
|some v =>
  refine wpAny_bind (wpAny_mono h₁ (λ_ s₁' h₁'=>?_) λ_ _ h'=>h');refine wpAny_bind (wpAny_mono h₁' (λ_ s₂ h₂=>wpAny_bind (wpAny_mono h₂ (λok s₃ h₃=>?_) λ_ _ h'=>h')) λ_ _ h'=>h');cases ok with
 |false=>exact wpAny_pure ⟨rfl,h₃⟩
 |true =>
   exact wpAny_bind (wpAny_bind (wpAny_mono h₃ (λx s₄ h₄=>wpAny_bind (wpAny_mono h₄ (λ_ s₅ h₅=>wpAny_pure (wpAny_pure ⟨rfl,h₅⟩)) λ_ _ h'=>h')) λ_ _ h'=>h'))
end
noncomputable abbrev zgu(X:Cx)(scope:Scope)(C:Addr):List (Str×Addr):=cellsFrom (C+1) scope.names (zg7 X.env scope.names [])
noncomputable def zw8(X:Cx)(scope:Scope)(N:List Str)(s₀:Shared)(H₀:Hp)(C:Addr)(fp:List Addr):Cx where
 prog:=X.prog
 w:=X.w
 K:=X.K
 mg:=X.mg
 base:=X.base
 A:=X.A
 N:=N
 s₀:=s₀
 H₀:=H₀
 env:=compEnvC scope (zgu X scope C) C X.env
 outer:=X.stack
 stack:=X.stack
 ex:=fp
 fn:=λx=>decide (scope.names.lookup x=some .cell)
 calm:=X.calm
 pn:=[]
 xe:=λ_ _=>False
def zuh(N:List Str)(own:List Str)(ix:List Nat):List Str:=own++ix.map λi=>N.getD i ""
noncomputable def compY(n:Nat)(ix:List Nat)(Y:St):St:=v9 n none++ix.map λi=>Y.getD i none
structure CompSc(sc:Scope)(N own:List Str)(ix:List Nat)(scope:Scope):Prop where
 kind:scope.kind=.function
 cell:(scope.names.map (·.1)).Nodup
 names:∀y∈scope.names,y.2=.local->scope.names.lookup y.1=some .local
 free:∀y∈scope.names,y.2=.free->sc.names.lookup y.1=some .cell \/ sc.names.lookup y.1=some .free
 caps:∀i∈ix,i < N.length/\scope.names.lookup (N.getD i "")≠some .local/\scope.names.lookup (N.getD i "")≠some .cell
theorem zze{env : Env}{x : Str} : ∀(names : List (Str × NameKind)),
    ((names.map fun (n, k) => if(k == NameKind.free && env.scope.kind == .function && env.kindOf n == some .cell)then(n, NameKind.cell)else(n, k)).lookup x = some .cell ∨
     (names.map fun (n, k) => if(k == NameKind.free && env.scope.kind == .function && env.kindOf n == some .cell)then(n, NameKind.cell)else(n, k)).lookup x = some .free) → names.lookup x = some .free ∨ names.lookup x = some .cell
  | [], h => by rcases h with h | h <;> cases h
  | (n, k) :: r, h => by
    have ih := zze (env := env) (x := x) r;rw[wM]at h;by_cases hx : (x == n) = true
    · rw[wO, hx];dsimp only at h ⊢;by_cases hcc : (k == NameKind.free && env.scope.kind == .function && env.kindOf n == some .cell) = true
      · have : k = .free := by
          have := (j6.mp (j6.mp hcc).1).1;exact beq_iff_eq.mp this
        rw[this]; exact .inl rfl
      · rw[if_neg hcc, wO, hx]at h;exact h.symm
    · have hx' : (x == n) = false := by simpa using hx
      rw[wO, hx'];refine ih ?_;by_cases hcc : (k == NameKind.free && env.scope.kind == .function && env.kindOf n == some .cell) = true
      · simp only[hcc, if_true]at h;rw[wO, hx']at h;exact h
      · simp only[hcc, xV, if_false]at h;rw[wO, hx']at h;exact h
section
variable {X:Cx}{pins:List (Addr×Obj)}{Y:St}{H H':Hp}{s:Shared}
theorem zvx{own:List Str}{ix:List Nat}{h₁:Heap}{m:Str->Option Value}{t':Nat}(I:Inv X pins Y H s)(S:CompSc X.env.scope X.N own ix scope)
  (hns:h₁.Ns s.heap.objs.size m) (kc:∀x c,(zgu X scope s.heap.objs.size).lookup x=some c->∃v,h₁.IsCell c v) (k:∀b o,s.heap.get? b=some o->h₁.get? b=some o) (hf:∀b∈fp,FpOk X pins H b) (hfo:∀b∈fp,b < s.heap.objs.size) :
  Inv (zw8 X scope (zuh X.N own ix) s H s.heap.objs.size fp) [] (compY own.length ix Y) H { s with heap:=h₁,toks:=t' }:=by
 have hcl:∀x c,(zg7 X.env scope.names []).lookup x=some c->X.env.cells.lookup x=some c:=λx c e=>zgh scope.names [] (λ_ _ q=>by cases q) e;have hcl2:∀x c,(zgu X scope s.heap.objs.size).lookup x=some c->X.env.cells.lookup x=some c \/ s.heap.objs.size+1<=c:=λx c e=>(zy31 _ _ _ e).imp (hcl x c) And.right;have hfree:∀x,((relabel scope X.env).names.lookup x=some .cell \/ (relabel scope X.env).names.lookup x=some .free)->scope.names.lookup x=some .free \/ scope.names.lookup x=some .cell:=λx hx=>zze scope.names hx;have hX:∀x,scope.names.lookup x=some .free->X.env.kindOf x=some .cell \/ X.env.kindOf x=some .free:=λx hx=>S.free (x,.free) (PySem.mem_of_lookup hx) rfl;refine⟨⟨I.ok.mod,S.kind,I.ok.glob,I.ok.blt,u3 _,zq01 _ _ _ (λx c e=>?_) (λx y c e1 e2=>I.ok.inj x y c (hcl x c e1) (hcl y c e2)),λx hx=>?_,λx c z e=>?_,I.ok.hd,I.ok.frames,.inl rfl,λb hb=>?_,I.bs,wP I.ok.bsz I.sz,λb o e hb=>?_,λb hb hs=>?_,I.stack,I.stkFree⟩,
  rfl,I.bare,Un.kept k,⟨m,hns,λi x v e1 e2 e3=>?_⟩,kc,I.hok.fresh (u3 _),λx c e=>(hcl2 x c e).elim (I.freeC x c) (λz=>I.hok.fresh (yW z)),λp hp=>absurd (show p∈([]:List (Addr×Obj))from hp) (by simp),I.hok.kept k,?_⟩
 ·obtain⟨v,z⟩:=I.cell x c (hcl x c e);exact zB z.lt
 ·refine yV.mp (PySem.W.cellsFrom_some _ _ _ ?_);rcases hfree x hx with hx1|hx1
  ·exact .inr (yV.mpr (zef scope.names [] (PySem.mem_of_lookup hx1) (I.ok.has x (hX x hx1))))
  ·exact .inl hx1
 ·rcases zy31 _ _ _ e with q|q
  ·rcases zxf _ _ q with q|q
   ·have:=zsl S.cell (PySem.mem_of_lookup (of_decide_eq_true z)) q;cases this
   ·cases q
  ·exact yW q.2
 ·exact⟨wN (hfo b hb),λx c e=>(hcl2 x c e).elim ((hf b hb).2.2.2.2.1 x c) λz e2=>absurd (wS (hfo b hb) (yW (e2 ▸ z))) (xA _)⟩
 ·rcases(hf b hb).2.2.2.1 with z|z
  ·exact I.ok.noex b o e z
  ·exact absurd (wS (u9 e) (wP I.ok.bsz z)) (xA _)
 ·rcases v6.mp (I.stkSub b hs)with z|z
  ·exact(hf b hb).2.1 z
  ·exact(hf b hb).2.2.1 z
 ·-- a captured name
  have e2':(v9 own.length (none:Option V)++ix.map λi=>Y.getD i none)[i]?=some (some v):=e2;have e1':(own++ix.map λi=>X.N.getD i "")[i]?=some x:=e1;by_cases hi:i < own.length
  ·rw[xD (by simpa using hi),xK]at e2';split at e2' <;> cases e2'
  ·have hi':own.length<=i:=Nat.le_of_not_lt hi;rw[xC (by simpa using hi'),zR,wD]at e2';rw[xC hi',wD]at e1';cases hq:ix[i - own.length]? with
  |none=>rw[hq]at e2';cases e2'
  |some q =>
    rw[hq]at e1' e2';have ex:X.N.getD q ""=x:=wV.inj e1';have ev:Y.getD q none=some v:=wV.inj e2';obtain⟨hql,hnl⟩:=S.caps q (wT hq);rw[ex]at hnl;have hnc:=hnl.2
    replace hnl:=hnl.1
    have e3':(relabel scope X.env).names.lookup x=some .local \/ (relabel scope X.env).names.lookup x=some .cell \/ (relabel scope X.env).names.lookup x=some .free:=e3;have hcf:(relabel scope X.env).names.lookup x=some .cell \/ (relabel scope X.env).names.lookup x=some .free:=by
     rcases e3' with z|z
     ·exfalso;cases hs:scope.names.lookup x with
     |none =>
       have:∀(names:List (Str×NameKind)),names.lookup x=none->(names.map λ(n,k)=>if(k == NameKind.free && X.env.scope.kind == .function && X.env.kindOf n == some .cell)then(n,NameKind.cell)else(n,k)).lookup x=none:=by
        intro names
        induction names with
       |nil=>intro _;rfl
       |cons y r ih =>
         obtain⟨n,kk⟩:=y;intro hh;rw[wO]at hh;by_cases hxn:(x == n)=true
         ·rw[hxn]at hh;cases hh
         ·have hx':(x == n)=false:=by simpa using hxn
          rw[hx']at hh;rw[wM];by_cases hcc:(kk == NameKind.free && X.env.scope.kind == .function && X.env.kindOf n == some .cell)=true
          ·simp only[hcc,if_true];rw[wO,hx'];exact ih hh
          ·simp only[hcc,xV,if_false];rw[wO,hx'];exact ih hh
       have q0:=this scope.names hs;have z':(scope.names.map λ(n,k)=>if(k == NameKind.free && X.env.scope.kind == .function && X.env.kindOf n == some .cell)then(n,NameKind.cell)else(n,k)).lookup x=some .local:=z;rw[q0]at z';cases z'
     |some kk =>
       have:∀(names:List (Str×NameKind)),names.lookup x=some kk->(names.map λ(n,k)=>if(k == NameKind.free && X.env.scope.kind == .function && X.env.kindOf n == some .cell)then(n,NameKind.cell)else(n,k)).lookup x=some .local->kk=.local:=by
        intro names
        induction names with
       |nil=>intro h;cases h
       |cons y r ih =>
         obtain⟨n,k2⟩:=y;intro hh hz;rw[wO]at hh;rw[wM]at hz;by_cases hxn:(x == n)=true
         ·rw[hxn]at hh;have hk2:k2=kk:=wV.inj hh;by_cases hcc:(k2 == NameKind.free && X.env.scope.kind == .function && X.env.kindOf n == some .cell)=true
          ·simp only[hcc,if_true]at hz;rw[wO,hxn]at hz;cases hz
          ·simp only[hcc,xV,if_false]at hz;rw[wO,hxn]at hz;rw[<- hk2];exact wV.inj hz
         ·have hx':(x == n)=false:=by simpa using hxn
          rw[hx']at hh;by_cases hcc:(k2 == NameKind.free && X.env.scope.kind == .function && X.env.kindOf n == some .cell)=true
          ·simp only[hcc,if_true]at hz;rw[wO,hx']at hz;exact ih hh hz
          ·simp only[hcc,xV,if_false]at hz;rw[wO,hx']at hz;exact ih hh hz
       have:=this scope.names hs z;rw[this]at hs;exact hnl hs
     ·exact z
    have hfr:=(hfree x hcf).resolve_right hnc;have hkX:=hX x hfr;obtain⟨mX,hnX,hlX⟩:=I.loc;have eN:X.N[q]?=some x:=by
     rw[<- ex,v7];rw[u8 hql];rfl
    have eY:Y[q]?=some (some v):=by
     rw[v7]at ev;cases hs:Y[q]? with
    |none=>rw[hs]at ev;cases ev
    |some o=>rw[hs]at ev;exact congrArg some ev
    obtain⟨u,r,l⟩:=hlX q x v eN eY (.inr hkX);refine⟨u,r,.inr ⟨hcf,?_⟩⟩;rcases l with⟨hk,_⟩|⟨_,c,ec,hcell⟩
    ·exfalso;rcases hkX with z|z
     ·rw[hk]at z;cases z
     ·rw[hk]at z;cases z
    ·obtain⟨c',ec'⟩:=zef scope.names [] (PySem.mem_of_lookup hfr) ⟨c,ec⟩;have:=hcl x c' ec';rw[ec]at this;cases this;exact⟨c,(zc01 _ _ _ λz=>by cases zsl S.cell z (PySem.mem_of_lookup hfr)).trans ec',hcell.keeps k⟩
 ·show(compY own.length ix Y).length=(zuh X.N own ix).length;unfold compY zuh;simp
theorem zys{pins':List (Addr×Obj)}{Y':St}{s':Shared}{h'':Heap}(I:Inv X pins Y H s)(hf:∀b∈fp,FpOk X pins H b)
  (I':Inv (zw8 X scope N s H s.heap.objs.size fp) pins' Y' H' s') (sb:Heap.SameBut s.heap.objs.size s'.heap h''):Inv X pins Y H' { s' with heap:=h'' }:=by
 have ext:∀b o,b≠s.heap.objs.size->s'.heap.get? b=some o->h''.get? b=some o:=λb o nb e=>by rw[sb.2 b nb];exact e
 have old:∀b o,s.heap.get? b=some o->b≠s.heap.objs.size:=λb o e=>wN (u9 e);have u:=I'.base;refine I.call' (ch:=fp) I'.os ⟨λb o e n hb hx=>ext b o (old b o e) (u.keep b o e n hb hx),λb o e n hb hx=>?_,u.free,λb o e hx=>?_,u.tups,u.frzs,u.tbls⟩ (λb ob e=>?_) I'.bare λb hb=>⟨(hf b hb).2.2.2.1,(hf b hb).2.1,(hf b hb).2.2.2.2.1,(hf b hb).2.2.2.2.2⟩
 ·obtain⟨sl,q⟩:=u.slot b o e n hb hx;exact⟨sl,ext b _ (old b o e) q⟩
 ·obtain⟨o',q⟩:=u.there b o e hx;exact⟨o',ext b _ (old b o e) q⟩
 ·have nC:∀c v,H' c=some v->c≠s.heap.objs.size:=λc v q z=>by
   have:=I'.free;rw[z]at q;have z2:H' s.heap.objs.size=none:=this;rw[z2]at q;cases q
  refine(I'.hok b ob e).stay (λc v hc q=>ext c v ?_ q) (λ_ q=>q) λ_ _ q=>q;rcases hc with z|z
  ·rw[z];exact nC b ob e
  ·exact nC c _ z
end
noncomputable def zzd1(n:Nat)(ix:List Nat)(g:TG)(tt:TT)(te:TE)(Y:St)(J:It)(H1:Hp)(Q:VK):Prop:=∀D,H1 D=none->∃W:Nat->Nat->List V->St->Hp->Prop,(∃m,W 0 m [] (compY n ix Y) (upd H1 D (.lst []))) /\
 ∀i m acc Y' H',W i m acc Y' H'->(J.stop i H'/\Q (.ref D) H') \/ (J.go i H'/\∃N:List V->St->Hp->Prop,(∀acc' Y2 H2,N acc' Y2 H2->∃m',m' < m/\W (i+1) m' acc' Y2 H2) /\
  ∀x H2,J.yld i H' x H2->g x Y' H2 λY2 H3=>tt Y2 H3 λb H4=>if b=true then te Y2 H4 λy H5=>H5 D=some (.lst acc)/\acc.length < sizeLine/\N (acc++[y]) Y2 (upd H5 D (.lst (acc++[y])))else N acc Y2 H4)
noncomputable def zc81(wi:TI)(n:Nat)(ix:List Nat)(g:TG)(tt:TT)(te:TE):TE:=λY H Q=>wi Y H λJ H1=>zzd1 n ix g tt te Y J H1 Q
noncomputable def zm81:TT:=λ_ H Q=>Q true H
noncomputable def PIf(X:Cx)(ifs:List Expr)(t:TT):Prop :=
 ∀(pins:List (Addr×Obj))(s:Shared)(Y:St)(H:Hp)(Q:Bool->Hp->Prop),Inv X pins Y H s->t Y H Q ->
  wpAny (model X.prog X.w) X.A (forIn ifs true λc r=>if r=true then do let ok <- isTrue c X.env (eval c X.env);pure (ForInStep.yield ok)else pure (ForInStep.yield r)) (TP X pins Y Q) X.xe s
theorem zea:PIf X [] zm81:=λpins s Y H Q I h=>wpAny_tests_nil ⟨H,I,h⟩
theorem zfn{c:Expr}{t:TT}(h:PT X c t):PIf X [c] t:=λpins s Y H Q I q=>wpAny_tests_one (h pins s Y H Q I q)
section
variable {X:Cx}{tg iter elt:Expr}{ifs:List Expr}{scope:Scope}{pos:Pos}{own:List Str}{ix:List Nat}{wi:TI}{g:TG}{tt:TT}{te:TE}{sc:Scope}{N:List Str}
theorem zgj{pins:List (Addr×Obj)}{Y:St}{s2:Shared}{itv:Value}{Q:VK}{RR:Value->Addr->Result->Shared->Prop}{E:Value->Shared->Prop}(hc:X.calm=true)(S:CompSc X.env.scope X.N own ix scope)
  (hb:∀s₀ H₀ C fp,PG (zw8 X scope (zuh X.N own ix) s₀ H₀ C fp) tg g/\PIf (zw8 X scope (zuh X.N own ix) s₀ H₀ C fp) ifs tt/\PE (zw8 X scope (zuh X.N own ix) s₀ H₀ C fp) elt te)
  (h2:PIE X pins Y tg (λJ H1=>zzd1 own.length ix g tt te Y J H1 Q) itv s2)
  (hR:∀(D C:Addr)(m:Str->Option Value)(s':Shared)(H':Hp),s'.heap.Ns C m->C≠X.env.locals->(∀x c,X.env.cells.lookup x=some c->c≠C)->H' C=none->(X.s₀.heap.objs.size<=C)->(∀p∈X.pn++pins,p.1≠C) ->
   (∀h'',Heap.SameBut C s'.heap h''->Inv X pins Y H' { s' with heap:=h'' })->Q (.ref D) H'->RR (.ref D) C (.ok .next) s') :
  wpAny (model X.prog X.w) X.A (newList []) (λacc s₃=>wpAny (model X.prog X.w) X.A (newFunctionEnv scope X.env.globals (zg7 X.env scope.names []) [] X.env.qual none .none (some X.env)) (λcenv s₄ =>
   codeAny (model X.prog X.w) X.A (.compStart (.ListComp elt [⟨tg,iter,ifs,0⟩] scope pos) 0 itv acc { cenv with scope:=relabel scope X.env }) (RR acc cenv.locals) s₄) E s₃) E s2:=by
 obtain⟨it,fp,tn,J,H1,e,I2,T,st2,f2,h⟩:=h2;subst e;have hD:H1 s2.heap.objs.size=none:=I2.hok.fresh (u3 _);obtain⟨W,⟨m0,w0⟩,turn⟩:=h _ hD;have hlt:∀b∈fp,b < s2.heap.objs.size:=λb hbf=>by obtain⟨o,e,_⟩:=T.obj 0 _ st2 b hbf;exact u9 e
 refine wpAny_newObj_type ?_
 -- the new list is tracked
 have I3:Inv X pins Y (upd H1 s2.heap.objs.size (.lst [])) { s2 with heap:=s2.heap.push { cls:=.type "list",dict:=none,data:=.seq ([]:List Value).toArray } }:=I2.lnew (ys:=[]) (its:=[]) .nil (wW _);generalize hs3:({ s2 with heap:=s2.heap.push { cls:=.type "list",dict:=none,data:=.seq ([]:List Value).toArray } }:Shared)=s3 at I3 ⊢;have hsz:s3.heap.objs.size=s2.heap.objs.size+1:=by rw[<- hs3];exact xP ..
 have k3:∀b o,s2.heap.get? b=some o->s3.heap.get? b=some o:=λb o e=>by rw[<- hs3];exact u5 _ e
 have neD:∀b∈fp,b≠s2.heap.objs.size:=λb hbf=>wN (hlt b hbf);have f3:∀b∈fp,FpOk X pins (upd H1 s2.heap.objs.size (.lst [])) b:=λb hbf=>⟨by rw[zm0 (neD b hbf)];exact(f2 b hbf).1,(f2 b hbf).2⟩
 have hlt3:∀b∈fp,b < s3.heap.objs.size:=λb hbf=>by rw[hsz];exact zB (hlt b hbf)
 refine zaj ?_;have hns₁:=(Heap.Ns.new s3.heap (.type "dict")).keeps (pushCells_keeps scope.names _);have k4:∀b o,s3.heap.get? b=some o->(pushCells (s3.heap.push { cls:=.type "dict",data:=.dict #[] }) scope.names).get? b=some o:=λb o e=>pushCells_keeps _ _ b o (u5 _ e);have hcl:∀x c,(zg7 X.env scope.names []).lookup x=some c->X.env.cells.lookup x=some c:=λx c e=>zgh scope.names [] (λ_ _ q=>by cases q) e;have kc:=zco scope.names (s3.heap.push { cls:=.type "dict",data:=.dict #[] }) (zg7 X.env scope.names []) (λx c e=>by
  obtain⟨v,z⟩:=I3.cell x c (hcl x c e);exact⟨v,z.keeps λb o e=>u5 _ e⟩)
 rw[xP]at kc;generalize pushCells (s3.heap.push { cls:=.type "dict",data:=.dict #[] }) scope.names=h₁ at hns₁ k4 kc ⊢;have I4:=zvx (t':=s3.toks) I3 S hns₁ kc k4 f3 hlt3;obtain⟨hG,hT,hE⟩:=hb s3 (upd H1 s2.heap.objs.size (.lst [])) s3.heap.objs.size fp;have fp':∀{H':Hp},(∀b∈fp,H' b=none)->∀b∈fp,FpOk (zw8 X scope (zuh X.N own ix) s3 (upd H1 s2.heap.objs.size (.lst [])) s3.heap.objs.size fp) [] H' b:=λ{H'} hn b hbf=>by
  refine⟨hn b hbf,wN (hlt3 b hbf),?_,.inl hbf,λx c e=>(zy31 _ _ _ e).elim (λq=>(f2 b hbf).2.2.2.2.1 x c (hcl x c q)) (λq e2=>absurd (wS (hlt3 b hbf) (yW (e2 ▸ q.2))) (xA _)),λp hp=>absurd (show p∈([]:List (Addr×Obj))from hp) (by simp)⟩;intro z;rcases v6.mp (I3.stkSub b z)with z|z
  ·exact(f2 b hbf).2.1 z
  ·exact(f2 b hbf).2.2.1 z
 have st4:tn 0 h₁:=T.keep _ _ _ st2 λb _ o e=>k4 b o (k3 b o e);have cne:∀x c,X.env.cells.lookup x=some c->c≠s3.heap.objs.size:=λx c e z=>by
  obtain⟨v,q⟩:=I3.cell x c e;exact absurd q.lt (by rw[z];exact xA _)
 have loop:codeAny (model X.prog X.w) X.A (.compLoop (.ListComp elt [⟨tg,iter,ifs,0⟩] scope pos) 0 (.ref it) (.ref s2.heap.objs.size) (compEnvC scope (zgu X scope s3.heap.objs.size) s3.heap.objs.size X.env)) (RR (.ref s2.heap.objs.size) s3.heap.objs.size) { s3 with heap:=h₁ }:=by
  refine zrk (λn s'=>∃i acc Y' H',Inv (zw8 X scope (zuh X.N own ix) s3 (upd H1 s2.heap.objs.size (.lst [])) s3.heap.objs.size fp) [] Y' H' s'/\tn i s'.heap/\(∀b∈fp,H' b=none)/\W i n acc Y' H') ?_ m0 ⟨0,[],_,_,I4,st4,λb hbf=>(f3 b hbf).1,w0⟩;rintro n s5 ⟨i,acc,Y5,H5,I5,st5,fr5,w5⟩;rcases turn i n acc Y5 H5 w5 with⟨stop,qn⟩|⟨go,NN,hN,step⟩
  ·refine thn (T.done (zw8 X scope (zuh X.N own ix) s3 (upd H1 s2.heap.objs.size (.lst [])) s3.heap.objs.size fp) rfl rfl rfl hc i [] s5 Y5 H5 _ I5 (fp' fr5) st5 stop) λr s6 hz=>?_;obtain⟨hr,I6⟩:=hz;subst hr;obtain⟨m6,hn6,_⟩:=I6.loc;exact hR _ _ m6 s6 H5 hn6 (y6 I3.lt) cne I6.free (I3.sz) (λp hp z=>absurd (u9 (I3.pin p hp).1) (by rw[z];exact xA _)) (λh'' sb=>zys I3 f3 I6 sb) qn
  ·refine thn (T.item (zw8 X scope (zuh X.N own ix) s3 (upd H1 s2.heap.objs.size (.lst [])) s3.heap.objs.size fp) rfl rfl rfl hc i [] s5 Y5 H5 _ I5 (fp' fr5) st5 go) λr s6 hz=>?_;obtain⟨u,hr,h6⟩:=hz;subst hr;refine thn h6 λ_ s7 hz=>?_;obtain⟨x,H7,I7,r7,y7,st7,fr7⟩:=hz;have I7':=I7.pinned (fp' fr7) (T.obj _ _ st7);have noE:∀{α:Type}{t:Sem α}{Q1:α->Shared->Prop}{E1:Value->Shared->Prop}{sx:Shared},wpAny (model X.prog X.w) X.A t Q1 (λ_ _=>False) sx->wpAny (model X.prog X.w) X.A t Q1 E1 sx:=λq=>wpAny_noRaise q;refine noE (thn (hG _ s7 Y5 H7 x u _ I7' r7 (step x H7 y7)) λ_ s8 hz=>?_);obtain⟨Y8,H8,I8,q8⟩:=hz;refine noE (thn (hT _ s8 Y8 H8 _ I8 q8) λb s9 hz=>?_);obtain⟨H9,I9,q9⟩:=hz;have again:∀{Yz:St}{Hz:Hp}{sz:Shared}{accz:List V},Inv (zw8 X scope (zuh X.N own ix) s3 (upd H1 s2.heap.objs.size (.lst [])) s3.heap.objs.size fp) ([]++zis fp s7.heap) Yz Hz sz->NN accz Yz Hz->∃m,m < n/\∃i acc Y' H',Inv (zw8 X scope (zuh X.N own ix) s3 (upd H1 s2.heap.objs.size (.lst [])) s3.heap.objs.size fp) [] Y' H' sz/\tn i sz.heap/\(∀b∈fp,H' b=none)/\W i m acc Y' H':=λ{Yz Hz sz accz} Iz nz=>by
    obtain⟨m',hm,wz⟩:=hN accz Yz Hz nz;refine⟨m',hm,i+1,accz,Yz,Hz,Iz.unpinned,T.keep _ _ _ st7 λb hbf o e=>(Iz.pin (b,o) (xB _ (xB _ (zrb hbf e)))).1,λb hbf=>?_,wz⟩;obtain⟨o,e,d⟩:=T.obj _ _ st7 b hbf;exact(Iz.pin (b,o) (xB _ (xB _ (zrb hbf e)))).2.1
   cases b with
  |false =>
    have q9':NN acc Y8 H9:=by simpa using q9
    simp only[xV,if_false];exact again I9 q9'
  |true =>
    have q9':te Y8 H9 λy H5=>H5 s2.heap.objs.size=some (.lst acc)/\acc.length < sizeLine/\NN (acc++[y]) Y8 (upd H5 s2.heap.objs.size (.lst (acc++[y]))):=by simpa using q9
    simp only[if_true];refine noE (thn (hE _ s9 Y8 H9 _ I9 q9') λy s10 hz=>?_);obtain⟨yv,H10,I10,r10,hl,hz,q10⟩:=hz;refine noE (thn (zh4 _ s10 Y8 H10 (.ref s2.heap.objs.size) [yv] (.ref s2.heap.objs.size) [y] (λ_ H'=>NN (acc++[yv]) Y8 H') I10 rfl (.cons r10 .nil) ⟨_,acc,yv,rfl,rfl,hl,hz,q10⟩) λ_ s11 hz=>?_);obtain⟨_,H11,I11,_,q11⟩:=hz;exact again I11 q11
 exact codeAny_compStart_list loop (T.self X.A 0 _ _ _ st4 loop)
theorem zb7(hc:X.calm=true)(hsc:X.env.scope=sc)(hN:X.N=N)(S:CompSc sc N own ix scope)(hi:PI X tg iter wi)
  (hb:∀s₀ H₀ C fp,PG (zw8 X scope (zuh N own ix) s₀ H₀ C fp) tg g/\PIf (zw8 X scope (zuh N own ix) s₀ H₀ C fp) ifs tt/\PE (zw8 X scope (zuh N own ix) s₀ H₀ C fp) elt te)
  (hs:∀x,foldedSetIterable iter X.env x=pure x:=by intro _;rfl):PE X (.ListComp elt [⟨tg,iter,ifs,0⟩] scope pos) (zc81 wi own.length ix g tt te):=by
 subst hsc hN;intro pins s Y H Q I h;rw[eval_ListComp];refine wpAny_comprehension_free (use:=none) (g:=⟨tg,iter,ifs,0⟩) (gs:=[]) rfl hs (zqi λy hy hf=>I.ok.has y.1 (S.free y hy hf)) S.kind S.names ?_;show wpAny _ _ (eval iter X.env) _ _ _;refine thn (hi pins s Y H _ I h) λv s1 h1=>thn h1 λitv s2 h2=>?_;refine zgj (Q:=Q) (RR:=λacc C=>compPost (model X.prog X.w) X.A X.xe none (EP X pins Y Q) acc C) hc S hb h2 ?_;intro D C m s' H' hns _ _ _ _ _ hI q;exact⟨m,hns,λh'' sb=>⟨.ref D,H',hI h'' sb,rfl,q⟩⟩
theorem zwr{i:Nat}{pos' pos2:Pos}(hc:X.calm=true)(hsc:X.env.scope=sc)(hN:X.N=N)(S:CompSc sc N own ix scope)(hnd:X.N.Nodup)(hxi:X.N[i]?=some x)(hx:X.env.scope.names.lookup x=some .local)(hi:PI X tg iter wi)
  (hb:∀s₀ H₀ C fp,PG (zw8 X scope (zuh N own ix) s₀ H₀ C fp) tg g/\PIf (zw8 X scope (zuh N own ix) s₀ H₀ C fp) ifs tt/\PE (zw8 X scope (zuh N own ix) s₀ H₀ C fp) elt te)
  (hsw:swapsWith (.ListComp elt [⟨tg,iter,ifs,0⟩] scope pos) (some (.Name x pos')) pos2.line X.env=pure true:=by rfl)
  (hs:∀x,foldedSetIterable iter X.env x=pure x:=by intro _;rfl):PS X (.Assign [.Name x pos'] (.ListComp elt [⟨tg,iter,ifs,0⟩] scope pos) pos2) (tAsg (zc81 wi own.length ix g tt te) (zih i)):=by
 subst hsc hN;intro pins s Y H D I h;rw[exec_Assign_Name_used _ _ _ _ hsw];refine wpAny_bind (wpAny_standAt (wpAny_bind ?_));show wpAny _ X.A (do let _ <- comprehension (.ListComp elt [⟨tg,iter,ifs,0⟩] scope pos) scope X.env _ (newList []) false (eval iter X.env) (some (assign (.Name x pos') X.env))) _ _ s;refine wpAny_bind (wpAny_mono (wpAny_comprehension_free (use:=some (assign (.Name x pos') X.env)) (g:=⟨tg,iter,ifs,0⟩) (gs:=[]) (Q:=λ_ s'=>SP X pins D .next s') rfl hs (zqi λy hy hf=>I.ok.has y.1 (S.free y hy hf)) S.kind S.names
  (thn (hi pins s Y H _ I h) λv s1 h1=>thn h1 λitv s2 h2=>?_)) (λ_ s' hq=>wpAny_pure (wpAny_pure hq)) λ_ _ e=>e)
 refine zgj (Q:=λv H1=>zih i v Y H1 D.nx) (RR:=λacc C=>compPost (model X.prog X.w) X.A X.xe (some (assign (.Name x pos') X.env)) (λ_ s'=>SP X pins D .next s') acc C) hc S hb h2 ?_;intro L C m s' H' hns nL nC hC hC0 hCp hI q;show wpAny _ _ (assign (.Name x pos') X.env (.ref L)) _ _ s';have I':Inv X pins Y H' s':=hI s'.heap ⟨rfl,λ_ _=>rfl⟩;refine wpAny_assign_Name (zwl I' hnd hxi (.inl hx) (v:=.ref L) rfl (λs2 I2 hch=>?_) (.inr hx));obtain⟨a,sba,ha⟩:=hch;have naC:C≠a:=by
  rcases ha with z|z
  ·rw[z];exact nL
  ·exact λe=>nC x a z e.symm
 refine⟨m,hns.sameBut sba naC,λh'' sb=>?_⟩;refine⟨_,H',I2.turned (t':=s2.toks) (it:=C) (λb o nb e=>?_) hC nL (.inr hC0) nC hCp,q⟩;rw[sb.2 b nb];exact e
end
noncomputable def zld1(K:Fg):R2:=λx y H Q=>rI0 (λi j=>.int (i+j)) x y H Q \/ (∃i j,x=.str i/\y=.str j/\i.length+j.length<=sizeLine/\Q (.str (i++j)) H) \/ rCat x y H Q \/ zye1 K x y H Q
noncomputable def zge1:R2:=λx y H Q=>rI CMul (λi j=>.int (i * j)) x y H Q \/ rRep x y H Q
noncomputable def rSlU(K:Fg):V->Option Int->Option Int->Hp->VK->Prop:=λx lo hi H Q=>rSlL K x lo hi H Q \/ rSlT K x lo hi H Q
noncomputable def zgg1(K:Fg)(x:V)(H:Hp)(R:It->Hp->Prop):Prop:=(∃a,x=.ref a/\(∃xs,SqL K H a xs)/\R (Itl K a) H) \/ (∃a,x=.ref a/\(∃xs,SqT K H a xs)/\R (Itt K a) H)
noncomputable def rLen(K:Fg):List V->Hp->VK->Prop:=λxs H Q=>∃x n,xs=[x]/\LenV K x H n/\Q (.int (n:Nat)) H
noncomputable def zue1:List V->Hp->VK->Prop:=λxs H Q=>∃i j,xs=[.int i,.int j]/\Q (.int (if j > i then j else i)) H
noncomputable def zag1(xs:List V)(H:Hp)(Q:VK):Prop:=xs.length<=sizeLine/\∀p,H p=none->Q (.ref p) (upd H p (.tup xs))
noncomputable def zeg1(xs:List V)(H:Hp)(Q:VK):Prop:=xs.length<=sizeLine/\∀p,H p=none->Q (.ref p) (upd H p (.lst xs))
noncomputable def zb91(t:TA):TE:=λY H Q=>t Y H λxs H1=>zag1 xs H1 Q
noncomputable def zet(t:TA):TE:=λY H Q=>t Y H λxs H1=>zeg1 xs H1 Q
noncomputable def zlg1(x:V)(H:Hp)(Q:Option Int->Hp->Prop):Prop:=∃i,x=.int i/\Q (some i) H
noncomputable def zv41(t:TE):TO:=λY H Q=>t Y H λx H1=>zlg1 x H1 Q
noncomputable def kFld(K:Fg)(f:Str)(x:V)(H:Hp)(Q:VK):Prop:=∃a C dx fs v,x=.ref a/\H a=some (.ins C dx fs)/\Cls K C/\NoAttr K C f/\fs.lookup f=some v/\Q v H
noncomputable def zbf1(K:Fg)(ta:TE)(f:Str):TE:=λY H Q=>ta Y H λx H1=>kFld K f x H1 Q
noncomputable def kBl(x:V)(H:Hp)(Q:Bool->Hp->Prop):Prop:=∃k,x=.bl k/\Q k H
noncomputable def zgz(t:TE):TT:=λY H Q=>t Y H λx H'=>kBl x H' Q
noncomputable def kTru(K:Fg)(x:V)(H:Hp)(Q:Bool->Hp->Prop):Prop:=∃k,TruV K x H k/\Q k H
noncomputable def zq91(K:Fg)(t:TE):TT:=λY H Q=>t Y H λx H'=>kTru K x H' Q
section
variable {X:Cx}{tg:Expr}
theorem zf31(h:X.K=K):OpR X (binaryOp .Add) (zld1 K):=h ▸ zob1.or (zdp.or (zfb1.or zo51))
theorem zc41:OpR X (binaryOp .Mult) zge1:=zda1.or zr71
theorem ix_U(h:X.K=K):IxR X (rIx K):=h ▸ zk91
theorem sl_U(h:X.K=K):SlR X (rSlU K):=h ▸ zt61.or zjc1
theorem zw1(h:X.K=K):CallR X (.builtin "len") (rLen K):=h ▸ zoz
theorem zxl(hc:X.calm=true):CallR X (.builtin "max") zue1:=zhv hc
theorem zz4{t:TA}{x1}(h:PA X es t):PE X (.Tuple es x1 pos) (zb91 t):=zxc1 h
theorem zj1{t:TA}(h:PA X es t):PE X (.List es pos) (zet t):=zr91 h
theorem zmj{e:Expr}{te:TE}(h:PE X e te):PO X (some e) (zv41 te):=zx21 h
theorem zg1(h:X.K=K){e:Expr}{f:Str}(he:PE X e ta)(hb:attributeBase e f X.env (eval e X.env)=eval e X.env):PE X (.Attribute e f pos) (zbf1 K ta f):=h ▸ zwa1 he hb
theorem zv0{r:R2}(ho:OpR X (compareOp op) r)(ha:PE X a ta)(hb:PE X b tb)(hm:behindInMarks op b=false):PT X (.Compare a [op] [b] pos) (zgz (tOp r ta tb)):=zm71 ho ha hb hm
theorem zvg{c:Expr}{tc:TE}{pos:Pos}{op':CmpOp}{r r':R2}(ho:OpR X (compareOp op) r)(ho':OpR X (compareOp op') r')(ha:PE X a ta)(hb:PE X b tb)(hc:PE X c tc)
  (hm:lastMarks [op,op'] [b,c]=false:=by with_unfolding_all rfl):PT X (.Compare a [op,op'] [b,c] pos) (zgz (zsy r r' ta tb tc)):=zb01 ho ho' ha hb hc hm
theorem zr5(h:X.K=K)(ha:PE X a ta)(he:∀whole,isTrue a X.env whole=(do let v <- whole;standAt a.pos;holding [v] (truthy v))):PT X a (zq91 K ta):=h ▸ zs01 ha he
noncomputable def clsV:V->Option Value
|.ty n=>some (.type n)
|.ref a=>some (.ref a)
|_=>none
theorem zok{cV:V}{c v:Value}(h:clsV cV=some c)(r:RelV cV v):v=c:=by
 cases cV with
|ty n=>cases h;exact r
|ref a=>cases h;exact r
|_=>cases h
noncomputable def rIsI(K:Fg):List V->Hp->VK->Prop:=λxs H Q=>∃x cV c t b,xs=[x,cV]/\clsV cV=some c/\TyOf K H x t/\PySem.W.kitOne K t c=some b/\Q (.bl b) H
theorem zun(h:X.K=K):CallR X (.builtin "isinstance") (rIsI K):=by
 subst h;intro pins s Y H xs us Q I r h;obtain⟨x,cV,c,t,b,rfl,rc,ty,e,q⟩:=h;obtain⟨u,v,rfl,ru,rv⟩:=r.two;obtain rfl:=zok rc rv;exact zau I ru ty e λtk=>⟨.bl b,H,I.tok tk,rfl,q⟩
end
noncomputable def Def(P:Program)(w:World)(K:Fg)(mg:Str->Option Value)(base:Heap)(x:Str)(k:Nat)(ps:List Str)(sp:Sp):Prop :=
 ∃f fd,FnOk P w K mg base CX0 k f fd ps sp/\Binds K fd ps []/\PySem.W.keepIn K (.ref f)=true/\mg x=some (.ref f)
noncomputable def zdt(P:Program)(w:World)(K:Fg)(mg:Str->Option Value)(base:Heap)(x:Str)(C:Addr)(k:Nat)(ps:List Str)(sp:Sp):Prop :=
 ∃f fd,Mk K C f/\FnOk P w K mg base CX0 k f fd ps sp/\Binds K fd ps []/\mg x=some (.ref C)
noncomputable def zsb(P:Program)(w:World)(K:Fg)(mg:Str->Option Value)(base:Heap)(C:Addr)(m:Str)(k:Nat)(ps:List Str)(sp:Sp):Prop :=
 ∃f fd,Cls K C/\Meth K C m f/\FnOk P w K mg base CX0 k f fd ps sp/\Binds K fd ps []
section
variable {X:Cx}{k:Nat}{C:Addr}{ps:List Str}{sp:Sp}{x m:Str}{p pos apos:Pos}{e o:Expr}{es:List Expr}{ta:TE}{t:TA}
theorem zq0(d:Def X.prog X.w X.K X.mg X.base x k ps sp)(hr:Room k X.A)(hg:Gl X x)(ha:PA X (e :: es) t)(hdb:(x == ("__debug__":Str))=false:=by decide)
  (he:starEach (e :: es) X.env=(false,eval e X.env) :: starEach es X.env:=by rfl) (hpl:(backTo pos (starEach es X.env)).any (·.1)=false:=by rfl):PE X (.Call (.Name x p) (e :: es) [] pos) (zl21 sp [] E0 t):=by
 obtain⟨f,fd,F,b,kp,m⟩:=d;exact zd31 F hr hg m kp b .nil zr31 ha hdb he hpl
theorem zsd(d:zdt X.prog X.w X.K X.mg X.base x C k ps sp)(hr:Room (k+1) X.A)(hg:Gl X x)(ha:PA X (e :: es) t)(hdb:(x == ("__debug__":Str))=false:=by decide)
  (he:starEach (e :: es) X.env=(false,eval e X.env) :: starEach es X.env:=by rfl) (hpl:(backTo pos (starEach es X.env)).any (·.1)=false:=by rfl):PE X (.Call (.Name x p) (e :: es) [] pos) (zza1 C sp [] E0 t):=by
 obtain⟨f,fd,M,F,b,m⟩:=d;exact zg51 M F hr hg m b .nil zr31 ha hdb he hpl
theorem zez{pl:Sem Bool}(d:zsb X.prog X.w X.K X.mg X.base C m k ps sp)(hr:Room k X.A)(he:PE X o ta)(ha:PA X (e :: es) t)
  (hst:starEach (e :: es) X.env=(false,eval e X.env) :: starEach es X.env:=by rfl) (hpl:(backTo pos (starEach es X.env)).any (·.1)=false:=by rfl)
  (ht:eval (.Call (.Attribute o m apos) (e :: es) [] pos) X.env=(do
   let ov <- eval o X.env
   standAt apos.atName
   let (f,first) <- holding [ov] (getMethod ov m pl)
   callWith pos f first (backTo pos (starEach (e :: es) X.env)) (backToKw pos (keywordEach [] X.env))):=by rfl) :
  PE X (.Call (.Attribute o m apos) (e :: es) [] pos) (zi21 C m sp [] E0 ta t):=by
 obtain⟨f,fd,c,M,F,b⟩:=d;exact zj81 he c M F hr b .nil zr31 ha hst hpl ht
end
theorem zy2{H:Hp}{p:Addr}(h:H p=none)(o:HO):Same H (upd H p o):=λb u q=>by rw[zm0 (zf7 q h)];exact q
theorem zji{H H':Hp}{a:Addr}{xs:List V}(e:Same H H')(h:SqT K H a xs):SqT K H' a xs:=by
 rcases h with(h|⟨o,h⟩)|h
 ·exact .inl (.inl (e _ _ h))
 ·exact .inl (.inr ⟨o,e _ _ h⟩)
 ·exact .inr h
section
variable {K:Fg}{Y:St}{H:Hp}{Q:VK}{D:Ends}{a b p:Addr}{i j k:Int}{x y v:V}{xs ys:List V}{ta tb te:TE}{t u:TS}{tA:TA}{tt tt':TT}{A B:Prop}
theorem zfg1(h:SqT K H a xs)(e:atI xs i=some v)(q:Q v H):rIx K (.ref a) (.int i) H Q:=.inr (.inl ⟨a,xs,i,v,rfl,rfl,h,e,q⟩)
end
theorem zjc:bootBuiltins "len"=some (.builtin "len"):=by decide +kernel
theorem zh81:bootBuiltins "max"=some (.builtin "max"):=by decide +kernel
theorem zsb1:bootBuiltins "min"=some (.builtin "min"):=by decide +kernel
theorem zw0:bootBuiltins "isinstance"=some (.builtin "isinstance"):=by decide +kernel
theorem zx01:bootBuiltins "int"=some (.type "int"):=by decide +kernel
theorem zw71:bootBuiltins "bool"=some (.type "bool"):=by decide +kernel
theorem zv8:bootBuiltins "list"=some (.type "list"):=by decide +kernel
theorem zyx:bootBuiltins "tuple"=some (.type "tuple"):=by decide +kernel
structure Md(K:Fg)(mg:Str->Option Value):Prop where
 ex:∃h:Heap,K.In h/\h.Ns mainGlobals mg
theorem Md.got(M:Md K mg){v:Value}(e:PySem.W.nsIn K mainGlobals x=some (some v)):mg x=some v:=let ⟨_,X,G⟩:=M.ex;PySem.W.mg_of X G e
theorem Md.not(M:Md K mg)(e:PySem.W.nsIn K mainGlobals x=some none):mg x=none:=let ⟨_,X,G⟩:=M.ex;PySem.W.mg_none_of X G e
structure TopDef(K:Fg)(x:Str)(st:Stmt):Prop where
 ex:∃f fd,PySem.W.nsIn K mainGlobals x=some (some (.ref f))/\Fun K x x st f fd
theorem ztu{kV:Value}(a:PySem.W.nsIn K mainGlobals x=some (some (.ref f)))
  (l:K.lookup f=some ⟨oc,od,.func (PySem.W.fnOf x x (zxb st) (zu3 st) (zh0 st) .none kV doc pm an cdv ct),osl⟩) (c:PySem.W.codeIn K cdv x=true) (k:PySem.W.keepIn K (.ref f)=true):TopDef K x st:=⟨⟨_,_,a,ze81 l c k⟩⟩
structure TopMeth(K:Fg)(C:Addr)(m qual:Str)(st:Stmt):Prop where
 ex:∃f fd,PySem.W.findIn K (.ref C) m=some (some (.ref f))/\PySem.W.isFn K (.ref f)=true/\Fun K m qual st f fd
theorem zfo{kV:Value}(a:PySem.W.findIn K (.ref C) x=some (some (.ref f)))(i:PySem.W.isFn K (.ref f)=true)
  (l:K.lookup f=some ⟨oc,od,.func (PySem.W.fnOf x qual (zxb st) (zu3 st) (zh0 st) .none kV doc pm an cdv ct),osl⟩) (c:PySem.W.codeIn K cdv qual=true) (k:PySem.W.keepIn K (.ref f)=true):TopMeth K C x qual st:=⟨⟨_,_,a,i,ze81 l c k⟩⟩
structure TopCls(K:Fg)(x:Str)(C:Addr):Prop where
 at_:PySem.W.nsIn K mainGlobals x=some (some (.ref C))
 cls:Cls K C
 mkk:PySem.W.makesIn K C=true
 kp:PySem.W.keepIn K (.ref C)=true
theorem zpt(a:PySem.W.nsIn K mainGlobals x=some (some (.ref C)))(pg:PySem.W.plainGet K C y9=true)(hd:PySem.W.hasDictIn K C=true)(po:PySem.W.plainOver K C=true)
  (sa:PySem.W.findIn K (.ref C) "__setattr__"=some (some (.builtin "object.__setattr__"))) (mk:PySem.W.makesIn K C=true) (kc:PySem.W.keepIn K (.ref C)=true):TopCls K x C:=⟨a,⟨pg,hd,po,sa⟩,mk,kc⟩
section
variable {P:Program}{w:World}{K:Fg}{mg:Str->Option Value}{base:Heap}
noncomputable abbrev zla(x qual:Str)(st:Stmt)(ps:List Str):Prop :=
 ∀(kV doc pm:Value)(an:Option Addr)(cdv ct:Value)(us:List Value),us.length=ps.length->bindArgs (PySem.W.fnOf x qual (zxb st) (zu3 st) (zh0 st) .none kV doc pm an cdv ct) ⟨us,[]⟩=pure (ps.zip us)
noncomputable abbrev zuc(P:Program)(w:World)(K:Fg)(mg:Str->Option Value)(base:Heap)(qual:Str)(st:Stmt)(N:List Str)(k:Nat)(sp:Sp):Prop :=
 ∀(f:Addr)(cdv:Value)(A:Around)(outer:List Env)(s:Shared)(H:Hp)(vs:List V)(Q:VK)(E:XK),Room k (A.deeper (envOfC qual (zh0 st) s.heap.objs.size f cdv))->sp vs H Q E ->
   ∃t,PSs (cxOf CX0 P w K mg base N qual (zh0 st) f cdv A outer s H E).nox (zu3 st) t/\t { nx:=λ_ H'=>Q .non H',rt:=Q } (start N vs) H
theorem zb8{k:Nat}(M:Md K mg)(T:TopDef K x st)(S:FnScope N ps (zh0 st))(hb:zla x x st ps)(len:∀vs H Q E,sp vs H Q E->vs.length=ps.length)
  (body:zuc P w K mg base x st N k sp):Def P w K mg base x (k+1) ps sp:=by
 obtain⟨f,fd,a,F⟩:=T.ex;exact⟨f,fd,F.ok S len (λcdv A outer s H vs Q E hr h=>body f cdv A outer s H vs Q E hr h),F.binds hb,F.kp,M.got a⟩
theorem zcd{k:Nat}(c:Cls K C)(T:TopMeth K C m qual st)(S:FnScope N ps (zh0 st))(hb:zla m qual st ps)(len:∀vs H Q E,sp vs H Q E->vs.length=ps.length)
  (body:zuc P w K mg base qual st N k sp):zsb P w K mg base C m (k+1) ps sp:=by
 obtain⟨f,fd,a,i,F⟩:=T.ex;exact⟨f,fd,c,⟨a,i,F.kp⟩,F.ok S len (λcdv A outer s H vs Q E hr h=>body f cdv A outer s H vs Q E hr h),F.binds hb⟩
theorem zdn{k:Nat}(M:Md K mg)(c:TopCls K x C)(T:TopMeth K C "__init__" qual st)(S:FnScope N ps (zh0 st))(hb:zla "__init__" qual st ps)
  (len:∀vs H Q E,sp vs H Q E->vs.length=ps.length) (body:zuc P w K mg base qual st N k sp):zdt P w K mg base x C (k+1) ps sp:=by
 obtain⟨f,fd,a,i,F⟩:=T.ex;exact⟨f,fd,⟨c.mkk,a,i,c.kp⟩,F.ok S len (λcdv A outer s H vs Q E hr h=>body f cdv A outer s H vs Q E hr h),F.binds hb,M.got c.at_⟩
theorem zed1{k:Nat}{fa:Addr}(M:Md K mg)(T:TopDef K "law" st)(hfa:mg "law"=some (.ref fa))(S:FnScope N ["script"] (zh0 st))(hb:zla "law" "law" st ["script"])(len:∀vs H Q E,sp vs H Q E->vs.length=1)
  (body:∀base:Heap,K.In base->base.Ns mainGlobals mg->zuc P w K mg base "law" st N k sp) :
  ∃fd:FuncData,(∀(s:Shared)(v:Value),BindsTo s fd ⟨[v],[]⟩ [("script",v)])/\∀base:Heap,K.In base->base.Ns mainGlobals mg->FnOk P w K mg base CX0 (k+1) fa fd ["script"] sp:=by
 obtain⟨f,fd,a,F⟩:=T.ex;have e:=hfa.symm.trans (M.got a);cases e;obtain⟨oc,od,kV,doc,pm,an,cdv,ct,osl,e1,lk,hcd⟩:=id F.ex;refine⟨fd,λs v=>.of_eq ?_,λbase kb nb=>F.ok S len λcdv A outer s H vs Q E hr h=>body base kb nb fa cdv A outer s H vs Q E hr h⟩;rw[e1];exact hb kV doc pm an cdv ct [v] rfl
end
noncomputable def zq41:PyData->Bool
|.int _=>true
|.str _=>true
|_=>false
mutual
inductive Is(K:Fg)(H:Hp):V->PyData->Prop
|non:Is K H .non .none
|bl (b:Bool):Is K H (.bl b) (.bool b)
|int (i:Int):Is K H (.int i) (.int i)
|str (x:Str):Is K H (.str x) (.str x)
|lst {a:Addr} {xs:List V} {ds:List PyData}:SqL K H a xs->IsAll K H xs ds->Is K H (.ref a) (.list ds)
|tup {a:Addr} {xs:List V} {ds:List PyData}:H a=some (.tup xs)->IsAll K H xs ds->Is K H (.ref a) (.tuple ds)
|tuc {a:Addr} {xs:List V} {ds:List PyData}:SqT K H a xs->IsAll K H xs ds->ds.all zq41=false->Is K H (.ref a) (.tuple ds)
inductive IsAll(K:Fg)(H:Hp):List V->List PyData->Prop
|nil:IsAll K H [] []
|cons {x:V} {d:PyData} {xs:List V} {ds:List PyData}:Is K H x d->IsAll K H xs ds->IsAll K H (x :: xs) (d :: ds)
end
mutual
theorem Is.mono{K:Fg}{H H':Hp}(s:Same H H'):∀{v:V}{d:PyData},Is K H v d->Is K H' v d
|_,_,.non=>.non
|_,_,.bl b=>.bl b
|_,_,.int i=>.int i
|_,_,.str x=>.str x
|_,_,.lst h r=>.lst (s.seq h) (IsAll.mono s r)
|_,_,.tup h r=>.tup (s _ _ h) (IsAll.mono s r)
|_,_,.tuc h r n=>.tuc (zji s h) (IsAll.mono s r) n
theorem IsAll.mono{K:Fg}{H H':Hp}(s:Same H H'):∀{v:List V}{d:List PyData},IsAll K H v d->IsAll K H' v d
|_,_,.nil=>.nil
|_,_,.cons h r=>.cons (Is.mono s h) (IsAll.mono s r)
end
section
variable {X:Cx}{pins:List (Addr×Obj)}{Y:St}{H:Hp}{s:Shared}
mutual
theorem zvc(I:Inv X pins Y H s):∀{v:V}{d:PyData}{u:Value},Is X.K H v d->RelV v u->∃as,Reads s.heap u d as
|_,_,_,.non,r=>by cases r;exact⟨_,.none⟩
|_,_,_,.bl b,r=>by cases r;exact⟨_,.bool b⟩
|_,_,_,.int i,r=>by obtain⟨t,rfl⟩:=r;exact⟨_,.int i t⟩
|_,_,_,.str x,r=>by obtain⟨t,rfl⟩:=r;exact⟨_,.str x t⟩
|_,_,_,.lst h q,r=>by
  cases r;obtain⟨its,rv,p,_⟩:=I.list h;obtain⟨as,z⟩:=zx9 I q rv;obtain⟨o,ho,hc,n,hd⟩:=p.isList;exact⟨_,.list ho hc hd (by simpa using z)⟩
|_,_,_,.tup h q,r=>by
  cases r;obtain⟨its,rv,p,_⟩:=I.tuple (SqT.of h);obtain⟨as,z⟩:=zx9 I q rv;obtain⟨o,ho,hc,n,hd⟩:=(show s.heap.IsTuple _ its.toArray from p)
  exact⟨_,.tuple ho hc hd (by simpa using z)⟩
|_,_,_,.tuc h q _,r=>by
  cases r;obtain⟨its,rv,p,_⟩:=I.tuple h;obtain⟨as,z⟩:=zx9 I q rv;obtain⟨o,ho,hc,n,hd⟩:=(show s.heap.IsTuple _ its.toArray from p)
  exact⟨_,.tuple ho hc hd (by simpa using z)⟩
theorem zx9(I:Inv X pins Y H s):∀{v:List V}{d:List PyData}{u:List Value},IsAll X.K H v d->Vals v u->∃as,ReadsAll s.heap u d as
|_,_,_,.nil,r=>by cases r;exact⟨_,.nil⟩
|_,_,_,.cons h q,r=>by
  cases r with
 |cons r1 r2 =>
   obtain⟨as,z⟩:=zvc I h r1;obtain⟨bs,y⟩:=zx9 I q r2;exact⟨_,.cons z y⟩
end
end
noncomputable def rEqU(K:Fg):R2:=λx y H Q=>rEq x y H Q \/ (∃d e,Is K H x d/\Is K H y e/\SeqAt.shaped d=true/\SeqAt.shaped e=true/\Q (.bl (xE d e)) H)
noncomputable def rNeU(K:Fg):R2:=λx y H Q=>rNe x y H Q \/ (∃d e,Is K H x d/\Is K H y e/\SeqAt.shaped d=true/\SeqAt.shaped e=true/\Q (.bl (!PyData.eqv d e)) H)
section
variable {X:Cx}
theorem zx1(h:X.K=K)(hu:X.A.units+64 < cLine):OpR X (compareOp .Eq) (rEqU K):=by
 subst h;refine zig1.or ?_;intro pins s Y H x y v u Q I rx ry q;obtain⟨d,e,hd,he,sd,se,q⟩:=q;obtain⟨as,r1⟩:=zvc I hd rx;obtain⟨bs,r2⟩:=zvc I he ry;exact eq_dataH r1 r2 sd se hu ⟨.bl _,H,I,rfl,q⟩
theorem zwj(h:X.K=K)(hu:X.A.units+64 < cLine):OpR X (compareOp .NotEq) (rNeU K):=by
 subst h;refine zmg1.or ?_;intro pins s Y H x y v u Q I rx ry q;obtain⟨d,e,hd,he,sd,se,q⟩:=q;obtain⟨as,r1⟩:=zvc I hd rx;obtain⟨bs,r2⟩:=zvc I he ry;exact ne_dataH r1 r2 sd se hu ⟨.bl _,H,I,rfl,q⟩
noncomputable def zd71(P:Program)(w:World)(K:Fg)(mg:Str->Option Value)(base:Heap)(m:Str)(k:Nat)(ta:TE)(t:TA):TE:=λY H Q=>ta Y H λx H1=>∃a C dx fs ps sp,x=.ref a/\H1 a=some (.ins C dx fs)/\fs.lookup m=none /\
 zsb P w K mg base C m k ps sp/\t Y H1 λvs H2=>sp (x :: vs) H2 Q E0
theorem zgo{P:Program}{w:World}{base:Heap}{k:Nat}{m:Str}{pos apos:Pos}{e o:Expr}{t:TA}{pl:Sem Bool}(hP:X.prog=P)(hw:X.w=w)(hK:X.K=K)(hmg:X.mg=mg)(hbs:X.base=base)(hr:Room k X.A)(he:PE X o ta)(ha:PA X (e :: es) t)
  (hst:starEach (e :: es) X.env=(false,eval e X.env) :: starEach es X.env:=by rfl) (hpl:(backTo pos (starEach es X.env)).any (·.1)=false:=by rfl)
  (ht:eval (.Call (.Attribute o m apos) (e :: es) [] pos) X.env=(do
   let ov <- eval o X.env
   standAt apos.atName
   let (f,first) <- holding [ov] (getMethod ov m pl)
   callWith pos f first (backTo pos (starEach (e :: es) X.env)) (backToKw pos (keywordEach [] X.env))):=by rfl) :
  PE X (.Call (.Attribute o m apos) (e :: es) [] pos) (zd71 P w K mg base m k ta t):=by
 subst hP hw hK hmg hbs;intro pins s Y H Q I h;refine PySem.W.methodCall_KW (pl:=pl) (thn (he pins s Y H _ I h) λu s1 hz=>?_) ht;obtain⟨x,H1,I1,rx,a,C,dx,fs,ps,sp,ex,ea,l,d,q⟩:=hz;subst ex;obtain rfl:u=u7 a:=rx;obtain⟨f,fd,c,hm,F,b⟩:=d;refine zd7 I1 ea c hm l ?_;refine PySem.W.callWith_K (first:=[.ref a]) (h₀:=X.base) I.ok.mod.kin hm.kp (thn (ha pos pins s1 Y H1 _ I1 q) λus s2 ⟨vs,H2,I2,r,q2⟩=>⟨I2.kIn,?_⟩) hst hpl;exact zdu (us:=.ref a :: us) (vs:=.ref a :: vs) (dvs:=[]) (ds:=[]) F hr b .nil zr31 I2 (.cons rfl r) (by rw[wQ];exact q2)
end
variable {A:Around}{C b f it:Addr}{E xe:Value->Shared->Prop}{K:Fg}{N ps:List Str}{X:Cx}{Y:St}{base h':Heap}{es:List Expr}{i n:Nat}{mg:Str->Option Value}{pins:List (Addr×Obj)}{pos:Pos}{qual x:Str}{s:Shared}{sp:Sp}{st:Stmt}{w:World}{xs:List V}
section
variable {X:Cx}
noncomputable abbrev TJ:=Str->St->Hp->(Str->Hp->Prop)->Prop
noncomputable def PJ(X:Cx)(es:List Expr)(t:TJ):Prop :=
 ∀(acc:Str)(pins:List (Addr×Obj))(s:Shared)(Y:St)(H:Hp)(Q:Str->Hp->Prop),Inv X pins Y H s->t acc Y H Q ->
  wpAny (model X.prog X.w) X.A (joinParts acc (evalEach es X.env)) (λv s'=>∃z H' tk,v=.str z tk/\Inv X pins Y H' s'/\Q z H') X.xe s
noncomputable def jNil:TJ:=λacc _ H Q=>acc.length<=sizeLine/\Q acc H
noncomputable def zhe1(y:Str)(t:TJ):TJ:=λacc Y H Q=>(acc++y).length<=sizeLine/\t (acc++y) Y H Q
noncomputable def kFmt(x:V)(H:Hp)(Q:Str->Hp->Prop):Prop:=(∃z,x=.str z/\z.length<=sizeLine/\Q z H) \/ ∃i:Int,x=.int i/\i.natAbs.log2 < 1920/\Q (wY (toString i)) H
theorem zpq:PJ X [] jNil:=λacc pins s Y H Q I h=>joinParts_nil ⟨acc,H,_,rfl,I.tok _,h.2⟩ h.1
theorem zfb{y:Str}{j:Nat}{t:TJ}(h:PJ X es t):PJ X (.Constant (.str y) j pos :: es) (zhe1 y t):=by
 intro acc pins s Y H Q I q;refine joinParts_cons (Calls.Constant_str ?_);exact⟨q.1,h _ pins _ Y H Q (I.tok _) q.2⟩
noncomputable def zqw(t:TJ):TE:=λY H Q=>t y9 Y H λz H'=>Q (.str z) H'
theorem zub{v₁ v₂:Expr}{rest:List Expr}{t:TJ}(h:PJ X (v₁ :: v₂ :: rest) t):PE X (.JoinedStr (v₁ :: v₂ :: rest) pos) (zqw t):=by
 intro pins s Y H Q I q;refine JoinedStr_many (thn (h y9 pins s Y H _ I q) λv s1 hz=>?_);obtain⟨z,H',tk,e,I1,q1⟩:=hz;subst e;exact⟨.str z,H',I1,⟨tk,rfl⟩,q1⟩
noncomputable def rInt:List V->Hp->VK->Prop:=λxs H Q=>((∃i,xs=[.int i]/\Q (.int i) H) \/ ∃k,xs=[.bl k]/\Q (.int (if k then 1 else 0)) H) \/ ∃z n,xs=[.str z]/\PySem.intText? z=some n/\z.length<=640/\Q (.int n) H
theorem zpm:CallR X (.type "int") rInt:=by
 intro pins s Y H xs us Q I r h;rcases h with h|⟨z,n,rfl,hn,hl,q⟩
 ·exact zwt pins s Y H xs us Q I r h
 ·obtain⟨u,rfl,t,rfl⟩:=r.one;exact PySem.W.KIN.call_text hn hl ⟨.int n,H,I.tok _,⟨_,rfl⟩,q⟩
noncomputable def Its(z:Str):It:=⟨λi _=>i < z.cps.size,λi H x H'=>H'=H/\∃c,z.cps[i]?=some c/\x=.str ⟨#[c]⟩,λi _=>z.cps.size<=i⟩
theorem zpz{P:Program}{tg:Expr}(z:Str)(t:Tok)(it:Addr):Turn P w K tg (Its z) [it] it (λi h=>h.IsStrIter it "str_ascii_iterator" z t i) where
 mem:=by simp
 obj:=λi h st b hb=>by
  have e:b=it:=by simpa using hb
  subst e;obtain⟨o,e,c,d⟩:=st;exact⟨o,e,λv z=>by rw[d]at z;cases z⟩
 keep:=λi h h' st k=>by
  obtain⟨o,e,c,d⟩:=st;exact⟨o,k it (by simp) o e,c,d⟩
 item:=by
  intro X hP hw hK hc i pins s Y H E I hf st hg;subst hP hw hK;have hg':i < z.cps.size:=hg;obtain⟨f0,f1,f2,f3,f4,f5⟩:=hf it (by simp);have hx:z.cps[i]?=some z.cps[i]:=by simp[hg']
  refine wpAny_pyNext_ascii_item st hx λh' st' sb=>?_;have I1:Inv X pins Y H { s with heap:=h',toks:=s.toks+1 }:=I.turned (t':=s.toks+1) (λb o hb e=>(sb.2 b hb).trans e) f0 f1 f3 f4 f5;obtain⟨o,e,c,d⟩:=id st';exact⟨_,rfl,ze91 (s:={ s with heap:=h',toks:=s.toks+1 }) e c d (by decide) ⟨.str ⟨#[z.cps[i]]⟩,H,I1,⟨_,rfl⟩,⟨rfl,_,hx,rfl⟩,st',λb hb=>(hf b hb).1⟩⟩
 done:=by
  intro X hP hw hK hc i pins s Y H E I hf st hg;subst hP hw hK;have hg':z.cps.size<=i:=hg;obtain⟨f0,f1,f2,f3,f4,f5⟩:=hf it (by simp);have hx:z.cps[i]?=none:=by simp[hg']
  exact wpAny_pyNext_ascii_end (I.ok.hd hc) st hx λh' eb=>⟨rfl,I.turned (t':=s.toks) (λb o hb e=>eb b o hb e) f0 f1 f3 f4 f5⟩
 self:=λA i s Q E st h=>wpAny_pyIter_striter_ascii st h
end
theorem zzc{P:Program}{H:Hp}{h:Heap}{a:Addr}{o:HO}(x:ObjOk P w H h a o):∃ob,h.get? a=some ob:=by
 cases o with
|lst xs=>obtain⟨_,_,_,_,e⟩:=x;exact⟨_,e⟩
|tup xs=>obtain⟨_,_,_,o,e,_⟩:=x;exact⟨o,e⟩
|dK kvs=>obtain⟨_,_,_,_,o,_,_,e,_⟩:=x;exact⟨o,e⟩
|dT kvs=>obtain⟨_,_,_,_,o,_,_,e,_⟩:=x;exact⟨o,e⟩
|set S n=>obtain⟨o,_,_,_,e,_⟩:=x;exact⟨o,e⟩
|ins C dx fs=>obtain⟨_,_,_,e,_⟩:=x;exact⟨_,e⟩
|own y=>exact x
|xd fs=>obtain⟨_,⟨_,_,_,e,_⟩,_⟩:=x;exact⟨_,e⟩
|rng lo hi=>obtain⟨_,_,_,e⟩:=x;exact⟨_,e⟩
|frz ob u=>obtain⟨e,_⟩:=x;exact⟨_,e⟩
|tbl ps=>exact⟨_,(show h.get? a=some _ from x)⟩
|met f y=>exact⟨_,(show h.get? a=some _ from x)⟩
|ext φ=>obtain⟨_,e,_⟩:=x;exact e
theorem zx71(M:Mod K mg base)(p:Program):∃loose mb,PySem.W.TopRead p loose mg mb base:=by
 obtain⟨o,es,ep,ho,hd,hk,hf⟩:=id M.glob;obtain⟨mb,hb,hbb⟩:=M.blt;refine⟨es.toList.filterMap λe=>match e.key with|.str n _=>some n|_=>none,mb,M.glob,hb,M.nolimit,hbb,λx _ hx _ _ _=>?_⟩;rw[<- hf x];cases q:nsFind es x with
|none=>rfl
|some v =>
  exfalso;unfold nsFind findBy at q;cases z:es.find? (λe=>e.key.isStr x)with
 |none=>rw[z]at q;cases q
 |some e =>
   have h1:=Array.find?_some z;have h2:=Array.mem_of_find?_eq_some z;apply hx;refine yU.mpr ⟨e,by simpa using h2,?_⟩;obtain⟨n,t,hn⟩:=hk e h2;have h1':e.key.isStr x=true:=h1;rw[hn]at h1' ⊢;have:n=x:=by simpa[Value.isStr]using h1'
   rw[this]
abbrev vbm:List Value:=[.type "ValueError",.type "Exception",.type "BaseException",.type "object"]
structure XCls(K:Fg)(x:Str)(C:Addr):Prop where
 at_:PySem.W.nsIn K mainGlobals x=some (some (.ref C))
 ok:PySem.W.excIn K C vbm "ValueError.__new__"=true
theorem zmb1(M:Mod K mg base)(c:XCls K x C):OwnCls x C vbm "ValueError.__new__" mg base:=by
 obtain⟨loose,mb,T⟩:=zx71 M ⟨⟨[],⟨.module,[],false,false,[]⟩,false, "",[]⟩,[],[],[],[],{ argv:=[],stdin:=[],environ:=none }⟩;exact PySem.W.own_of_in M.kin T c.at_ c.ok
noncomputable def zvo(X:Cx)(E:XK):Prop:=∀(pins:List (Addr×Obj))(Y:St)(H:Hp)(s:Shared)(h':Heap)(ea C:Addr)(vs:List Value),Inv X pins Y H s->Heap.MadeExcOf s.heap h' ea (.ref C) vs->E (.ref C) none H->X.xe (.ref ea) { s with heap:=h' }
noncomputable def zf51(C:Addr)(E:XK)(t:TA):TS:=λ_ Y H=>t Y H λvs H1=>vs.length<=sizeLine/\E (.ref C) none H1
theorem zae{E:XK}{np cpos pos:Pos}{e:Expr}{t:TA}(hx:zvo X E)(c:XCls X.K x C)(hc:X.calm=true)(hg:Gl X x)(ha:PA X (e :: es) t)(hdb:(x == ("__debug__":Str))=false:=by decide)
  (he:starEach (e :: es) X.env=(false,eval e X.env) :: starEach es X.env:=by rfl) (hpl:(backTo cpos (starEach es X.env)).any (·.1)=false:=by rfl):PS X (.Raise (some (.Call (.Name x np) (e :: es) [] cpos)) none pos) (zf51 C E t):=by
 intro pins s Y H D I h;obtain⟨bnd,tl,N,nm,q,bs,hdct,sn,sub,ab,col,dd,k0,k1,k2,k3,k5,mN,hC,hN,hni,T⟩:=zmb1 I.mod c;refine wpAny_Raise_call_subT (C:=C) (nm:=nm) (q:=q) (N:=N) (bs:=bs) (bm:=tl) (hdct:=hdct) (sn:=sn) (sub:=sub) (ab:=ab) (col:=col) (dd:=dd) (k0:=k0) (k1:=k1) (k2:=k2) (k3:=k3) (k5:=k5)
  PySem.F.excBase_ValueError (mN:=mN) (T.hasType (by decide)) (I.ok.hd hc) (by rw[he];show(false || (backTo cpos (starEach es X.env)).any (·.1))=false;rw[hpl];rfl) hni (zng I hg bnd ⟨rfl,?_⟩ hdb)
 have hA:=ha cpos pins s Y H _ I h;rw[he]at hA ⊢;refine Calls.evalArgs_plain (thn hA λus s1 ⟨vs,H1,I1,r,hz,q1⟩=>⟨rfl,by rw[<- r.length];exact hz,I1.bk _ _ hC,hN.keeps I1.bk,T.keeps I1.bk,λh' ea m=>?_⟩);exact hx pins Y H1 s1 h' ea C us I1 m q1
noncomputable def CX1(P:Program)(w:World):CXT:=λouter H s E e s'=>∃(ea C:Addr)(B:Heap)(a0:Value)(H':Hp),e=.ref ea/\Heap.FlyingW B outer ea (.ref C) a0 s'.heap/\s'.os=s.os/\AllBare s'.gens/\Un (frs outer) [] H H' s.heap s'.heap/\HOk P w H' s'.heap /\
 (∀b o u,s'.heap.get? b=some o->H' b=some u->B.get? b=some o)/\(∀b o,s.heap.get? b=some o->H b=none->b ∉ frs outer->B.get? b=some o)/\(∀b o,s.heap.get? b=some o->b ∉ frs outer->∃o',B.get? b=some o')/\E (.ref C) none H'
section
variable {P:Program}{w:World}{K:Fg}{mg:Str->Option Value}{base:Heap}{N:List Str}{qual:Str}{scope:Scope}{f:Addr}{cd:Value}{A:Around}{outer:List Env}{s:Shared}{H:Hp}{E:XK}
theorem zy8:zvo (cxOf (CX1 P w) P w K mg base N qual scope f cd A outer s H E) E:=by
 intro pins Y H1 s1 h' ea C vs I m hE;show wpAny (model P w) (A.deeper (envOfC qual scope s.heap.objs.size f cd)) (leaving (envOfC qual scope s.heap.objs.size f cd) (.ref ea)) (λ_ s''=>CX1 P w outer H s E (.ref ea) s'') (λe' s''=>CX1 P w outer H s E e' s'') { s1 with heap:=h' };obtain⟨t,he,ht0,ht⟩:=m.there;have stk:s1.heap.FunFrames base (envOfC qual scope s.heap.objs.size f cd :: outer):=I.stack;have hin:∀env∈(envOfC qual scope s.heap.objs.size f cd :: outer),∀b,env.frame=some b->b∈frs (envOfC qual scope s.heap.objs.size f cd :: outer):=λenv he b hb=>yU.mpr ⟨env,he,hb⟩;have hen:(PySem.W.hideAll s1.heap (frs (envOfC qual scope s.heap.objs.size f cd :: outer))).get? ea=none:=by
  cases q:(PySem.W.hideAll s1.heap (frs (envOfC qual scope s.heap.objs.size f cd :: outer))).get? ea with
 |none=>rfl
 |some o=>have:=PySem.W.of_hideAll _ q;rw[m.new]at this;cases this
 refine wpAny_leaving_firstW (a0:=.ref t) (show(A.deeper (envOfC qual scope s.heap.objs.size f cd)).frames=some (envOfC qual scope s.heap.objs.size f cd :: outer)from I.ok.frames) ((PySem.W.funFrames_hide stk hin).of_keeps λb o hb _=>⟨o,m.keeps b o hb,rfl⟩) (L:=s.heap.objs.size) rfl he
  (λb o hb=>m.keeps b o (PySem.W.of_hideAll _ hb)) hen rfl rfl rfl λh'' hL=>?_
 obtain⟨k1,⟨_,_,k2⟩,k3,k4⟩:=hL;have u:Un (frs outer) [] H H1 s.heap s1.heap:=I.base;have nL:∀b o,s.heap.get? b=some o->b ∉ frs outer->b ∉ frs (envOfC qual scope s.heap.objs.size f cd :: outer):=λb o e hb z=>by
  have z':b=s.heap.objs.size \/ b∈frs outer:=by
   have:frs (envOfC qual scope s.heap.objs.size f cd :: outer)=s.heap.objs.size :: frs outer:=rfl;rw[this]at z;exact v6.mp z
  rcases z' with z'|z'
  ·exact absurd (u9 e) (by rw[z'];exact xA _)
  ·exact hb z'
 have inB:∀b o,s1.heap.get? b=some o->b ∉ frs (envOfC qual scope s.heap.objs.size f cd :: outer)->(PySem.W.hideAll s1.heap (frs (envOfC qual scope s.heap.objs.size f cd :: outer))).get? b=some o:=λb o e n=>PySem.W.hideAll_get _ e n;have trk:∀b u,H1 b=some u->b ∉ frs (envOfC qual scope s.heap.objs.size f cd :: outer):=λb u e z=>by
  have:=I.stkFree b z;rw[e]at this;cases this
 have slotOf:∀b,b∈frs (envOfC qual scope s.heap.objs.size f cd :: outer)->∀o,s1.heap.get? b=some o->∃sl,h''.get? b=some { o with slots:=sl }:=λb hb o e=>by
  obtain⟨_,o',e',hd⟩:=stk.mem hb;rw[e]at e';cases e';exact k4 b o (m.keeps b o e) hd
 refine⟨ea,C,_,.ref t,H1,rfl,⟨k1,hen,k2,k3⟩,I.os,I.bare,⟨λb o e n hb hx=>?_,λb o e n hb hx=>?_,u.free,λb o e hx=>?_,u.tups,u.frzs,u.tbls⟩,λb o e=>?_,λb o v e1 e2=>?_,λb o e n hb=>?_,λb o e hb=>?_,hE⟩
 ·exact k1 b o (inB b o (u.keep b o e n hb hx) (nL b o e hb))
 ·obtain⟨sl,q⟩:=u.slot b o e n hb hx;obtain⟨sl',q'⟩:=slotOf b (v8 _ hb) _ q;exact⟨sl',q'⟩
 ·obtain⟨o',q⟩:=u.there b o e hx;by_cases hb:b∈frs (envOfC qual scope s.heap.objs.size f cd :: outer)
  ·obtain⟨sl,q'⟩:=slotOf b hb o' q;exact⟨_,q'⟩
  ·exact⟨o',k1 b o' (inB b o' q hb)⟩
 ·refine(I.hok b o e).stay (λc v hc q=>k1 c v (inB c v q ?_)) (λ_ q=>q) λ_ _ q=>q;rcases hc with z|z
  ·rw[z];exact trk b o e
  ·exact trk c _ z
 ·obtain⟨o1,q1⟩:=zzc (I.hok b v e2);have q2:=inB b o1 q1 (trk b v e2);have q3:=k1 b o1 q2;rw[e1]at q3;cases q3;exact q2
 ·exact inB b o (u.keep b o e n hb (by simp)) (nL b o e hb)
 ·obtain⟨o',q⟩:=u.there b o e (by simp);exact⟨o',inB b o' q (nL b o e hb)⟩
theorem zbr:zzh (CX1 P w) (cxOf (CX1 P w) P w K mg base N qual scope f cd A outer s H E) E:=by
 intro pins Y H1 s1 e s2 I h;obtain⟨ea,C,B,a0,H2,rfl,hfl,hos,hbare,u2,hok,hB,hB2,hB3,hE⟩:=h;show wpAny (model P w) (A.deeper (envOfC qual scope s.heap.objs.size f cd)) (leaving (envOfC qual scope s.heap.objs.size f cd) (.ref ea)) (λ_ s''=>CX1 P w outer H s E (.ref ea) s'') (λe' s''=>CX1 P w outer H s E e' s'') s2;have hfl':Heap.FlyingW B (envOfC qual scope s.heap.objs.size f cd :: outer) ea (.ref C) a0 s2.heap:=hfl;refine wpAny_leaves_onW (show(A.deeper (envOfC qual scope s.heap.objs.size f cd)).frames=some (envOfC qual scope s.heap.objs.size f cd :: outer)from I.ok.frames) (L:=s.heap.objs.size) rfl hfl' λh'' x1 x2=>?_;have u1:Un (frs outer) [] H H1 s.heap s1.heap:=I.base;have u2':Un (frs (envOfC qual scope s.heap.objs.size f cd :: outer)) [] H1 H2 s1.heap s2.heap:=u2;have nL:∀b o,s.heap.get? b=some o->b ∉ frs outer->b ∉ frs (envOfC qual scope s.heap.objs.size f cd :: outer):=λb o e hb z=>by
  have z':b=s.heap.objs.size \/ b∈frs outer:=v6.mp (show b∈s.heap.objs.size :: frs outer from z);rcases z' with z'|z'
  ·exact absurd (u9 e) (by rw[z'];exact xA _)
  ·exact hb z'
 have k1:=x1.1;have toB:∀b o,s.heap.get? b=some o->H b=none->b ∉ frs outer->B.get? b=some o:=λb o e n hb=>hB2 b o (u1.keep b o e n hb (by simp)) (u1.free b o e n (by simp)) (nL b o e hb);have toB3:∀b o,s.heap.get? b=some o->b ∉ frs outer->∃o',B.get? b=some o':=λb o e hb=>by
  obtain⟨o1,q1⟩:=u1.there b o e (by simp);exact hB3 b o1 q1 (nL b o e hb)
 refine⟨ea,C,B,a0,H2,rfl,x1,hos.trans I.os,hbare,⟨λb o e n hb hx=>k1 b o (toB b o e n hb),λb o e n hb hx=>?_,λb o e n hx=>?_,λb o e hx=>?_,λb xs q=>u2'.tups b xs (u1.tups b xs q),λb o v q=>u2'.frzs b o v (u1.frzs b o v q),λb ps q=>?_⟩,λb o e=>?_,λb o v e1 e2=>?_,toB,toB3,hE⟩
 ·obtain⟨sl,q⟩:=u1.slot b o e n hb (by simp);obtain⟨sl',q'⟩:=u2'.slot b _ q (u1.free b o e n (by simp)) (v8 _ hb) (by simp);have st:=I.stack.mem (b:=b) (v8 _ hb);obtain⟨_,o',e',hd⟩:=st;rw[q]at e';cases e';obtain⟨sl2,q2⟩:=x2 b _ q' hd;exact⟨sl2,q2⟩
 ·obtain⟨o',q⟩:=u1.there b o e (by simp);exact u2'.free b o' q (u1.free b o e n (by simp)) (by simp)
 ·by_cases hb:b∈frs outer
  ·obtain⟨o1,q1⟩:=u1.there b o e (by simp);have nb:H1 b=none:=I.stkFree b (v8 _ hb);obtain⟨sl',q'⟩:=u2'.slot b _ q1 nb (v8 _ hb) (by simp);have st:=I.stack.mem (b:=b) (v8 _ hb);obtain⟨_,o',e',hd⟩:=st;rw[q1]at e';cases e';obtain⟨sl2,q2⟩:=x2 b _ q' hd;exact⟨_,q2⟩
  ·obtain⟨o',q⟩:=toB3 b o e hb;exact⟨o',k1 b o' q⟩
 ·obtain⟨m1,q1⟩:=u1.tbls b ps q;obtain⟨m2,q2⟩:=u2'.tbls b _ q1;exact⟨m1++m2,by rw[q2,zN]⟩
 ·refine(hok b o e).stay (λc v hc q=>k1 c v ?_) (λ_ q=>q) λ_ _ q=>q;rcases hc with z|z
  ·exact hB c v o (by rw[z]at q ⊢;exact q) (by rw[z];exact e)
  ·exact hB c v _ q z
 ·obtain⟨o1,q1⟩:=zzc (hok b v e2);have q2:=hB b o1 v q1 e2;have q3:=k1 b o1 q2;rw[e1]at q3;cases q3;exact q2
end
structure Come(X:Cx)(H:Hp)(s:Shared)(ea C:Addr)(B:Heap)(a0:Value)(H':Hp)(s':Shared):Prop where
 os:s'.os=s.os
 bare:AllBare s'.gens
 un:Un (frs X.stack) [] H H' s.heap s'.heap
 hok:HOk X.prog X.w H' s'.heap
 b1:∀b o u,s'.heap.get? b=some o->H' b=some u->B.get? b=some o
 b2:∀b o,s.heap.get? b=some o->H b=none->b ∉ frs X.stack->B.get? b=some o
 b3:∀b o,s.heap.get? b=some o->b ∉ frs X.stack->∃o',B.get? b=some o'
section
variable {X:Cx}{pins:List (Addr×Obj)}{Y:St}{H H':Hp}{s s':Shared}{ea C:Addr}{B:Heap}{a0:Value}
theorem zmp(I:Inv X pins Y H s)(c:Come X H s ea C B a0 H' s'){h:Heap}{tk:Nat}(k1:B.StaysIn h)(x2:s'.heap.UpToSlots h):Inv X pins Y H' { s' with heap:=h,toks:=tk }:=by
 refine I.call' (s':={ s' with heap:=h,toks:=tk }) (ch:=[]) c.os ⟨λb o e n hb hx=>k1 b o (c.b2 b o e n hb),λb o e n hb hx=>?_,c.un.free,λb o e hx=>?_,c.un.tups,c.un.frzs,c.un.tbls⟩ (λb o e=>?_) c.bare λb z=>absurd z (by simp)
 ·obtain⟨sl,q⟩:=c.un.slot b o e n hb hx;obtain⟨_,o',e',hd⟩:=I.stack.mem (b:=b) hb;rw[e]at e';cases e';obtain⟨sl2,q2⟩:=x2 b _ q hd;exact⟨sl2,q2⟩
 ·by_cases hb:b∈frs X.stack
  ·have nb:H b=none:=I.stkFree b hb;obtain⟨sl,q⟩:=c.un.slot b o e nb hb hx;obtain⟨_,o',e',hd⟩:=I.stack.mem (b:=b) hb;rw[e]at e';cases e';obtain⟨sl2,q2⟩:=x2 b _ q hd;exact⟨_,q2⟩
  ·obtain⟨o',q⟩:=c.b3 b o e hb;exact⟨o',k1 b o' q⟩
 ·refine(c.hok b o e).stay (λd v hc q=>k1 d v ?_) (λ_ q=>q) λ_ _ q=>q;rcases hc with z|z
  ·exact c.b1 d v o q (by rw[z];exact e)
  ·exact c.b1 d v _ q z
noncomputable def zd81(X:Cx)(ea:Addr):Cx:={ X with A:=X.A.mark (some (.ref ea)),calm:=false,xe:=λ_ _=>False }
theorem zer(I:Inv X pins Y H s)(ea:Addr):Inv (zd81 X ea) pins Y H s :=
 ⟨⟨I.ok.mod,I.ok.kind,I.ok.glob,I.ok.blt,I.ok.above,I.ok.inj,I.ok.has,I.ok.cab,λz=>Bool.noConfusion z,I.ok.frames,I.ok.stk,I.ok.exf,I.ok.bs,I.ok.bsz,I.ok.noex,I.ok.exfs,I.ok.funs,I.ok.frf⟩,I.os,I.bare,I.base,I.loc,I.cell,I.free,I.freeC,I.pin,I.hok,I.len⟩
noncomputable def zqc(CX:CXT)(X:Cx)(E:XK)(Y:St):Prop:=∀(pins:List (Addr×Obj))(H:Hp)(s:Shared)(e:Value)(s':Shared),Inv X pins Y H s->CX X.stack H s E e s'->X.xe e s'
noncomputable def tryX(X:Cx)(D:Ends)(hs:List ExceptHandler):Value->Shared->Prop:=λe s₁=>wpAny (model X.prog X.w) X.A (noteFrame e X.env) (λ_ s₂=>wpAny (model X.prog X.w) X.A (setFlight e none) (λ_ s₃=>wpAny (model X.prog X.w) X.A (handleBy e X.env hs) (SP X [] D) X.xe s₃) X.xe s₂) X.xe s₁
end
noncomputable def zbo(X:Cx)(pn:List (Addr×Obj))(xe:Value->Shared->Prop):Cx:={ X with pn:=pn,xe:=xe }
section
variable {X:Cx}{pins:List (Addr×Obj)}{Y:St}{H:Hp}{s:Shared}
theorem zq71(ok:X.Ok)(pn:List (Addr×Obj))(xe:Value->Shared->Prop):(zbo X pn xe).Ok:=⟨ok.mod,ok.kind,ok.glob,ok.blt,ok.above,ok.inj,ok.has,ok.cab,ok.hd,ok.frames,ok.stk,ok.exf,ok.bs,ok.bsz,ok.noex,ok.exfs,ok.funs,ok.frf⟩
theorem zk01(I:Inv X pins Y H s)(xe:Value->Shared->Prop):Inv (zbo X (X.pn++pins) xe) [] Y H s :=
 ⟨zq71 I.ok _ _,I.os,I.bare,I.base,I.loc,I.cell,I.free,I.freeC,λp hp=>I.pin p (by have hp':p∈(X.pn++pins)++[]:=hp;rw[wQ]at hp';exact hp'),I.hok,I.len⟩
theorem zlo{pn:List (Addr×Obj)}{xe':Value->Shared->Prop}{ps:List (Addr×Obj)}(I:Inv (zbo X pn xe) ps Y H s):Inv (zbo X pn xe') [] Y H s :=
 ⟨⟨I.ok.mod,I.ok.kind,I.ok.glob,I.ok.blt,I.ok.above,I.ok.inj,I.ok.has,I.ok.cab,I.ok.hd,I.ok.frames,I.ok.stk,I.ok.exf,I.ok.bs,I.ok.bsz,I.ok.noex,I.ok.exfs,I.ok.funs,I.ok.frf⟩,I.os,I.bare,I.base,I.loc,I.cell,I.free,I.freeC,λp hp=>I.pin p (xN _ (by have hp':p∈pn++[]:=hp;rw[wQ]at hp';exact hp')),I.hok,I.len⟩
theorem zv9(ok:X.Ok)(I:Inv (zbo X (X.pn++pins) xe) [] Y H s):Inv X pins Y H s :=
 ⟨ok,I.os,I.bare,I.base,I.loc,I.cell,I.free,I.freeC,λp hp=>I.pin p (xN _ hp),I.hok,I.len⟩
theorem zx8(ok:X.Ok){D:Ends}{f:Flow}(h:SP (zbo X (X.pn++pins) xe) [] D f s):SP X pins D f s:=by
 cases f with
|next=>obtain⟨Y',H',I,q⟩:=h;exact⟨Y',H',zv9 ok I,q⟩
|brk=>obtain⟨Y',H',I,q⟩:=h;exact⟨Y',H',zv9 ok I,q⟩
|cont=>obtain⟨Y',H',I,q⟩:=h;exact⟨Y',H',zv9 ok I,q⟩
|ret u=>obtain⟨v,Y',H',I,r,q⟩:=h;exact⟨v,Y',H',zv9 ok I,r,q⟩
noncomputable def tTry(tb:Ends->TS):TS:=λD Y H=>tb D D Y H
end
noncomputable def Def1(P:Program)(w:World)(K:Fg)(mg:Str->Option Value)(base:Heap)(x:Str)(k:Nat)(ps:List Str)(sp:Sp):Prop :=
 ∃f fd,FnOk P w K mg base (CX1 P w) k f fd ps sp/\Binds K fd ps []/\PySem.W.keepIn K (.ref f)=true/\mg x=some (.ref f)
noncomputable def zju(P:Program)(w:World)(K:Fg)(mg:Str->Option Value)(base:Heap)(C:Addr)(m:Str)(k:Nat)(ps:List Str)(sp:Sp):Prop :=
 ∃f fd,Cls K C/\Meth K C m f/\FnOk P w K mg base (CX1 P w) k f fd ps sp/\Binds K fd ps []
section
variable {X:Cx}{k:Nat}{f C:Addr}{fd:FuncData}{ps:List Str}{sp:Sp}{x m:Str}{p pos apos:Pos}{e o:Expr}{es:List Expr}{ta:TE}{t:TA}{EY:St->XK}
theorem zn01{H:Hp}{Q:VK}{us:List Value}{vs:List V}(F:FnOk X.prog X.w X.K X.mg X.base (CX1 X.prog X.w) k f fd ps sp)(hr:Room k X.A)(hb:Binds X.K fd ps [])(hx:zqc (CX1 X.prog X.w) X (EY Y) Y)
  (I:Inv X pins Y H s) (r:Vals vs us) (h:sp vs H Q (EY Y)):wpAny (model X.prog X.w) X.A (call (.ref f) us) (EP X pins Y Q) X.xe s:=by
 have hl:us.length=ps.length:=by rw[<- r.length];exact F.len _ _ _ _ h
 have bt:=hb s us I.kIn (by rw[wQ];exact hl);rw[wQ]at bt;refine wpAny_call (codeAny_mono (F.run X.A X.stack s H ⟨us,[]⟩ us vs Q (EY Y) hr I.env0 bt r h) λres s2 hq=>?_);cases res with
|error z=>exact hx pins H s z s2 I hq
|ok fl =>
  cases fl with
 |ret u=>exact I.after hq
 |next=>exact False.elim hq
 |brk=>exact False.elim hq
 |cont=>exact False.elim hq
noncomputable def zf61(sp:Sp)(EY:St->XK)(t:TA):TE:=λY H Q=>t Y H λvs H1=>sp vs H1 Q (EY Y)
theorem zrz(d:Def1 X.prog X.w X.K X.mg X.base x k ps sp)(hr:Room k X.A)(hg:Gl X x)(hx:∀Y,zqc (CX1 X.prog X.w) X (EY Y) Y)(ha:PA X (e :: es) t)(hdb:(x == ("__debug__":Str))=false:=by decide)
  (he:starEach (e :: es) X.env=(false,eval e X.env) :: starEach es X.env:=by rfl) (hpl:(backTo pos (starEach es X.env)).any (·.1)=false:=by rfl):PE X (.Call (.Name x p) (e :: es) [] pos) (zf61 sp EY t):=by
 obtain⟨f,fd,F,b,kp,mm⟩:=d;intro pins s Y H Q I h;refine wpAny_Call_Name_kw (zng I hg mm ?_ hdb);refine PySem.W.callWith_K (h₀:=X.base) I.ok.mod.kin kp (thn (ha pos pins s Y H _ I h) λus s1 ⟨vs,H1,I1,r,q⟩=>⟨I1.kIn,?_⟩) he hpl;exact zn01 F hr b (hx Y) I1 r q
theorem zzd{P:Program}{scope:Scope}{cd:Value}{outer:List Env}{H:Hp}{E:XK}(Y:St) :
  zqc (CX1 P w) (cxOf (CX1 P w) P w K mg base N qual scope f cd A outer s H E) E Y:=λpins H1 s1 e s2 I c=>zbr pins Y H1 s1 e s2 I c
noncomputable def zbz(P:Program)(w:World)(K:Fg)(mg:Str->Option Value)(base:Heap)(m:Str)(k:Nat)(EY:St->XK)(ta:TE)(t:TA):TE:=λY H Q=>ta Y H λx H1=>∃a C dx fs ps sp,x=.ref a/\H1 a=some (.ins C dx fs)/\fs.lookup m=none /\
 zju P w K mg base C m k ps sp/\t Y H1 λvs H2=>sp (x :: vs) H2 Q (EY Y)
theorem zkr{P:Program}{pl:Sem Bool}(hP:X.prog=P)(hw:X.w=w)(hK:X.K=K)(hmg:X.mg=mg)(hbs:X.base=base)(hr:Room k X.A)(hx:∀Y,zqc (CX1 X.prog X.w) X (EY Y) Y)(he:PE X o ta)(ha:PA X (e :: es) t)
  (hst:starEach (e :: es) X.env=(false,eval e X.env) :: starEach es X.env:=by rfl) (hpl:(backTo pos (starEach es X.env)).any (·.1)=false:=by rfl)
  (ht:eval (.Call (.Attribute o m apos) (e :: es) [] pos) X.env=(do
   let ov <- eval o X.env
   standAt apos.atName
   let (f,first) <- holding [ov] (getMethod ov m pl)
   callWith pos f first (backTo pos (starEach (e :: es) X.env)) (backToKw pos (keywordEach [] X.env))):=by rfl) :
  PE X (.Call (.Attribute o m apos) (e :: es) [] pos) (zbz P w K mg base m k EY ta t):=by
 subst hP hw hK hmg hbs;intro pins s Y H Q I h;refine PySem.W.methodCall_KW (pl:=pl) (thn (he pins s Y H _ I h) λu s1 hz=>?_) ht;obtain⟨x,H1,I1,rx,a,C,dx,fs,ps,sp,ex,ea,l,d,q⟩:=hz;subst ex;obtain rfl:u=u7 a:=rx;obtain⟨f,fd,c,hm,F,b⟩:=d;refine zd7 I1 ea c hm l ?_;refine PySem.W.callWith_K (first:=[.ref a]) (h₀:=X.base) I.ok.mod.kin hm.kp (thn (ha pos pins s1 Y H1 _ I1 q) λus s2 ⟨vs,H2,I2,r,q2⟩=>⟨I2.kIn,?_⟩) hst hpl;exact zn01 (us:=.ref a :: us) (vs:=.ref a :: vs) F hr b (hx Y) I2 (.cons rfl r) q2
end
section
variable {P:Program}{w:World}{K:Fg}{mg:Str->Option Value}{base:Heap}
noncomputable abbrev znd(P:Program)(w:World)(K:Fg)(mg:Str->Option Value)(base:Heap)(qual:Str)(st:Stmt)(N:List Str)(k:Nat)(sp:Sp):Prop :=
 ∀(f:Addr)(cdv:Value)(A:Around)(outer:List Env)(s:Shared)(H:Hp)(vs:List V)(Q:VK)(E:XK),Room k (A.deeper (envOfC qual (zh0 st) s.heap.objs.size f cdv))->sp vs H Q E ->
   ∃t,PSs (cxOf (CX1 P w) P w K mg base N qual (zh0 st) f cdv A outer s H E) (zu3 st) t/\t { nx:=λ_ H'=>Q .non H',rt:=Q } (start N vs) H
theorem znw{fd:FuncData}{k:Nat}(F:Fun K x qual st f fd)(S:FnScope N ps (zh0 st))(len:∀vs H Q E,sp vs H Q E->vs.length=ps.length)
  (body:znd P w K mg base qual st N k sp):FnOk P w K mg base (CX1 P w) (k+1) f fd ps sp:=by
 obtain⟨oc,od,kV,doc,pm,an,cdv,ct,osl,rfl,lk,hcd⟩:=F.ex;exact zwe1 lk hcd S len λA outer s H vs Q E hr hsp=>body f cdv A outer s H vs Q E hr hsp
theorem zu71{k:Nat}(M:Md K mg)(T:TopDef K x st)(S:FnScope N ps (zh0 st))(hb:zla x x st ps)(len:∀vs H Q E,sp vs H Q E->vs.length=ps.length)
  (body:znd P w K mg base x st N k sp):Def1 P w K mg base x (k+1) ps sp:=by
 obtain⟨f,fd,a,F⟩:=T.ex;exact⟨f,fd,znw F S len body,F.binds hb,F.kp,M.got a⟩
theorem zql{m:Str}{k:Nat}(c:Cls K C)(T:TopMeth K C m qual st)(S:FnScope N ps (zh0 st))(hb:zla m qual st ps)(len:∀vs H Q E,sp vs H Q E->vs.length=ps.length)
  (body:znd P w K mg base qual st N k sp):zju P w K mg base C m (k+1) ps sp:=by
 obtain⟨f,fd,a,i,F⟩:=T.ex;exact⟨f,fd,c,⟨a,i,F.kp⟩,znw F S len body,F.binds hb⟩
end
section
variable {X:Cx}
noncomputable def repS(x:Str)(n:Nat):Str:=⟨(v9 n x.cps).foldl (·++·) #[]⟩
theorem zd11(c:List (Array Nat)):∀a:Array Nat,c.foldl (·++·) a=a++(c.map zO).flatten.toArray:=by
 induction c with
|nil=>intro a;simp
|cons y r ih=>intro a;rw[List.foldl_cons,ih,zN];congr 1;apply zW.mp;simp
theorem ztj(x:Str)(n:Nat):(repS x n).cps.toList=(v9 n x.cps.toList).flatten:=by
 unfold repS;rw[zd11];simp
noncomputable def zae1:R2:=λx y H Q=>∃z n,x=.str z/\y=.int n/\0<=n/\z.length * n.toNat<=sizeLine/\n<=sizeLine/\Q (.str (repS z n.toNat)) H
theorem zj41:OpR X (binaryOp .Mult) zae1:=by
 intro pins s Y H x y v u Q I rx ry h;obtain⟨z,n,rfl,rfl,h1,h2,h3,q⟩:=h;obtain⟨t,rfl⟩:=rx;obtain⟨t',rfl⟩:=ry;have hl:sizeLine=16777216:=sizeLine_eq;have hz:z.length=z.cps.size:=rfl;by_cases n0:n=0
 ·subst n0;refine P.mul_str (by rw[decide_eq_false (by lia),decide_eq_false (by lia)];rfl) (λa b hc=>?_) (λa b=>?_) ?_
  ·exact absurd a (by decide)
  ·exact decide_eq_false (by simp)
  ·rw[if_pos (by decide)];exact⟨by decide,.str (repS z 0),H,I.tok _,⟨_,rfl⟩,q⟩
 have h1:0 < n:=by lia
 refine P.mul_str (by rw[decide_eq_false (by lia),decide_eq_false (by lia)];rfl) (λ_ _ hc=>?_) (λ_ _=>?_) ?_
 ·have h4:(2 ^ 63 - 1:Int) / n ≥ z.length:=by
   refine(Int.le_ediv_iff_mul_le h1).mpr ?_;have h5:((z.length * n.toNat:Nat):Int)=(z.length:Int) * n:=by rw[Int.natCast_mul,Int.toNat_of_nonneg (by lia)]
   have h6:((z.length * n.toNat:Nat):Int)<=(sizeLine:Nat):=by exact_mod_cast h2
   lia
  lia
 ·exact decide_eq_false (by lia)
 ·rw[if_neg (by lia)];by_cases hc:(n == 1 || z.length == 0)=true
  ·rw[if_pos hc];refine⟨.str (repS z n.toNat),H,I,⟨t,?_⟩,q⟩;have:repS z n.toNat=z:=by
    have e:(repS z n.toNat).cps.toList=z.cps.toList:=by
     rw[ztj];rcases(Bool.or_eq_true _ _).mp hc with hc|hc
     ·have:n=1:=by simpa using hc
      subst this;simp
     ·have:z.cps.toList=[]:=by
       have:z.cps.size=0:=by simpa[hz]using hc
       simpa using this
      rw[this];simp
    cases z with|mk c =>
     show repS ⟨c⟩ n.toNat=⟨c⟩
     have e2:(repS ⟨c⟩ n.toNat).cps=c:=zW.mp e;cases hq:repS ⟨c⟩ n.toNat with|mk d=>rw[hq]at e2;cases e2;rfl
   rw[this]
  ·rw[if_neg hc];exact⟨fits_reps (decide_eq_false (by lia)),.str (repS z n.toNat),H,I.tok _,⟨_,rfl⟩,q⟩
noncomputable def rSlS:V->Option Int->Option Int->Hp->VK->Prop:=λx lo hi H Q=>∃z,x=.str z/\z.length<=sizeLine/\Q (.str (Txt.slice z lo hi)) H
theorem zs61:SlR X rSlS:=by
 intro pins s Y H x v vl vu lo hi sl Q I rx hs pl pu h;obtain⟨z,rfl,hz,q⟩:=h;obtain⟨t,rfl⟩:=rx;obtain⟨o,ho,hc,hd⟩:=hs;have go:∀(l u:Option (Int×Tok)),partValue l=vl->partValue u=vu->l.map (·.1)=lo->u.map (·.1)=hi->wpAny (model X.prog X.w) X.A (getItem (.str z t) (.ref sl)) (EP X pins Y Q) X.xe s:=λl u e1 e2 e3 e4=>by
  subst e3 e4;refine wpAny_getItem_str_slice (l:=l) (u:=u) (st:=none) ⟨o,ho,hc,by rw[e1,e2];exact hd⟩ rfl (post_val_or_str ⟨wP (Txt.slice_le z _ _) hz,λt' k=>?_⟩);exact⟨.str (Txt.slice z (l.map (·.1)) (u.map (·.1))),H,I.tok _,⟨_,rfl⟩,q⟩
 refine⟨"str",_,F.slot_str_getitem.lookup,typeIs_str _ _ _,?_⟩;cases pl with
|none=>cases pu with
 |none=>exact go none none rfl rfl rfl rfl
 |int j u=>exact go none (some (j,u)) rfl rfl rfl rfl
|int i t=>cases pu with
 |none=>exact go (some (i,t)) none rfl rfl rfl rfl
 |int j u=>exact go (some (i,t)) (some (j,u)) rfl rfl rfl rfl
end
section
variable {prog:Program}{w:World}{A:Around}{E:Value->Shared->Prop}{s:Shared}
theorem zjd{t:Addr}{items}{x:Value}{Q:Value->Shared->Prop}(hit:s.heap.IsTupleIter it t i)
  (ht:s.heap.IsTuple t items) (hx:items[i]?=some x) (hQ:∀h',h'.IsTupleIter it t (i+1)->Heap.SameBut it s.heap h'->Q x { s with heap:=h' }) :
  wpAny (model prog w) A (Builtin.SmallTypes.nextOf (.ref it)) Q E s:=by
 obtain⟨o,ho,hc,hd⟩:=id hit;obtain⟨ol,hol,_,nl,hdl⟩:=ht;unfold Builtin.SmallTypes.nextOf;refine wpAny_bind (wpAny_callSpecial?_slot (name:=wY "__next__") hit.typeIs F.slot_tuple_iterator_next
  (wpAny_call_entry F.slot_tuple_iterator_next hit.typeIs F.entry_tuple_iterator_next ?_ (F.args_tuple_iterator_next_1 _)))
 show wpAny _ _ (field (.ref it) 0 >>= _) _ _ s;refine wpAny_bind (wpAny_field ho hd (x:=.ref t) rfl ?_);show wpAny _ _ (if(u7 t == xG)=true then _ else _) _ _ s;rw[if_neg (show ¬((u7 t == xG)=true)from wF)];show wpAny _ _ (field (.ref it) 1 >>= _) _ _ s;refine wpAny_bind (wpAny_field ho hd (x:=.int i 0) rfl ?_);show wpAny _ _ (seqItems? (.ref t) >>= _) _ _ s;refine wpAny_bind (wpAny_seqItems hol hdl ?_);simp only[wH,hx];refine wpAny_bind (wpAny_setField ho hd (by simp) (wpAny_pure ⟨x,rfl,wpAny_pure (hQ _ ?_ (Heap.SameBut.update ..))⟩));exact⟨_,zS _ ho (Obj.isFreed_of_fields (Obj.data_mapFields hd _)),(Obj.cls_mapFields ..).trans hc,by
  rw[Obj.data_mapFields hd];simp[rawInt]⟩
theorem zke{t:Addr}{items}{Q:Value->Shared->Prop}(hh:A.handled=none)
  (hit:s.heap.IsTupleIter it t i) (ht:s.heap.IsTuple t items) (hx:items[i]?=none)
  (hE:∀h' e,Heap.ExtBut it s.heap h'->(∃o,h'.get? e=some o/\o.cls=.type "StopIteration")->E (.ref e) { s with heap:=h' }) :
  wpAny (model prog w) A (Builtin.SmallTypes.nextOf (.ref it)) Q E s:=by
 obtain⟨o,ho,hc,hd⟩:=id hit;obtain⟨ol,hol,_,nl,hdl⟩:=ht;unfold Builtin.SmallTypes.nextOf;refine wpAny_bind (wpAny_callSpecial?_slot (name:=wY "__next__") hit.typeIs F.slot_tuple_iterator_next
  (wpAny_call_entry F.slot_tuple_iterator_next hit.typeIs F.entry_tuple_iterator_next ?_ (F.args_tuple_iterator_next_1 _)))
 show wpAny _ _ (field (.ref it) 0 >>= _) _ _ s;refine wpAny_bind (wpAny_field ho hd (x:=.ref t) rfl ?_);show wpAny _ _ (if(u7 t == xG)=true then _ else _) _ _ s;rw[if_neg (show ¬((u7 t == xG)=true)from wF)];show wpAny _ _ (field (.ref it) 1 >>= _) _ _ s;refine wpAny_bind (wpAny_field ho hd (x:=.int i 0) rfl ?_);show wpAny _ _ (seqItems? (.ref t) >>= _) _ _ s;refine wpAny_bind (wpAny_seqItems hol hdl ?_);simp only[wH,hx];refine wpAny_bind (wpAny_rule (wpAny_bind (wpAny_setField ho hd (by simp) ?_)));show wpAny _ _ (newExc (.type "StopIteration") [] >>= _) _ _ _;refine wpAny_bind ?_;simp only[newExc,newTuple];refine wpAny_bind (wpAny_newObj_type ?_ (by size_fits));refine wpAny_bind (m:=firstArgMember _ _) (wpAny_of_eq (a:=xG) (by first|rfl|(simp only[firstArgMember];rfl)) ?_);refine wpAny_newObj_type ?_ (by size_fits);simp only[raiseNew];refine wpAny_bind (wpAny_handled ?_)
 first|rw[show A.in1.handled=none from hh]|rw[hh]
 refine wpAny_bind (wpAny_pure (wpAny_throw ?_));exact hE _ _ (((Heap.SameBut.update ..).extBut.push _).push _) ⟨_,wI _ rfl,rfl⟩
end
structure Nx(P:Program)(w:World)(K:Fg)(J:It)(it:Addr)(st:Nat->Heap->Prop):Prop where
 obj:∀i h,st i h->∃o,h.get? it=some o/\∀v,o.data≠.cell v
 keep:∀i h h',st i h->(∀o,h.get? it=some o->h'.get? it=some o)->st i h'
 item:∀(X:Cx),X.prog=P->X.w=w->X.K=K->∀(A:Around)(i:Nat)(pins:List (Addr×Obj))(s:Shared)(Y:St)(H:Hp)(Q:Value->Shared->Prop)(E:Value->Shared->Prop),Inv X pins Y H s->st i s.heap->J.go i H ->
  (∀u x h' tk,RelV x u->J.yld i H x H->st (i+1) h'->Heap.SameBut it s.heap h'->Q u { s with heap:=h',toks:=tk })->wpAny (model P w) A (Builtin.SmallTypes.nextOf (.ref it)) Q E s
 done:∀(X:Cx),X.prog=P->X.w=w->X.K=K->∀(A:Around)(i:Nat)(pins:List (Addr×Obj))(s:Shared)(Y:St)(H:Hp)(Q:Value->Shared->Prop)(E:Value->Shared->Prop),A.handled=none->Inv X pins Y H s->st i s.heap->J.stop i H ->
  (∀h' e,Heap.ExtBut it s.heap h'->(∃o,h'.get? e=some o/\o.cls=.type "StopIteration")->E (.ref e) { s with heap:=h' })->wpAny (model P w) A (Builtin.SmallTypes.nextOf (.ref it)) Q E s
theorem zr41{P:Program}(a it:Addr):Nx P w K (Itl K a) it (λi h=>h.IsListIter it a i) where
 obj:=λi h st=>by
  obtain⟨o,e,c,d⟩:=st;exact⟨o,e,λv z=>by rw[d]at z;cases z⟩
 keep:=λi h h' st k=>st.at k
 item:=by
  intro X hP hw hK A i pins s Y H Q E I st hg hQ;subst hP hw hK;obtain⟨xs,x,hq,hx⟩:=hg;obtain⟨its,rv,p,hz⟩:=I.list hq;obtain⟨u,hu,ru⟩:=rv.get hx;exact wpAny_nextOf_list_item st p.isList (x:=u) (by simpa using hu) λh' st' sb=>hQ u x h' s.toks ru ⟨rfl,λys hy=>by rw[I.list_inj hy hq];exact hx⟩ st' sb
 done:=by
  intro X hP hw hK A i pins s Y H Q E hh I st hg hE;subst hP hw hK;obtain⟨xs,hq,hx⟩:=hg;obtain⟨its,rv,p,hz⟩:=I.list hq;have hl:=rv.length;exact wpAny_nextOf_list_end hh st p.isList (by simp;lia) hE
theorem zcb1{P:Program}(a it:Addr):Nx P w K (Itt K a) it (λi h=>h.IsTupleIter it a i) where
 obj:=λi h st=>by
  obtain⟨o,e,c,d⟩:=st;exact⟨o,e,λv z=>by rw[d]at z;cases z⟩
 keep:=λi h h' st k=>st.at k
 item:=by
  intro X hP hw hK A i pins s Y H Q E I st hg hQ;subst hP hw hK;obtain⟨xs,x,hq,hx⟩:=hg;obtain⟨its,rv,p,hz⟩:=I.tuple hq;obtain⟨u,hu,ru⟩:=rv.get hx;exact zjd st (show s.heap.IsTuple a its.toArray from p) (x:=u) (by simpa using hu) λh' st' sb=>hQ u x h' s.toks ru ⟨rfl,λys hy=>by rw[I.tuple_inj hy hq];exact hx⟩ st' sb
 done:=by
  intro X hP hw hK A i pins s Y H Q E hh I st hg hE;subst hP hw hK;obtain⟨xs,hq,hx⟩:=hg;obtain⟨its,rv,p,hz⟩:=I.tuple hq;have hl:=rv.length;exact zke hh st (show s.heap.IsTuple a its.toArray from p) (by simp;lia) hE
theorem zw4{H:Hp}{tk:Nat}(I:Inv X pins Y H s)(f:FpOk X pins H b)(k:Heap.SameBut b s.heap h'):Inv X pins Y H { s with heap:=h',toks:=tk } :=
 let ⟨f0,f1,_,f3,f4,f5⟩:=f
 I.turned (λc o hc e=>(k.2 c hc).trans e) f0 f1 f3 f4 f5
theorem zqu{H:Hp}{tk:Nat}(I:Inv X pins Y H s)(f:FpOk X pins H b)(k:Heap.ExtBut b s.heap h'):Inv X pins Y H { s with heap:=h',toks:=tk } :=
 let ⟨f0,f1,_,f3,f4,f5⟩:=f
 I.turned (λc o hc e=>k c o hc e) f0 f1 f3 f4 f5
structure ZAp(z TI TO i1 i2:Addr):Prop where
 TIz:TI≠z
 TOz:TO≠z
 i1z:i1≠z
 i2z:i2≠z
 TITO:TI≠TO
 TIi1:TI≠i1
 TIi2:TI≠i2
 TOi1:TO≠i1
 TOi2:TO≠i2
 i12:i1≠i2
structure ZSt(z TI TO i1 i2:Addr)(f0:Value)(st1 st2:Nat->Heap->Prop)(i:Nat)(h:Heap):Prop where
 z:IsZip h z TI TO f0
 TI:IsPair h TI (.ref i1) (.ref i2)
 TO:∃a b,IsPair h TO a b
 s1:st1 i h
 s2:st2 i h
section
variable {X:Cx}{pins:List (Addr×Obj)}{Y:St}{H:Hp}{s:Shared}{J1 J2:It}{z TI TO i1 i2:Addr}{st1 st2:Nat->Heap->Prop}{i:Nat}
theorem zt01{Q:Value->Shared->Prop}(N1:Nx X.prog X.w X.K J1 i1 st1)(N2:Nx X.prog X.w X.K J2 i2 st2)(D:ZAp z TI TO i1 i2)(I:Inv X pins Y H s)
  (fz:FpOk X pins H z) (fTO:FpOk X pins H TO) (f1:FpOk X pins H i1) (f2:FpOk X pins H i2) (S:ZSt z TI TO i1 i2 .none st1 st2 i s.heap) (g1:J1.go i H) (g2:J2.go i H)
  (hQ:∀p x1 x2 s',H p=none->p≠z->p≠TI->p≠TO->p≠i1->p≠i2->J1.yld i H x1 H->J2.yld i H x2 H->Inv X pins Y (upd H p (.tup [x1,x2])) s'->ZSt z TI TO i1 i2 (rawInt p) st1 st2 (i+1) s'.heap->Q (.ref p) s') :
  wpAny (model X.prog X.w) A (Builtin.«zip.__next__» ⟨[.ref z],[]⟩) (λfin s'=>∃v,fin=.done (.ret v)/\Q v s') E s:=by
 obtain⟨hz,hTI,⟨a,b,hTO⟩,h1,h2⟩:=S;show wpAny _ _ (field (.ref z) 2 >>= _) _ _ _;refine wpAny_bind (wpAny_field hz rfl (x:=.bool false) rfl ?_);show wpAny _ _ (field (.ref z) 3 >>= _) _ _ _;refine wpAny_bind (wpAny_field hz rfl (x:=.ref TI) rfl ?_);refine wpAny_bind (wpAny_seqItems hTI rfl ?_);show wpAny _ _ (Builtin.SmallTypes.ownedTupleIsFree (.ref z) >>= _) _ _ _;refine wpAny_bind ?_;unfold Builtin.SmallTypes.ownedTupleIsFree;refine wpAny_bind (wpAny_field hz rfl (x:=.none) rfl (wpAny_pure ?_));simp only[if_true];refine wpAny_bind (wpAny_rule ?_);refine wpAny_bind (wpAny_field hz rfl (x:=.ref TO) rfl ?_);refine wpAny_bind (wpAny_setField_rec hz (by simp) λh₁ hz₁ hs₁=>?_)
 replace hz₁:IsZip h₁ z TI TO .ellipsis:=hz₁
 have I1:Inv X pins Y H { s with heap:=h₁ }:=zw4 (tk:=s.toks) I fz hs₁;refine wpAny_bind ?_;simp only[List.zipIdx_cons,List.zipIdx_nil,zT,zV];refine wpAny_bind (wpAny_bind (wpAny_onRaise ?_));show wpAny _ _ (Builtin.SmallTypes.nextOf (.ref i1) >>= _) _ _ _;have a1:st1 i h₁:=N1.keep _ _ _ h1 λo e=>hs₁.extBut _ _ D.i1z e;refine wpAny_bind (N1.item X rfl rfl rfl _ i pins _ Y H _ _ I1 a1 g1 λx x1 h₂ tk₂ r1 y1 b1 hs₂=>wpAny_pure ?_)
 replace hs₂:Heap.SameBut i1 h₁ h₂:=hs₂
 have I2:Inv X pins Y H { s with heap:=h₂,toks:=tk₂ }:=zw4 (s:={ s with heap:=h₁ }) (tk:=tk₂) I1 f1 hs₂;have hTO₂:IsPair h₂ TO a b:=hs₂.extBut _ _ D.TOi1 (hs₁.extBut _ _ D.TOz hTO);refine wpAny_bind (wpAny_seqItems hTO₂ rfl ?_);refine wpAny_bind (wpAny_updateSeq_pair (s:={ s with heap:=h₂,toks:=tk₂ }) hTO₂ λh₃ hTO₃ hs₃=>?_)
 replace hTO₃:IsPair h₃ TO x b:=hTO₃
 replace hs₃:Heap.SameBut TO h₂ h₃:=hs₃
 have I3:Inv X pins Y H { s with heap:=h₃,toks:=tk₂ }:=zw4 (s:={ s with heap:=h₂,toks:=tk₂ }) (tk:=tk₂) I2 fTO hs₃;refine wpAny_bind (wpAny_letGo (wpAny_pure ?_));refine wpAny_bind (wpAny_bind (wpAny_onRaise ?_));show wpAny _ _ (Builtin.SmallTypes.nextOf (.ref i2) >>= _) _ _ _;have a2:st2 i h₃:=N2.keep _ _ _ h2 λo e=>hs₃.extBut _ _ D.TOi2.symm (hs₂.extBut _ _ D.i12.symm (hs₁.extBut _ _ D.i2z e));refine wpAny_bind (N2.item X rfl rfl rfl _ i pins _ Y H _ _ I3 a2 g2 λy x2 h₄ tk₄ r2 y2 b2 hs₄=>wpAny_pure ?_)
 replace hs₄:Heap.SameBut i2 h₃ h₄:=hs₄
 have I4:Inv X pins Y H { s with heap:=h₄,toks:=tk₄ }:=zw4 (s:={ s with heap:=h₃,toks:=tk₂ }) (tk:=tk₄) I3 f2 hs₄;have hTO₄:IsPair h₄ TO x b:=hs₄.extBut _ _ D.TOi2 hTO₃;refine wpAny_bind (wpAny_seqItems hTO₄ rfl ?_);refine wpAny_bind (wpAny_updateSeq_pair (s:={ s with heap:=h₄,toks:=tk₄ }) hTO₄ λh₅ hTO₅ hs₅=>?_)
 replace hTO₅:IsPair h₅ TO x y:=hTO₅
 replace hs₅:Heap.SameBut TO h₄ h₅:=hs₅
 have I5:Inv X pins Y H { s with heap:=h₅,toks:=tk₄ }:=zw4 (s:={ s with heap:=h₄,toks:=tk₄ }) (tk:=tk₄) I4 fTO hs₅;refine wpAny_bind (wpAny_letGo (wpAny_pure (wpAny_pure ?_)));refine wpAny_bind (wpAny_seqItems hTO₅ rfl ?_);refine wpAny_bind (wpAny_newTuple ?_);have hz₅:IsZip h₅ z TI TO .ellipsis:=hs₅.extBut _ _ D.TOz.symm (hs₄.extBut _ _ D.i2z.symm (hs₃.extBut _ _ D.TOz.symm (hs₂.extBut _ _ D.i1z.symm hz₁)));have hTI₅:IsPair h₅ TI (.ref i1) (.ref i2):=hs₅.extBut _ _ D.TITO (hs₄.extBut _ _ D.TIi2 (hs₃.extBut _ _ D.TITO (hs₂.extBut _ _ D.TIi1 (hs₁.extBut _ _ D.TIz hTI))));have c1:st1 (i+1) h₅:=N1.keep _ _ _ b1 λo e=>hs₅.extBut _ _ D.TOi1.symm (hs₄.extBut _ _ D.i12 (hs₃.extBut _ _ D.TOi1.symm e));have c2:st2 (i+1) h₅:=N2.keep _ _ _ b2 λo e=>hs₅.extBut _ _ D.TOi2.symm e;have hp:H h₅.objs.size=none:=I5.hok.fresh (u3 _);have I6:Inv X pins Y (upd H h₅.objs.size (.tup [x1,x2])) { s with heap:=h₅.push { cls:=.type "tuple",data:=.seq #[x,y] },toks:=tk₄ }:=by
  refine I5.laid (t':=tk₄) (o:=.tup [x1,x2]) (λb ob q=>u5 _ q) (u3 _) ?_;exact⟨by show 2<=sizeLine;rw[sizeLine_eq];decide,[x,y],.cons r1 (.cons r2 .nil),_,wI _ rfl,rfl,0,rfl⟩
 have lt:∀{c:Addr}{o:Obj},h₅.get? c=some o->h₅.objs.size≠c:=λe=>y6 (u9 e);obtain⟨o1,e1,_⟩:=N1.obj _ _ c1;obtain⟨o2,e2,_⟩:=N2.obj _ _ c2;have fz':FpOk X pins (upd H h₅.objs.size (.tup [x1,x2])) z:=⟨by rw[zm0 (lt hz₅).symm];exact fz.1,fz.2⟩
 show wpAny _ _ (Builtin.SmallTypes.ownedTupleHandOut (.ref z) (.ref h₅.objs.size) >>= _) _ _ _;refine wpAny_bind ?_;unfold Builtin.SmallTypes.ownedTupleHandOut;have hz₆:IsZip (h₅.push { cls:=.type "tuple",data:=.seq #[x,y] }) z TI TO .ellipsis:=u5 _ hz₅;refine wpAny_bind (wpAny_setField_rec hz₆ (by simp) λh₇ hz₇ hs₇=>?_)
 replace hz₇:IsZip h₇ z TI TO (rawInt h₅.objs.size):=hz₇
 have I7:Inv X pins Y (upd H h₅.objs.size (.tup [x1,x2])) { s with heap:=h₇,toks:=tk₄ }:=zw4 (s:={ s with heap:=h₅.push { cls:=.type "tuple",data:=.seq #[x,y] },toks:=tk₄ }) (tk:=tk₄) I6 fz' hs₇;refine wpAny_setField_rec hz₇ (by simp) λh₈ hz₈ hs₈=>?_
 replace hz₈:IsZip h₈ z TI TO (rawInt h₅.objs.size):=hz₈
 have I8:Inv X pins Y (upd H h₅.objs.size (.tup [x1,x2])) { s with heap:=h₈,toks:=tk₄ }:=zw4 (s:={ s with heap:=h₇,toks:=tk₄ }) (tk:=tk₄) I7 fz' hs₈;have up:∀c o,c≠z->h₅.get? c=some o->h₈.get? c=some o:=λc o c1 e=>hs₈.extBut _ _ c1 (hs₇.extBut _ _ c1 (u5 _ e));refine wpAny_pure ⟨_,rfl,?_⟩;exact hQ h₅.objs.size x1 x2 _ hp (lt hz₅) (lt hTI₅) (lt hTO₅) (lt e1) (lt e2) y1 y2 I8 ⟨hz₈,up _ _ D.TIz hTI₅,⟨_,_,up _ _ D.TOz hTO₅⟩,N1.keep _ _ _ c1 λo e=>up _ o D.i1z e,N2.keep _ _ _ c2 λo e=>up _ o D.i2z e⟩
theorem zb41{E:Value->Shared->Prop}{Q:Fin->Shared->Prop}(hh:A.handled=none)(N1:Nx X.prog X.w X.K J1 i1 st1)(N2:Nx X.prog X.w X.K J2 i2 st2)(D:ZAp z TI TO i1 i2)(I:Inv X pins Y H s)
  (fz:FpOk X pins H z) (fTO:FpOk X pins H TO) (f1:FpOk X pins H i1) (f2:FpOk X pins H i2) (S:ZSt z TI TO i1 i2 .none st1 st2 i s.heap) (g:J1.stop i H \/ (J1.go i H/\J2.stop i H))
  (hE:∀h' e tk,Inv X pins Y H { s with heap:=h',toks:=tk }->(∃o,h'.get? e=some o/\o.cls=.type "StopIteration")->E (.ref e) { s with heap:=h',toks:=tk }) :
  wpAny (model X.prog X.w) A (Builtin.«zip.__next__» ⟨[.ref z],[]⟩) Q E s:=by
 obtain⟨hz,hTI,⟨a,b,hTO⟩,h1,h2⟩:=S;show wpAny _ _ (field (.ref z) 2 >>= _) _ _ _;refine wpAny_bind (wpAny_field hz rfl (x:=.bool false) rfl ?_);show wpAny _ _ (field (.ref z) 3 >>= _) _ _ _;refine wpAny_bind (wpAny_field hz rfl (x:=.ref TI) rfl ?_);refine wpAny_bind (wpAny_seqItems hTI rfl ?_);show wpAny _ _ (Builtin.SmallTypes.ownedTupleIsFree (.ref z) >>= _) _ _ _;refine wpAny_bind ?_;unfold Builtin.SmallTypes.ownedTupleIsFree;refine wpAny_bind (wpAny_field hz rfl (x:=.none) rfl (wpAny_pure ?_));simp only[if_true];refine wpAny_bind (wpAny_rule ?_);refine wpAny_bind (wpAny_field hz rfl (x:=.ref TO) rfl ?_);refine wpAny_bind (wpAny_setField_rec hz (by simp) λh₁ hz₁ hs₁=>?_)
 replace hz₁:IsZip h₁ z TI TO .ellipsis:=hz₁
 have I1:Inv X pins Y H { s with heap:=h₁ }:=zw4 (tk:=s.toks) I fz hs₁;refine wpAny_bind ?_;simp only[List.zipIdx_cons,List.zipIdx_nil,zT,zV];refine wpAny_bind (wpAny_bind (wpAny_onRaise ?_));show wpAny _ _ (Builtin.SmallTypes.nextOf (.ref i1) >>= _) _ _ _;have a1:st1 i h₁:=N1.keep _ _ _ h1 λo e=>hs₁.extBut _ _ D.i1z e;rcases g with g|⟨g1,g2⟩
 ·refine wpAny_bind (N1.done X rfl rfl rfl _ i pins _ Y H _ _ hh I1 a1 g λh₂ e hs₂ he=>?_)
  replace hs₂:Heap.ExtBut i1 h₁ h₂:=hs₂
  have I2:Inv X pins Y H { s with heap:=h₂ }:=zqu (s:={ s with heap:=h₁ }) (tk:=s.toks) I1 f1 hs₂;obtain⟨oe,hoe,hce⟩:=he;have hz₂:IsZip h₂ z TI TO .ellipsis:=hs₂ _ _ D.i1z.symm hz₁;have hez:e≠z:=λx=>by subst x;rw[hz₂]at hoe;cases hoe;simp at hce
  exact wpAny_setField_rec hz₂ (by simp) λh₃ _ hs₃=>hE h₃ e s.toks (zw4 (s:={ s with heap:=h₂ }) (tk:=s.toks) I2 fz hs₃) ⟨oe,hs₃.extBut _ _ hez hoe,hce⟩
 ·refine wpAny_bind (N1.item X rfl rfl rfl _ i pins _ Y H _ _ I1 a1 g1 λx x1 h₂ tk₂ r1 y1 b1 hs₂=>wpAny_pure ?_)
  replace hs₂:Heap.SameBut i1 h₁ h₂:=hs₂
  have I2:Inv X pins Y H { s with heap:=h₂,toks:=tk₂ }:=zw4 (s:={ s with heap:=h₁ }) (tk:=tk₂) I1 f1 hs₂;have hTO₂:IsPair h₂ TO a b:=hs₂.extBut _ _ D.TOi1 (hs₁.extBut _ _ D.TOz hTO);refine wpAny_bind (wpAny_seqItems hTO₂ rfl ?_);refine wpAny_bind (wpAny_updateSeq_pair (s:={ s with heap:=h₂,toks:=tk₂ }) hTO₂ λh₃ hTO₃ hs₃=>?_)
  replace hs₃:Heap.SameBut TO h₂ h₃:=hs₃
  have I3:Inv X pins Y H { s with heap:=h₃,toks:=tk₂ }:=zw4 (s:={ s with heap:=h₂,toks:=tk₂ }) (tk:=tk₂) I2 fTO hs₃;refine wpAny_bind (wpAny_letGo (wpAny_pure ?_));refine wpAny_bind (wpAny_bind (wpAny_onRaise ?_));show wpAny _ _ (Builtin.SmallTypes.nextOf (.ref i2) >>= _) _ _ _;have a2:st2 i h₃:=N2.keep _ _ _ h2 λo e=>hs₃.extBut _ _ D.TOi2.symm (hs₂.extBut _ _ D.i12.symm (hs₁.extBut _ _ D.i2z e));refine wpAny_bind (N2.done X rfl rfl rfl _ i pins _ Y H _ _ hh I3 a2 g2 λh₄ e hs₄ he=>?_)
  replace hs₄:Heap.ExtBut i2 h₃ h₄:=hs₄
  have I4:Inv X pins Y H { s with heap:=h₄,toks:=tk₂ }:=zqu (s:={ s with heap:=h₃,toks:=tk₂ }) (tk:=tk₂) I3 f2 hs₄;obtain⟨oe,hoe,hce⟩:=he;have hz₄:IsZip h₄ z TI TO .ellipsis:=hs₄ _ _ D.i2z.symm (hs₃.extBut _ _ D.TOz.symm (hs₂.extBut _ _ D.i1z.symm hz₁));have hez:e≠z:=λx=>by subst x;rw[hz₄]at hoe;cases hoe;simp at hce
  exact wpAny_setField_rec hz₄ (by simp) λh₅ _ hs₅=>hE h₅ e tk₂ (zw4 (s:={ s with heap:=h₄,toks:=tk₂ }) (tk:=tk₂) I4 fz hs₅) ⟨oe,hs₅.extBut _ _ hez hoe,hce⟩
end
noncomputable def Itz(J1 J2:It):It:=⟨λi H=>J1.go i H/\J2.go i H,λi H x H'=>∃x1 x2 p,J1.yld i H x1 H/\J2.yld i H x2 H/\H p=none/\x=.ref p/\H'=upd H p (.tup [x1,x2]),λi H=>J1.stop i H \/ (J1.go i H/\J2.stop i H)⟩
theorem zry{P:Program}{elts:List Expr}{c:_}{J1 J2:It}{z TI TO i1 i2:Addr}{st1 st2:Nat->Heap->Prop}(N1:Nx P w K J1 i1 st1)(N2:Nx P w K J2 i2 st2)(D:ZAp z TI TO i1 i2) :
  Turn P w K (.Tuple elts c pos) (Itz J1 J2) [z,TI,TO,i1,i2] z (ZSt z TI TO i1 i2 .none st1 st2) where
 mem:=by simp
 obj:=λi h S b hb=>by
  obtain⟨hz,hTI,⟨a,b',hTO⟩,h1,h2⟩:=S;simp at hb;rcases hb with rfl|rfl|rfl|rfl|rfl
  ·exact⟨_,hz,λv q=>by cases q⟩
  ·exact⟨_,hTI,λv q=>by cases q⟩
  ·exact⟨_,hTO,λv q=>by cases q⟩
  ·exact N1.obj _ _ h1
  ·exact N2.obj _ _ h2
 keep:=λi h h' S k=>by
  obtain⟨hz,hTI,⟨a,b',hTO⟩,h1,h2⟩:=S;exact⟨k _ (by simp) _ hz,k _ (by simp) _ hTI,⟨a,b',k _ (by simp) _ hTO⟩,N1.keep _ _ _ h1 λo e=>k _ (by simp) _ e,N2.keep _ _ _ h2 λo e=>k _ (by simp) _ e⟩
 item:=by
  intro X hP hw hK hc i pins s Y H E I hf S hg;subst hP hw hK;have hT:s.TypeIs (.ref z) "zip":=⟨_,S.z,rfl⟩
  unfold pyNext;refine wpAny_bind (wpAny_attempt (wpAny_callSpecial?_slot (name:=wY "__next__") hT F.slot_zip_next
   (wpAny_call_entry F.slot_zip_next hT F.entry_zip_next
    (zt01 N1 N2 D I (hf _ (by simp)) (hf _ (by simp)) (hf _ (by simp)) (hf _ (by simp)) S hg.1 hg.2 λp x1 x2 s' hp n1 n2 n3 n4 n5 y1 y2 I' S'=>wpAny_pure ?_) (F.args_zip_next_1 _))))
  refine⟨.ref p,rfl,wpAny_letOwnedTupleGo_zip S'.z λh' hz' hs'=>?_⟩;have nn:∀b∈[z,TI,TO,i1,i2],b≠p:=λb hb=>by
   simp at hb;rcases hb with rfl|rfl|rfl|rfl|rfl
   ·exact n1.symm
   ·exact n2.symm
   ·exact n3.symm
   ·exact n4.symm
   ·exact n5.symm
  have fz:FpOk X pins (upd H p (.tup [x1,x2])) z:=⟨by rw[zm0 n1.symm];exact(hf z (by simp)).1,(hf z (by simp)).2⟩
  obtain⟨_,hTI,⟨a,b',hTO⟩,h1,h2⟩:=S';refine⟨.ref p,_,zw4 (tk:=s'.toks) I' fz hs',rfl,⟨x1,x2,p,y1,y2,hp,rfl,rfl⟩,⟨hz',hs'.extBut _ _ D.TIz hTI,⟨a,b',hs'.extBut _ _ D.TOz hTO⟩,N1.keep _ _ _ h1 λo e=>hs'.extBut _ _ D.i1z e,N2.keep _ _ _ h2 λo e=>hs'.extBut _ _ D.i2z e⟩,λb hb=>?_⟩;rw[zm0 (nn b hb)];exact(hf b hb).1
 done:=by
  intro X hP hw hK hc i pins s Y H E I hf S hg;subst hP hw hK;have hT:s.TypeIs (.ref z) "zip":=⟨_,S.z,rfl⟩
  unfold pyNext;refine wpAny_bind (wpAny_attempt (wpAny_callSpecial?_slot (name:=wY "__next__") hT F.slot_zip_next
   (wpAny_call_entry F.slot_zip_next hT F.entry_zip_next (zb41 (I.ok.hd hc) N1 N2 D I (hf _ (by simp)) (hf _ (by simp)) (hf _ (by simp)) (hf _ (by simp)) S hg λh' e tk I' he=>?_) (F.args_zip_next_1 _))))
  obtain⟨o,ho,hc⟩:=he;refine wpAny_bind (wpAny_isInstance (T := "StopIteration") (b:=true) ⟨o,ho,hc⟩ isSubtype_stop ?_);exact wpAny_pure ⟨rfl,I'⟩
 self:=λ_ _ _ _ _ S h=>wpAny_pyIter_zip S.z h
noncomputable def zl41(h:Heap)(v:Value)(ob:Obj):Prop:=∀(prog:Program)(w:World)(A:Around)(s:Shared)(Q E:Value->Shared->Prop),(∀c o,h.get? c=some o->s.heap.get? c=some o)->Q (.ref s.heap.objs.size) { s with heap:=s.heap.push ob }->wpAny (model prog w) A (pyIter v) Q E s
noncomputable def zipO(h:Heap)(o1 o2:Obj):Heap:=((((h.push o1).push o2).push { cls:=.type "tuple",data:=.seq #[.ref h.objs.size,.ref (h.push o1).objs.size] }).push { cls:=.type "tuple",data:=.seq #[.none,.none] }).push
 { cls:=.type "zip",data:=.fields #[.none,.bool false,.bool false,.ref ((h.push o1).push o2).objs.size,.ref (((h.push o1).push o2).push { cls:=.type "tuple",data:=.seq #[.ref h.objs.size,.ref (h.push o1).objs.size] }).objs.size] }
theorem zlu(v1 v2:Value)(o1 o2:Obj) :
  Meets (Builtin.«zip.__new__» ⟨[.type "zip",v1,v2],[]⟩) (λ_ R s=>zl41 s.heap v1 o1/\zl41 s.heap v2 o2 /\
   R (.ok (.ret (.ref ((((s.heap.push o1).push o2).push { cls:=.type "tuple",data:=.seq #[.ref s.heap.objs.size,.ref (s.heap.push o1).objs.size] }).push { cls:=.type "tuple",data:=.seq #[.none,.none] }).objs.size))) { s with heap:=zipO s.heap o1 o2 }) :=
 .of_wp λprog w A R s h=>by
  obtain⟨hp,g,d,tk,os⟩:=s;obtain⟨q1,q2,h⟩:=h;have hsub:=sub_zip;have p1:∀{A:Around}{Q E:Value->Shared->Prop},Q (.ref hp.objs.size) ⟨hp.push o1,g,d,tk,os⟩->wpAny (model prog w) A (pyIter v1) Q E ⟨hp,g,d,tk,os⟩:=λ{A Q E} z=>q1 prog w A ⟨hp,g,d,tk,os⟩ Q E (λ_ _ e=>e) z;have p2:∀{A:Around}{Q E:Value->Shared->Prop},Q (.ref (hp.push o1).objs.size) ⟨(hp.push o1).push o2,g,d,tk,os⟩->wpAny (model prog w) A (pyIter v2) Q E ⟨hp.push o1,g,d,tk,os⟩:=λ{A Q E} z=>q2 prog w A ⟨hp.push o1,g,d,tk,os⟩ Q E (λ_ _ e=>u5 _ e) z
  wp_walk using p1,p2
  exact⟨_,rfl,h⟩
theorem zu01{prog:Program}{w:World}{A:Around}{E:Value->Shared->Prop}{v1 v2:Value}{o1 o2:Obj}{Q:Value->Shared->Prop}(h1:zl41 s.heap v1 o1)(h2:zl41 s.heap v2 o2)
  (h:∀h',IsZip h' (s.heap.objs.size+4) (s.heap.objs.size+2) (s.heap.objs.size+3) .none->IsPair h' (s.heap.objs.size+2) (.ref s.heap.objs.size) (.ref (s.heap.objs.size+1)) ->
   IsPair h' (s.heap.objs.size+3) .none .none->h'.get? s.heap.objs.size=some o1->h'.get? (s.heap.objs.size+1)=some o2->(∀c o,s.heap.get? c=some o->h'.get? c=some o)->Q (.ref (s.heap.objs.size+4)) { s with heap:=h' })
  (f1:o1.isFreed=false) (f2:o2.isFreed=false):wpAny (model prog w) A (call (.type "zip") [v1,v2]) Q E s:=by
 refine callType_new F.called_zip (by decide) (F.typeCall_zip_2 _ _) (F.newCall_zip_2 _ _) (λobj=>F.args_object_init_3 obj _ _) F.entry_zip_new (zlu v1 v2 o1 o2) ⟨h1,h2,?_⟩;have z1:(s.heap.push o1).objs.size=s.heap.objs.size+1:=xP ..;have z2:((s.heap.push o1).push o2).objs.size=s.heap.objs.size+2:=by rw[xP,z1]
 have z3:(((s.heap.push o1).push o2).push { cls:=.type "tuple",data:=.seq #[.ref s.heap.objs.size,.ref (s.heap.push o1).objs.size] }).objs.size=s.heap.objs.size+3:=by rw[xP,z2]
 have z4:((((s.heap.push o1).push o2).push { cls:=.type "tuple",data:=.seq #[.ref s.heap.objs.size,.ref (s.heap.push o1).objs.size] }).push { cls:=.type "tuple",data:=.seq #[.none,.none] }).objs.size=s.heap.objs.size+4:=by rw[xP,z3]
 have g5:(zipO s.heap o1 o2).get? ((((s.heap.push o1).push o2).push { cls:=.type "tuple",data:=.seq #[.ref s.heap.objs.size,.ref (s.heap.push o1).objs.size] }).push { cls:=.type "tuple",data:=.seq #[.none,.none] }).objs.size=some _:=wI _ rfl;have g4:(zipO s.heap o1 o2).get? (((s.heap.push o1).push o2).push { cls:=.type "tuple",data:=.seq #[.ref s.heap.objs.size,.ref (s.heap.push o1).objs.size] }).objs.size=some _:=u5 _ (wI _ rfl);have g3:(zipO s.heap o1 o2).get? ((s.heap.push o1).push o2).objs.size=some _:=u5 _ (u5 _ (wI _ rfl));have g2:(zipO s.heap o1 o2).get? (s.heap.push o1).objs.size=some o2:=u5 _ (u5 _ (u5 _ (wI _ f2)));have g1:(zipO s.heap o1 o2).get? s.heap.objs.size=some o1:=u5 _ (u5 _ (u5 _ (u5 _ (wI _ f1))));show _/\_;rw[z2,z3,z4]at g5;rw[z1,z2]at g3;rw[z3]at g4;rw[z1]at g2;rw[z4];exact⟨⟨_,g5,rfl⟩,h _ g5 g3 g4 g1 g2 λc o x=>u5 _ (u5 _ (u5 _ (u5 _ (u5 _ x))))⟩
noncomputable def kSrc(K:Fg)(x:V)(H:Hp)(R:It->Prop):Prop:=(∃a,x=.ref a/\(∃xs,SqL K H a xs)/\R (Itl K a)) \/ (∃a,x=.ref a/\(∃xs,SqT K H a xs)/\R (Itt K a))
theorem zxs{H:Hp}{x:V}{v:Value}{R:It->Prop}(I:Inv X pins Y H s)(r:RelV x v)(h:kSrc X.K x H R) :
  ∃(J:It)(ob:Obj)(st:Addr->Nat->Heap->Prop),R J/\zl41 s.heap v ob/\ob.isFreed=false/\(∀it,Nx X.prog X.w X.K J it (st it))/\∀it h,h.get? it=some ob->st it 0 h:=by
 rcases h with⟨a,rfl,⟨xs,hq⟩,hR⟩|⟨a,rfl,⟨xs,hq⟩,hR⟩
 ·cases r;obtain⟨its,rv,p,hz⟩:=I.list hq;refine⟨_,{ cls:=.type "list_iterator",data:=.fields #[.ref a,.int 0 0] },λit i h=>h.IsListIter it a i,hR,λprog w A s1 Q E k q=>?_,rfl,λit=>zr41 a it,λit h e=>⟨_,e,rfl,rfl⟩⟩;exact wpAny_pyIter_list (p.isList.at λo e=>k a o e) q
 ·cases r;obtain⟨its,rv,p,hz⟩:=I.tuple hq;refine⟨_,{ cls:=.type "tuple_iterator",data:=.fields #[.ref a,.int 0 0] },λit i h=>h.IsTupleIter it a i,hR,λprog w A s1 Q E k q=>?_,rfl,λit=>zcb1 a it,λit h e=>⟨_,e,rfl,rfl⟩⟩;obtain⟨o,e,t⟩:=p;exact wpAny_pyIter_tuple (show s1.heap.IsTuple a its.toArray from⟨o,k a o e,t⟩) q
theorem zap(n:Nat):ZAp (n+4) (n+2) (n+3) n (n+1):=by
 constructor <;> (refine λ(h:(_:Nat)=_)=>?_;lia)
theorem five(n:Nat)(b:Nat)(h:b=n+4 \/ b=n+2 \/ b=n+3 \/ b=n \/ b=n+1):n<=b:=by lia
theorem zm91:bootBuiltins "zip"=some (.type "zip"):=by decide +kernel
section
variable {X:Cx}{elts:List Expr}
noncomputable def zog1(K:Fg)(vs:List V)(H:Hp)(R:It->Hp->Prop):Prop:=∃x1 x2,vs=[x1,x2]/\kSrc K x1 H λJ1=>kSrc K x2 H λJ2=>R (Itz J1 J2) H
noncomputable def iZip(K:Fg)(ta:TA):TI:=λY H R=>ta Y H λvs H1=>zog1 K vs H1 R
theorem zw61(hK:X.K=K){c:_}{tpos:Pos}{a b:Expr}{ta:TA}{p pos:Pos}(hg:Gl X "zip")(hm:X.mg "zip"=none)(ha:PA X [a,b] ta)(hs:starEach [a,b] X.env=[(false,eval a X.env),(false,eval b X.env)]:=by rfl)(hs2:starEach [b] X.env=[(false,eval b X.env)]:=by rfl) :
  PI X (.Tuple elts c tpos) (.Call (.Name "zip" p) [a,b] [] pos) (iZip K ta):=by
 subst hK;intro pins s Y H R I h;refine Call_ (zuk I hg hm zm91 (PyProof.Rows.callWith_type1 (thn (ha pos pins s Y H _ I h) λus s1 hz=>?_) (by rw[hs,hs2]) (by rw[hs2];rfl)));obtain⟨vs,H1,I1,r1,q1⟩:=hz;obtain⟨x1,x2,e,q1⟩:=q1;subst e;obtain⟨u1,u2,rfl,r1,r2⟩:=zl61 r1;obtain⟨J1,o1,st1,q2,op1,fr1,n1,z1⟩:=zxs I1 r1 q1;obtain⟨J2,o2,st2,q,op2,fr2,n2,z2⟩:=zxs I1 r2 q2;refine zu01 op1 op2 (λh' hz hTI hTO g1 g2 kk=>wpAny_pyIter_zip hz ?_) fr1 fr2;have I2:Inv X pins Y H1 { s1 with heap:=h' }:=I1.kept (t':=s1.toks) kk;refine⟨s1.heap.objs.size+4,[s1.heap.objs.size+4,s1.heap.objs.size+2,s1.heap.objs.size+3,s1.heap.objs.size,s1.heap.objs.size+1],_,_,H1,rfl,I2,
  zry (n1 s1.heap.objs.size) (n2 (s1.heap.objs.size+1)) (zap _),⟨hz,hTI,⟨_,_,hTO⟩,z1 _ _ g1,z2 _ _ g2⟩,λb hb=>?_,q⟩
 have hb':s1.heap.objs.size<=b:=by
  simp at hb;exact five _ _ hb
 exact I1.fpOk hb' (I1.hok.fresh hb')
end
noncomputable def entM(w:World)(e:Str×Tok×Value):DictEntry:=⟨PyData.keyHash w.params e.1,.str e.1 e.2.1,e.2.2⟩
structure KD(w:World)(K:Fg)(d:Addr)(kvs:List (Str×V)):Prop where
 ne:(d == sysModules)=false
 ex:∃(l:List (Str×Tok×Value))(n:Nat),K.lookup d=some { cls:=.type "dict",data:=.dict (l.map (entM w)).toArray n }/\Paired (λ(p:Str×V)(q:Str×Tok×Value)=>p.1=q.1/\RelV p.2 q.2.2) kvs l
theorem zz31{w:World}{k:Str}:∀{kvs:List (Str×V)}{l:List (Str×Tok×Value)},Paired (λ(p:Str×V)(q:Str×Tok×Value)=>p.1=q.1/\RelV p.2 q.2.2) kvs l ->
  RelO (kvs.lookup k) (((l.map (entM w)).find? λe=>xS k e.key).map (·.val))
|_,_,.nil=>trivial
|_,_,.cons (a:=p) (b:=q) h r=>by
  obtain⟨x,v⟩:=p;obtain⟨y,t,u⟩:=q;obtain⟨e,rv⟩:=h;cases e;have ih:=zz31 (w:=w) (k:=k) r;show RelO (w6 k ((x,v) :: _)) (((entM w (x,t,u) :: _).find? λe=>xS k e.key).map (·.val));rw[wO,yE];by_cases hk:k=x
  ·subst hk;have h1:(k == k)=true:=beq_self_eq_true k;have h2:xS k (entM w (k,t,u)).key=true:=by simp[entM,xS]
   rw[h1,h2];exact rv
  ·have h1:(k == x)=false:=beq_eq_false_iff_ne.mpr hk;have h2:xS k (entM w (x,t,u)).key=false:=by
    show(x == k)=false;exact beq_eq_false_iff_ne.mpr λe=>hk e.symm
   rw[h1,h2];exact ih
section
variable {X:Cx}{pins:List (Addr×Obj)}{Y:St}{H:Hp}{s:Shared}{d:Addr}{kvs:List (Str×V)}
theorem KD.map(D:KD X.w X.K d kvs)(I:Inv X pins Y H s):∃f:Str->Option Value,s.heap.MapOf (PySem.strKind X.prog X.w) d f/\∀k,RelO (kvs.lookup k) (f k):=by
 obtain⟨l,n,e,r⟩:=D.ex;refine⟨λk=>((l.map (entM X.w)).find? λe=>xS k e.key).map (·.val),⟨_,(l.map (entM X.w)).toArray,n,I.kIn d _ e,⟨rfl,rfl,rfl⟩,rfl,λe he=>?_,λk=>?_⟩,λk=>zz31 r⟩
 ·obtain⟨q,_,rfl⟩:=wU.mp (by simpa using he:e∈l.map (entM X.w));exact⟨q.1,by simp[entM,PySem.strKind,xS],rfl⟩
 ·show findBy (PySem.strKind X.prog X.w).is _ k=_;unfold findBy;rw[List.find?_toArray];rfl
noncomputable def rIxM(w:World)(K:Fg):R2:=λx y H Q=>∃d kvs z v,x=.ref d/\y=.str z/\KD w K d kvs/\kvs.lookup z=some v/\Q v H
theorem ix_M(hw:X.w=w)(hK:X.K=K):IxR X (rIxM w K):=by
 subst hw hK;intro value slice pins s Y H x y v u Q I rx ry h hs;obtain⟨d,kvs,z,r0,rfl,rfl,D,e,q⟩:=h;cases rx;obtain⟨t,rfl⟩:=ry;obtain⟨f,m,r⟩:=D.map I;have rz:=r z;rw[e]at rz;obtain⟨u,eu,ru⟩:=rz.some_of;exact tail_any m.typeIs ğh.lookup (wpAny_getItem_of (k:=z) (PySem.strKind_is X.prog X.w z t) m eu ⟨r0,H,I.tok _,ru,q⟩) hs
end
noncomputable def Walks(J:It)(H:Hp)(n:Nat)(Yv:Nat->V->Hp->Prop):Prop:=∀H',Same H H'->(∀i,i < n->J.go i H')/\J.stop n H'/\∀i x H2,i < n->J.yld i H' x H2->Same H' H2/\Yv i x H2
noncomputable def zne1:R2:=λx y H Q=>zge1 x y H Q \/ zae1 x y H Q
noncomputable def rIxW(w:World)(K:Fg):R2:=λx y H Q=>rIx K x y H Q \/ rIxM w K x y H Q
noncomputable def rSlW(K:Fg):V->Option Int->Option Int->Hp->VK->Prop:=λx lo hi H Q=>rSlU K x lo hi H Q \/ rSlS x lo hi H Q
noncomputable def zl91(K:Fg)(x:V)(H:Hp)(R:It->Hp->Prop):Prop:=zgg1 K x H R \/ ∃z:Str,x=.str z/\z.cps.all (· < 128)=true/\R (Its z) H
noncomputable def iW(K:Fg)(tl:TE):TI:=λY H R=>tl Y H λx H1=>zl91 K x H1 R
section
variable {X:Cx}{w:World}{K:Fg}{tg:Expr}
theorem zq51:OpR X (binaryOp .Mult) zne1:=zc41.or zj41
theorem ix_W(hw:X.w=w)(hK:X.K=K):IxR X (rIxW w K):=(ix_U hK).or (ix_M hw hK)
theorem sl_W(hK:X.K=K):SlR X (rSlW K):=(sl_U hK).or zs61
theorem pi_W(h:X.K=K){l:Expr}{tl:TE}(hl:PE X l tl):PI X tg l (iW K tl):=by
 subst h;intro pins s Y H R I h;refine thn (hl pins s Y H _ I h) λv s1 hz=>?_;obtain⟨x,H1,I1,r1,q1⟩:=hz;rcases q1 with(⟨a,e,⟨xs,hq⟩,q⟩|⟨a,e,⟨xs,hq⟩,q⟩)|⟨z,rfl,ha,q⟩
 ·subst e;cases r1;obtain⟨its,rv,p,hz⟩:=I1.list hq;refine wpAny_pyIter_list p.isList ?_;refine⟨s1.heap.objs.size,[s1.heap.objs.size],_,_,H1,rfl,I1.kept (t':=s1.toks) λb o e=>u5 _ e,zvt a _,⟨_,wI _ rfl,rfl,rfl⟩,λb hb=>?_,q⟩;have e:b=s1.heap.objs.size:=by simpa using hb
  subst e;exact I1.fpOk (u3 _) (I1.hok.fresh (u3 _))
 ·subst e;cases r1;obtain⟨its,rv,p,hz⟩:=I1.tuple hq;refine wpAny_pyIter_tuple (show s1.heap.IsTuple a its.toArray from p) ?_;refine⟨s1.heap.objs.size,[s1.heap.objs.size],_,_,H1,rfl,I1.kept (t':=s1.toks) λb o e=>u5 _ e,zep a _,⟨_,wI _ rfl,rfl,rfl⟩,λb hb=>?_,q⟩;have e:b=s1.heap.objs.size:=by simpa using hb
  subst e;exact I1.fpOk (u3 _) (I1.hok.fresh (u3 _))
 ·obtain⟨t,rfl⟩:=r1;refine wpAny_pyIter_ascii ha ?_;refine⟨s1.heap.objs.size,[s1.heap.objs.size],_,_,H1,rfl,I1.kept (t':=s1.toks) λb o e=>u5 _ e,zpz z t _,⟨_,wI _ rfl,rfl,rfl⟩,λb hb=>?_,q⟩;have e:b=s1.heap.objs.size:=by simpa using hb
  subst e;exact I1.fpOk (u3 _) (I1.hok.fresh (u3 _))
noncomputable def zsf1:TS:=λ_ _ _=>False
theorem zv61:PS X st zsf1:=λ_ _ _ _ _ _ h=>False.elim h
noncomputable def zie1(K:Fg):List V->Hp->VK->Prop:=λxs H Q=>∃p ys,xs=[.ref p]/\(SqL K H p ys \/ SqT K H p ys)/\∀l,H l=none->Q (.ref l) (upd H l (.lst ys))
theorem zg2(h:X.K=K):CallR X (.type "list") (zie1 K):=h ▸ zmk
end
section
variable {K:Fg}{w:World}{H:Hp}{Q:VK}{a b:Addr}{xs ys:List V}{i:Int}{v:V}{z:Str}{kvs:List (Str×V)}{d:Addr}
theorem zjg1(h:SqT K H a xs)(e:atI xs i=some v)(q:Q v H):rIxW w K (.ref a) (.int i) H Q:=.inl (zfg1 h e q)
end
theorem sIx_nat{d a:Nat}(h:a<=n):HT.sIx n d (some (a:Int))=a:=by
 unfold HT.sIx;simp;rw[if_neg (by lia)];lia
theorem sIx_none{d:Nat}:HT.sIx n d none=d:=rfl
theorem zb61{b:Nat}(hb:b<=xs.length):cutV xs none (some (b:Int))=xs.take b:=by
 unfold cutV;rw[sIx_none,sIx_nat hb];simp
theorem zte{pos:Pos}(hK:X.K=K){k:Nat}{t:TGs}(hc:X.calm=true)(h:PGs X es t)
  (hn:(assignEach es X.env).length=n:=by rfl) (hst:(assignEach es X.env).findIdx? (·.1)=none:=by rfl):PG X (.Tuple es k pos) (gTup K n t):=by
 subst hK;exact zha1 hc h hn hst
noncomputable def kBM(K:Fg)(T:String)(r:V->List V->Hp->VK->Prop)(t:TA)(Y:St)(x:V)(H:Hp)(Q:VK):Prop:=tyV K T x H/\t Y H λxs H2=>r x xs H2 Q
noncomputable def tBMU(K:Fg)(T:String)(r:V->List V->Hp->VK->Prop)(to:TE)(t:TA):TE:=λY H Q=>to Y H λx H1=>kBM K T r t Y x H1 Q
theorem zde(hK:X.K=K){o e:Expr}{to:TE}{t:TA}{name:Str}{apos cpos:Pos}{T id:String}{r:V->List V->Hp->VK->Prop}(pa:PlainAttrs T)(slot:Slot T name id)(hty:typeOf (.builtin id)=pure (.type "method_descriptor"))(hm:MtR X id r)(ho:PE X o to)(ha:PA X (e :: es) t)
  (hbase:attributeBase o name X.env (eval o X.env)=eval o X.env:=by rfl)
  (hfew:((backTo cpos (starEach (e :: es) X.env)).all (λx=>!x.1) && (backToKw cpos (keywordEach [] X.env)).all (λx=>x.1.isSome)
   && decide ((e :: es).length+([]:List Keyword).length+(if([]:List Keyword).isEmpty then 0 else 1) < 30))=true:=by rfl)
  (hline:(apos.endLine == cpos.line)=true:=by rfl) (hs:starEach (e :: es) X.env=(false,eval e X.env) :: starEach es X.env:=by rfl) (hplain:(backTo cpos (starEach es X.env)).any (·.1)=false:=by rfl) :
  PE X (.Call (.Attribute o name apos) (e :: es) [] cpos) (tBMU K T r to t):=by
 subst hK;exact zuf1 pa slot hty hm ho ha hbase hfew hline hs hplain
noncomputable def zq21(_ j:Int):Prop:=0 < j/\j < 2 ^ 200
theorem zby{j:Int}(h0:0 < j)(h1:j < 2 ^ 200):j.natAbs.log2 < 9000:=by
 have h:j.natAbs.log2 < 200:=(Nat.log2_lt (by lia)).mpr (by lia);lia
theorem zc1:OpR X (binaryOp .FloorDiv) (rI zq21 λi j=>.int (i / j)):=opI λi j _ _ _ _ _ hc q=>by
 have h1:(0:Int) < j:=hc.1;exact floordiv_int (by lia) (by rw[Int.fdiv_eq_ediv_of_nonneg i (by lia)];exact q) (.inl (PyProof.noPylong_of_log2 (zby hc.1 hc.2)))
noncomputable def zam{α:Type}(xs:List α)(lo hi st:Option Int):List α:=(sliceRange (sliceBounds lo hi st xs.length).1 (sliceBounds lo hi st xs.length).2.1 (sliceBounds lo hi st xs.length).2.2).filterMap (xs[·]?)
theorem zhg{xs:List V}{vs:List Value}(h:Vals xs vs):∀js:List Nat,Vals (js.filterMap (xs[·]?)) (js.filterMap (vs[·]?))
|[]=>.nil
|j :: js=>by
  have ih:=zhg h js;cases hn:xs[j]? with
 |some n =>
   obtain⟨u,hu,r⟩:=h.get hn;simp only[xT,hn,hu];exact .cons r ih
 |none =>
   have hv:=h.none_of hn;simp only[xT,hn,hv];exact ih
theorem zlv{vs:List Value}(h:Vals xs vs)(lo hi st:Option Int):Vals (zam xs lo hi st) (slicePick vs.toArray lo hi st).toList:=by
 have e:(slicePick vs.toArray lo hi st).toList=(sliceRange (sliceBounds lo hi st xs.length).1 (sliceBounds lo hi st xs.length).2.1 (sliceBounds lo hi st xs.length).2.2).filterMap (vs[·]?):=by
  simp[slicePick,h.length]
 rw[e];exact zhg h _
noncomputable def rSl3(K:Fg):V->Option Int->Option Int->Option Int->Hp->VK->Prop:=λx lo hi st H Q=>∃a xs,x=.ref a/\SqL K H a xs/\st≠some 0/\∀p,H p=none->Q (.ref p) (upd H p (.lst (zam xs lo hi st)))
noncomputable def tSl3(K:Fg)(te:TE)(tl th tk:TO):TE:=λY H Q=>te Y H λx H1=>tl Y H1 λl H2=>th Y H2 λu H3=>tk Y H3 λst H4=>rSl3 K x l u st H4 Q
theorem zxu(hK:X.K=K){e:Expr}{te:TE}{lo hi:Option Expr}{st:Expr}{tl th tk:TO}{p2:Pos}(he:PE X e te)(hl:PO X lo tl)(hu:PO X hi th)(hs:PO X (some st) tk):PE X (.Subscript e (.Slice lo hi (some st) p2) pos) (tSl3 K te tl th tk):=by
 subst hK;intro pins s Y H Q I h;refine Subscript_ (thn (he pins s Y H _ I h) λv s1 hz=>?_);obtain⟨x,H1,I1,r1,q1⟩:=hz;refine wpAny_Slice (thn (hl pins s1 Y H1 _ I1 q1) λvl s2 ⟨l,H2,I2,pl,q2⟩=>thn (hu pins s2 Y H2 _ I2 q2) λvu s3 ⟨u,H3,I3,pu,q3⟩=>thn (hs pins s3 Y H3 _ I3 q3) λvk s4 hz=>?_);obtain⟨k,H4,I4,pk,q4⟩:=hz;obtain⟨a,xs,rfl,hx,h0,q⟩:=q4;cases r1;have I5:Inv X pins Y H4 { s4 with heap:=s4.heap.push { cls:=.type "slice",data:=.fields #[vl,vu,vk] } }:=I4.kept (t':=s4.toks) λb ob q=>u5 _ q;obtain⟨its,r,ht,hz⟩:=I5.list hx;have hlen:=r.length;refine tail_any (T := "list") (ops:=[.ref a,.ref s4.heap.objs.size]) ht.isList.typeIs slot_list_getitem.lookup (wpAny_getItem_list_slice ht.isList (Heap.IsSliceOf.new ..) pl pu pk h0 ?_ (by rw[wE] <;> lia)) (by with_unfolding_all rfl);have rv:=zlv r l u k;refine⟨.ref _,_,I5.laid (t':=s4.toks) (o:=.lst (zam xs l u k)) (λb ob q=>u5 _ q) (u3 _) ?_,rfl,q _ (I5.hok.fresh (u3 _))⟩;refine⟨?_,_,0,rv,?_⟩
 ·have:=slicePick_size_le its.toArray l u k;have e:=rv.length;simp only[xJ,wE]at this e;lia
 ·rw[Array.toArray_toList];exact wI _ rfl
theorem zbn:bootBuiltins "sorted"=some (.builtin "sorted"):=by decide +kernel
section
variable {K:Fg}{H H':Hp}{D a:Addr}{xs:List V}
theorem IsAll.get:∀{xs:List V}{ds:List PyData},IsAll K H xs ds->∀{i:Nat}{x:V},xs[i]?=some x->∃d,ds[i]?=some d/\Is K H x d
|_,_,.nil,i,x,e=>by simp at e
|_,_,.cons h r,0,x,e=>by simp at e;subst e;exact⟨_,rfl,h⟩
|_,_,.cons h r,i+1,x,e=>by
  obtain⟨d,e2,q⟩:=IsAll.get r (i:=i) (by simpa using e);exact⟨d,by simpa using e2,q⟩
end
noncomputable def Fit(n:Nat)(d:PyData):Prop:=d.canLay0=true/\d.depth<=n
theorem zab:∀{ds:List PyData},(∀d∈ds,d.canLay0=true)->zC ds=true
|[],_=>rfl
|d :: ds,h=>by
  show(d.canLay0 && zC ds)=true;rw[h d (by simp),zab λe he=>h e (v8 _ he)];rfl
theorem zsc{n:Nat}:∀{ds:List PyData},(∀d∈ds,d.depth<=n)->yL ds<=n
|[],_=>wW _
|d :: ds,h=>by
  show max d.depth (yL ds)<=n;have:=h d (by simp);have:=zsc λe he=>h e (v8 d he);lia
theorem Fit.tup{n:Nat}{ds:List PyData}(h:∀d∈ds,Fit n d):Fit (n+1) (.tuple ds):=⟨by show zC ds=true;exact zab λd hd=>(h d hd).1,by show yL ds+1<=n+1;have:=zsc λd hd=>(h d hd).2;lia⟩
theorem Fit.lst{n:Nat}{ds:List PyData}(h:∀d∈ds,Fit n d):Fit (n+1) (.list ds):=⟨by show zC ds=true;exact zab λd hd=>(h d hd).1,by show yL ds+1<=n+1;have:=zsc λd hd=>(h d hd).2;lia⟩
theorem Fit.int{n:Nat}(i:Int):Fit n (.int i):=⟨rfl,wW _⟩
theorem Fit.bl(i:Bool):Fit n (.bool i):=⟨rfl,wW _⟩
theorem Fit.str{n:Nat}{x:Str}(h:x.cps.all (· < 0x110000)=true):Fit n (.str x):=⟨h,wW _⟩
theorem Fit.mono{m:Nat}{d:PyData}(h:Fit n d)(hm:n<=m):Fit m d:=⟨h.1,wP h.2 hm⟩
theorem Fit.shaped{n:Nat}{d:PyData}(h:Fit n d)(hn:n<=64):SeqAt.shaped d=true:=by
 unfold SeqAt.shaped;rw[h.1,decide_eq_true (wP h.2 hn)];rfl
theorem Fit.eqv{d:PyData}(h:Fit n d):xE d d=true:=SeqAt.eqv_refl d h.1
theorem zxq{ds:List PyData}{d:PyData}(h:∀e∈ds,Fit n e)(h2:Fit n d):∀e∈ds++[d],Fit n e:=λe he=>by
 rcases u6.mp he with h3|h3
 ·exact h e h3
 ·rw[zD.mp h3];exact h2
noncomputable def zz81(K:Fg):Sp:=λvs H Q _=>∃(a:Addr)(ns:List Int),vs=[.ref a]/\SqL K H a (ns.map V.int)/\ns.length<=63/\∀H',Q (.bl true) H'
theorem law_walk{k:Nat}{l:PySem.W.OpenLaw}{q:Program}{loose:List Str}{XP:(Str->Option Value)->Heap->Prop}{YP:World->Heap->Prop}{d:DefRec}{K:Params->Fg}(hk:Room k callerA)(hn:l.most=some 63)(hdf:d.params.defaults=[])
  (hY:∀(w:World)(h:Heap),YP w h->(K w.params).In h)
  (F:∀(w:World)(mg:Str->Option Value)(fa:Addr)(h:Heap),(K w.params).In h->h.Ns mainGlobals mg->mg d.name=some (.ref fa) ->
   ∃fd:FuncData,(∀(s:Shared)(u:Value),BindsTo s fd ⟨[u],[]⟩ [("script",u)])/\∀base:Heap,(K w.params).In base->base.Ns mainGlobals mg->FnOk l.prog w (K w.params) mg base CX0 k fa fd ["script"] (zz81 (K w.params))) :
  PySem.W.WalkO q loose XP YP l.row.toRowW d [] (λf vs=>PySem.call f vs) :=
 _2.walk_of (n:=63) (k:=k) (x := "script") (CX:=λ_=>CX0) (sp:=λw=>zz81 (K w.params)) hn (by decide) hdf hk hY F (λ_ _ a ns hl _ hS=>⟨a,ns,rfl,hS,hl,λ_=>rfl⟩) λ_ _ _ _ _ z=>z
end _3
namespace _2
open PySem PySem.Spec PyProof.Rows
variable {H':Hp}{X:Cx}{Y:St}{a b:Addr}{h':Heap}{kvs:List (List Key×V)}{o:Option V}{pins:List (Addr×Obj)}{s:Shared}{u:Value}{w:World}{xs:List (List Key×Addr×Value)}{y:V}
section
variable {κ:Type}[DecidableEq κ]
noncomputable def valV(kvs:List (κ×V))(k:κ):Option V:=(kvs.find? λkv=>decide (kv.1=k)).map (·.2)
noncomputable def putK(kvs:List (κ×V))(k:κ)(v:V):List (κ×V) :=
 if(kvs.any λkv=>decide (kv.1=k))=true then kvs.map (λkv=>if kv.1=k then(kv.1,v)else kv)else kvs++[(k,v)]
noncomputable def zqj(kvs:List (κ×V))(k:κ):List (κ×V):=kvs.filter λkv=>decide (kv.1≠k)
theorem zgk{p:κ×V}{r:List (κ×V)}{k:κ}(e:p.1=k):valV (p :: r) k=some p.2:=by simp[valV,yE,e]
theorem zdk{p:κ×V}{r:List (κ×V)}{k:κ}(e:¬p.1=k):valV (p :: r) k=valV r k:=by simp[valV,yE,e]
theorem zhq(k:κ):∀kvs:List (κ×V),(kvs.any λkv=>decide (kv.1=k))=(valV kvs k).isSome
|[]=>rfl
|p :: r=>by
  rw[yO];by_cases e:p.1=k
  ·simp only[zgk e,decide_eq_true e,Bool.true_or,j5]
  ·rw[zdk e,decide_eq_false e,Bool.false_or];exact zhq k r
theorem zuf(kvs:List (κ×V))(k:κ)(v:V):(putK kvs k v).length<=kvs.length+1:=by
 unfold putK;split
 ·rw[u4];lia
 ·rw[yB,xO,List.length_nil];lia
theorem RelO.isSome_eq{u:Option Value}(r:RelO o u):o.isSome=u.isSome:=by
 cases o with
|none=>cases u with
 |none=>rfl
 |some _=>exact(show False from r).elim
|some _=>cases u with
 |none=>exact(show False from r).elim
 |some _=>rfl
theorem RelO.getD{o:Option V}{u:Option Value}{d:V}{d':Value}(r:RelO o u)(rd:RelV d d'):RelV (o.getD d) (u.getD d'):=by
 cases o with
|none=>cases u with
 |none=>exact rd
 |some _=>exact(show False from r).elim
|some _=>cases u with
 |none=>exact(show False from r).elim
 |some _=>exact r
theorem KV.val{kvs:List (κ×V)}{vs:List (κ×Value)}(r:KV kvs vs)(k:κ):RelO (valV kvs k) (valueAt vs k):=by
 unfold KV at r
 induction r with
|nil=>exact True.intro
|@cons p q ps qs h t ih =>
  obtain⟨h1,h2⟩:=h;by_cases e:p.1=k
  ·have e':q.1=k:=h1.symm.trans e;have b:valueAt (q :: qs) k=some q.2:=by simp[valueAt,yE,e']
   rw[zgk e,b];exact h2
  ·have e':¬q.1=k:=λz=>e (h1.trans z);have b:valueAt (q :: qs) k=valueAt qs k:=by simp[valueAt,yE,e']
   rw[zdk e,b];exact ih
theorem KV.any{kvs:List (κ×V)}{vs:List (κ×Value)}(r:KV kvs vs)(k:κ):(kvs.any λkv=>decide (kv.1=k))=vs.any λkv=>decide (kv.1=k):=by
 unfold KV at r
 induction r with
|nil=>rfl
|cons h t ih=>rw[yO,yO,ih,h.1]
theorem KV.repl{kvs:List (κ×V)}{vs:List (κ×Value)}(r:KV kvs vs)(k:κ)(ry:RelV y u) :
  KV (kvs.map λkv=>if kv.1=k then(kv.1,y)else kv) (vs.map λkv=>if kv.1=k then(kv.1,u)else kv):=by
 unfold KV at r ⊢
 induction r with
|nil=>exact .nil
|@cons p q ps qs h t ih =>
  rw[wM,wM];refine .cons ?_ ih;obtain⟨h1,h2⟩:=h;by_cases e:p.1=k
  ·rw[if_pos e,if_pos (h1.symm.trans e)];exact⟨h1,ry⟩
  ·rw[if_neg e,if_neg (λz=>e (h1.trans z))];exact⟨h1,h2⟩
theorem KV.put{kvs:List (κ×V)}{vs:List (κ×Value)}(r:KV kvs vs)(k:κ)(ry:RelV y u):KV (putK kvs k y) (stored vs k u):=by
 unfold putK stored;rw[r.any k];by_cases e:(vs.any λkv=>decide (kv.1=k))=true
 ·rw[if_pos e,if_pos e];exact r.repl k ry
 ·rw[if_neg e,if_neg e];exact Paired.snoc r ⟨rfl,ry⟩
theorem KV.length{kvs:List (κ×V)}{vs:List (κ×Value)}(r:KV kvs vs):kvs.length=vs.length:=Paired.length r
theorem zoy(kvs:List (κ×V))(k:κ):(zqj kvs k).length<=kvs.length:=yX _ _
end
theorem zv71{P:Program}{k:Key}(r:RelV (kV k) u):(zu2 P w).is k u=true:=by
 cases k with
|inl i=>obtain⟨t,e⟩:=(show ∃t,u=x6 i t from r);subst e;exact zkn P w i t
|inr x=>obtain⟨t,e⟩:=(show ∃t,u=yT x t from r);subst e;exact zhn P w x t
theorem zcm{P:Program}{w:World}:∀{ks:List Key}{us:List Value},Vals (ks.map kV) us->ItemsAre (zu2 P w) ks us
|[],_,r=>by rw[yC]at r;cases r;exact .nil
|k :: ks,_,r=>by
  rw[wM]at r;cases r with
 |cons h t=>exact .cons (zv71 h) (zcm t)
noncomputable abbrev KT(H:Hp):List (List Key×V)->List (List Key×Addr×Value)->Prop:=Paired λp q=>p.1=q.1/\H q.2.1=some (.tup (p.1.map kV))/\RelV p.2 q.2.2
theorem KT.val{H:Hp}(r:KT H kvs xs)(k:List Key):RelO (valV kvs k) ((atKey xs k).map (·.2)):=by
 induction r with
|nil=>exact True.intro
|@cons p q ps qs h t ih =>
  obtain⟨h1,_,h2⟩:=h;by_cases e:p.1=k
  ·have e':q.1=k:=h1.symm.trans e;have b:atKey (q :: qs) k=some q.2:=by simp[atKey,yE,e']
   rw[zgk e,b];exact h2
  ·have e':¬q.1=k:=λz=>e (h1.trans z);have b:atKey (q :: qs) k=atKey qs k:=by simp[atKey,yE,e']
   rw[zdk e,b];exact ih
theorem KT.repl{H:Hp}(r:KT H kvs xs)(k:List Key)(ry:RelV y u) :
  KT H (kvs.map λkv=>if kv.1=k then(kv.1,y)else kv) (xs.map (putAt k u)):=by
 induction r with
|nil=>exact .nil
|@cons p q ps qs h t ih =>
  rw[wM,wM];refine .cons ?_ ih;obtain⟨h1,h2,h3⟩:=h;unfold putAt;by_cases e:p.1=k
  ·rw[if_pos e,if_pos (h1.symm.trans e)];exact⟨h1,h2,ry⟩
  ·rw[if_neg e,if_neg (λz=>e (h1.trans z))];exact⟨h1,h2,h3⟩
theorem KT.put{H:Hp}(r:KT H kvs xs)(k:List Key)(hb:H b=some (.tup (k.map kV)))(ry:RelV y u) :
  KT H (putK kvs k y) (storedH xs k b u):=by
 have e:(kvs.any λkv=>decide (kv.1=k))=(atKey xs k).isSome:=by
  rw[zhq,(r.val k).isSome_eq,Option.isSome_map]
 unfold putK storedH;rw[e];by_cases q:(atKey xs k).isSome=true
 ·rw[if_pos q,if_pos q];exact r.repl k ry
 ·rw[if_neg q,if_neg q];exact Paired.snoc r ⟨rfl,hb,ry⟩
theorem KT.keeps{H:Hp}(r:KT H kvs xs)(ht:∀b ys,H b=some (.tup ys)->H' b=some (.tup ys)):KT H' kvs xs :=
 Paired.mapP r λ_ _ z=>⟨z.1,ht _ _ z.2.1,z.2.2⟩
section
variable {P:Program}{w:World}{H:Hp}{h:Heap}{a:Addr}
theorem zsd1{u:HO}(ok:HOk P w H h)(e:Rd H a u):ObjOk P w H h a u:=e.ok ok
theorem zm21{kvs:List (Key×V)}(ok:HOk P w H h)(e:Rd H a (.dK kvs)):kvs.length<=sizeLine/\(a == sysModules)=false/\∃vs,KV kvs vs/\h.DictOf (zu2 P w) a vs :=
 show ObjOk P w H h a (.dK kvs)from zsd1 ok e
theorem zhg1{kvs:List (Key×V)}(ok:HOk P w H h)(e:H a=some (.dK kvs)):kvs.length<=sizeLine/\(a == sysModules)=false/\∃vs,KV kvs vs/\h.DictOf (zu2 P w) a vs:=zm21 ok (.inl e)
theorem ztn{ks:List Key}(ok:HOk P w H h)(e:H a=some (.tup (ks.map kV))):(tupleKind (zu2 P w)).is h ks a:=by
 obtain⟨_,its,r,o,h1,h2,n,h3⟩:=(show ObjOk P w H h a (.tup (ks.map kV))from ok a _ e)
 exact⟨o,its.toArray,n,h1,h2,h3,by simpa using zcm r⟩
theorem zo21(ok:HOk P w H h)(e:Rd H a (.dT kvs)):kvs.length<=sizeLine/\(a == sysModules)=false /\
  ∃xs,KT H kvs xs/\h.DictOfH (tupleKind (zu2 P w)) a xs:=by
 obtain⟨z,y,xs,r,o,es,ep,h1,h2,h3,h4,h5⟩:=(show ObjOk P w H h a (.dT kvs)from zsd1 ok e)
 refine⟨z,y,xs,r,o,es,ep,h1,h2,h3,h4,λx hx=>?_,h5⟩;have all:∀{l:List (List Key×V)}{m:List (List Key×Addr×Value)},KT H l m->∀x∈m,(tupleKind (zu2 P w)).is h x.1 x.2.1:=by
  intro l m q
  induction q with
 |nil=>intro x hx;exact nomatch hx
 |@cons p q ps qs hq t ih =>
   intro x hx;rcases v6.mp hx with e|hx
   ·subst e;exact ztn ok (by rw[<- hq.1];exact hq.2.1)
   ·exact ih x hx
 exact all r x hx
theorem zdf1(ok:HOk P w H h)(e:H a=some (.dT kvs)):kvs.length<=sizeLine/\(a == sysModules)=false /\
  ∃xs,KT H kvs xs/\h.DictOfH (tupleKind (zu2 P w)) a xs:=zo21 ok (.inl e)
end
noncomputable def DGet(H:Hp)(a:Addr)(y:V)(r:Option V):Prop :=
 (∃kvs k,Rd H a (.dK kvs)/\y=kV k/\r=valV kvs k) \/ ∃kvs k b,Rd H a (.dT kvs)/\y=.ref b/\H b=some (.tup (k.map kV))/\r=valV kvs k
noncomputable def DPut(H:Hp)(a:Addr)(y v:V)(H':Hp):Prop :=
 (∃kvs k,H a=some (.dK kvs)/\y=kV k/\kvs.length < sizeLine/\H'=upd H a (.dK (putK kvs k v))) \/
 ∃kvs k b,H a=some (.dT kvs)/\y=.ref b/\H b=some (.tup (k.map kV))/\kvs.length < sizeLine/\H'=upd H a (.dT (putK kvs k v))
theorem DGet.k{H:Hp}{a:Addr}{kvs:List (Key×V)}{k:Key}(e:H a=some (.dK kvs)):DGet H a (kV k) (valV kvs k):=.inl ⟨kvs,k,.inl e,rfl,rfl⟩
theorem DGet.t{H:Hp}{k:List Key}(e:H a=some (.dT kvs))(eb:H b=some (.tup (k.map kV))):DGet H a (.ref b) (valV kvs k):=.inr ⟨kvs,k,b,.inl e,rfl,eb,rfl⟩
theorem DPut.k{H:Hp}{a:Addr}{kvs:List (Key×V)}{k:Key}{v:V}(e:H a=some (.dK kvs))(hl:kvs.length < sizeLine):DPut H a (kV k) v (upd H a (.dK (putK kvs k v))):=.inl ⟨kvs,k,e,rfl,hl,rfl⟩
theorem DPut.t{H:Hp}{k:List Key}{v:V}(e:H a=some (.dT kvs))(eb:H b=some (.tup (k.map kV)))(hl:kvs.length < sizeLine) :
  DPut H a (.ref b) v (upd H a (.dT (putK kvs k v))):=.inr ⟨kvs,k,b,e,rfl,eb,hl,rfl⟩
section
variable {X:Cx}{pins:List (Addr×Obj)}{Y:St}{H:Hp}{s:Shared}{a:Addr}{y v:V}{u r:Value}{o:Option V}{A:Around}{E:Value->Shared->Prop}
theorem Inv.big(I:Inv X pins Y H s):sysModules < s.heap.objs.size:=by
 have h:mainGlobals < s.heap.objs.size:=(I.mod.glob.keeps I.bk).lt;exact Nat.lt_trans (by decide) h
theorem zjm{Q:Value->Shared->Prop}(hu:A.units+1 < cLine)(I:Inv X pins Y H s)(g:DGet H a y (some v))(ry:RelV y u)(h:∀w' s',Inv X pins Y H s'->RelV v w'->Q w' s') :
  wpAny (model X.prog X.w) A (getItem (.ref a) u) Q E s:=by
 rcases g with⟨kvs,k,e,ey,l⟩|⟨kvs,k,b,e,ey,eb,l⟩
 ·subst ey;obtain⟨z,hd,vs,rel,dd⟩:=zm21 I.hok e;obtain⟨w',hw,rw'⟩:=RelO.some_of (v:=v) (o:=valueAt vs k) (by rw[l];exact rel.val k);exact wpAny_getItem_of (zv71 ry) dd.mapOf hw (h w' _ (I.tok _) rw')
 ·subst ey;cases (show u=u7 b from ry);obtain⟨z,hd,xs,rel,dd⟩:=zo21 I.hok e;obtain⟨w',hw,rw'⟩:=RelO.some_of (v:=v) (o:=(atKey xs k).map (·.2)) (by rw[l];exact rel.val k);obtain⟨p,hp,hp2⟩:=wX.mp hw;refine wpAny_getItem_heap (tupleKind_room_in1 hu) (ztn I.hok eb) dd hp ?_;rw[hp2];exact h w' _ (I.tok _) rw'
theorem zkq{t':Nat}{ob:HO}(I:Inv X pins Y H s)(mu:Mut (H a))(hs:Heap.SameBut a s.heap h')(he:∃q,h'.get? a=some q)(new:ObjOk X.prog X.w (upd H a ob) h' a ob) :
  Inv X pins Y (upd H a ob) { s with heap:=h',toks:=t' } :=
 I.write (x:=a) (e:=a) mu (.inl rfl) (λb q hb z=>(hs.2 b hb).trans z) he new
theorem zca1{P:Program}{kvs:List (Key×V)}{vs:List (Key×Value)}(z:kvs.length<=sizeLine)(hd:(a == sysModules)=false)(rel:KV kvs vs)(dd:h'.DictOf (zu2 P w) a vs) :
  ObjOk P w H' h' a (.dK kvs):=⟨z,hd,vs,rel,dd⟩
theorem zkt{Q:Unit->Shared->Prop}(hu:A.units+1 < cLine)(I:Inv X pins Y H s)(g:DPut H a y v H')(ry:RelV y u)(rv:RelV v r)(h:∀s',Inv X pins Y H' s'->Q () s') :
  wpAny (model X.prog X.w) A (setItem (.ref a) u r) Q E s:=by
 rcases g with⟨kvs,k,e,ey,l,eH⟩|⟨kvs,k,b,e,ey,eb,l,eH⟩
 ·subst ey eH;obtain⟨z,hd,vs,rel,dd⟩:=zhg1 I.hok e;have hz:vs.length<=sizeLine:=by rw[<- rel.length];exact z
  have hl:(putK kvs k v).length<=sizeLine:=by have:=zuf kvs k v;lia
  refine wpAny_setItem_pairs (hsz:=hz) (zv71 ry) dd λh' dd' hs=>h _ ?_;have he:∃q,h'.get? a=some q:=let ⟨q,_,_,hq,_⟩:=dd';⟨q,hq⟩;exact zkq I (by rw[e];exact True.intro) hs he (zca1 hl hd (rel.put k rv) dd')
 ·subst ey eH;cases (show u=u7 b from ry);obtain⟨z,hd,xs,rel,dd⟩:=zdf1 I.hok e;have hz:xs.length<=sizeLine:=by rw[<- Paired.length rel];exact z
  have hl:(putK kvs k v).length<=sizeLine:=by have:=zuf kvs k v;lia
  refine wpAny_setItem_heap (hsz:=hz) (tupleKind_room_in1 hu) (ztn I.hok eb) dd λh' dd' hs=>h _ ?_;obtain⟨q,es,ep,hq,h2,h3,h4,_,h5⟩:=dd';refine zkq I (by rw[e];exact True.intro) hs ⟨q,hq⟩ ⟨hl,hd,_,(rel.put k eb rv).keeps λc ys ec=>?_,q,es,ep,hq,h2,h3,h4,h5⟩;rw[zm0 (zs91 ec e (λz=>nomatch z))];exact ec
end
theorem zon{H:Hp}(I:Inv X pins Y H s)(g:DGet H a y o):s.TypeIs (.ref a) "dict":=by
 rcases g with⟨kvs,k,e,_,_⟩|⟨kvs,k,b,e,_,_,_⟩
 ·obtain⟨_,_,vs,_,dd⟩:=zm21 I.hok e;exact dd.typeIs
 ·obtain⟨_,_,xs,_,dd⟩:=zo21 I.hok e;exact dd.typeIs
theorem zpx{P:Program}{H:Hp}(h:Heap)(hb:sysModules < h.objs.size):ObjOk P w H (h.push { cls:=.type "dict",data:=.dict #[] }) h.objs.size (.dT []) :=
 ⟨wW _,beq_eq_false_iff_ne.mpr (Ne.symm (wN hb)),[],.nil,_,#[],0,wI _ rfl,⟨rfl,rfl,rfl⟩,rfl,rfl,List.nodup_nil⟩
noncomputable def zs31:TE:=λ_ H Q=>∀p,H p=none->Q (.ref p) (upd H p (.dT []))
section
variable {X:Cx}{pos:Pos}
theorem zxx:PE X (.Dict [] [] pos) zs31:=λpins s Y H Q I h =>
 wpAny_Dict_empty ⟨.ref s.heap.objs.size,_,I.laid (a:=s.heap.objs.size) (o:=.dT []) (t':=s.toks) (λ_ _ q=>u5 _ q) (u3 _) (zpx s.heap I.big),rfl,h _ (I.hok.fresh (u3 _))⟩
end
noncomputable def IsD(H:Hp)(a:Addr):Prop:=(∃kvs,Rd H a (.dK kvs)) \/ ∃kvs,Rd H a (.dT kvs)
theorem ztb1{H:Hp}(I:Inv X pins Y H s)(d:IsD H a) :
  s.TypeIs (.ref a) "dict"/\(∀b,u7 a=.ref b->∃ob,s.heap.get? b=some ob/\ob.dict=none)/\(a == sysModules)=false:=by
 rcases d with⟨kvs,e⟩|⟨kvs,e⟩
 ·obtain⟨_,hd,vs,_,dd⟩:=zm21 I.hok e;refine⟨dd.typeIs,λb q=>?_,hd⟩;cases q;obtain⟨ob,_,_,h1,h2,_⟩:=dd;exact⟨ob,h1,h2.2.1⟩
 ·obtain⟨_,hd,xs,_,dd⟩:=zo21 I.hok e;refine⟨dd.typeIs,λb q=>?_,hd⟩;cases q;obtain⟨ob,_,_,h1,h2,_⟩:=dd;exact⟨ob,h1,h2.2.1⟩
section
variable {X:Cx}{pins:List (Addr×Obj)}{Y:St}{H:Hp}{s:Shared}{a:Addr}{y d:V}{u r:Value}{o:Option V}{A:Around}{E:Value->Shared->Prop}
theorem zpa1{Q:Value->Shared->Prop}(hu:A.units+1 < cLine)(I:Inv X pins Y H s)(g:DGet H a y o)(ry:RelV y u)(rd:RelV d r)(h:∀w' s',Inv X pins Y H s'->RelV (o.getD d) w'->Q w' s') :
  wpAny (model X.prog X.w) A (call (.builtin "dict.get") [.ref a,u,r]) Q E s:=by
 rcases g with⟨kvs,k,e,ey,l⟩|⟨kvs,k,b,e,ey,eb,l⟩
 ·subst ey;obtain⟨z,hd,vs,rel,dd⟩:=zm21 I.hok e;refine call_meetsIn ğg dd.typeIs ğn (ğk _ _ _) (meets_dict_get_default (zu2 X.prog X.w) a (zv71 ry) hd r) ⟨_,dd.mapOf,h _ _ (I.tok _) ?_⟩;rw[l];exact(rel.val k).getD rd
 ·subst ey;cases (show u=u7 b from ry);obtain⟨z,hd,xs,rel,dd⟩:=zo21 I.hok e;refine call_meetsIn ğg dd.typeIs ğn (ğk _ _ _) (meetsH_dict_get_default (tupleKind (zu2 X.prog X.w)) a b hd r) ⟨tupleKind_room_in1 hu,k,xs,ztn I.hok eb,dd,h _ _ (I.tok _) ?_⟩;rw[l];exact(rel.val k).getD rd
end
end _2
namespace _3
open PySem PySem.Spec PyProof.Rows _2
variable {K:Fg}{X:Cx}{a:Addr}{ds:List PyData}{pos:Pos}
noncomputable def rIxD:R2:=λx y H Q=>∃a v,x=.ref a/\DGet H a y (some v)/\Q v H
noncomputable def zme1:V->V->V->Hp->(Hp->Prop)->Prop:=λo i v H Q=>∃a H',o=.ref a/\DPut H a i v H'/\Q H'
section
variable {X:Cx}
theorem ix_D(hu:X.A.units+64 < cLine):IxR X rIxD:=by
 intro value slice pins s Y H x y v u Q I rx ry h hs;obtain⟨a,v',rfl,g,q⟩:=h;obtain rfl:v=u7 a:=rx;exact tail_any (zon I g) ğh.lookup (zjm (by lia) I g ry λw' s3 I3 rw'=>⟨v',H,I3,rw',q⟩) hs
theorem zqg1(hu:X.A.units+64 < cLine):PSet X zme1:=by
 intro pins s Y H o i v ov iv u Q I ro ri rv h;obtain⟨a,H',rfl,g,q⟩:=h;obtain rfl:ov=u7 a:=ro;exact zkt (by lia) I g ri rv λs4 I4=>⟨H',I4,q⟩
theorem zxf1(hu:X.A.units+64 < cLine):PGet X rIxD:=by
 intro pins s Y H o i ov iv Q I ro ri h;obtain⟨a,v',rfl,g,q⟩:=h;obtain rfl:ov=u7 a:=ro;exact zjm (by lia) I g ri λw' s3 I3 rw'=>⟨v',H,I3,rw',q⟩
noncomputable def ztd1(K:Fg):R2:=λx y H Q=>∃a xs j v,x=.ref a/\y=.int j/\0<=j/\SqL K H a xs/\xs[j.toNat]?=some v/\Q v H
theorem zwf1(hK:X.K=K):PGet X (ztd1 K):=by
 subst hK;intro pins s Y H o i ov iv Q I ro ri h;obtain⟨a,xs,j,v,rfl,rfl,h0,hq,he,q⟩:=h;obtain rfl:ov=u7 a:=ro;obtain⟨t,rfl⟩:=ri;obtain⟨its,r,pl,hz⟩:=I.list hq;obtain⟨u,eu,ru⟩:=r.get he;have hl:=r.length;have hn:=zak;have hj:=(wR.mp he).1;refine wpAny_getItem_list pl.isList h0 (by lia) (by simpa using eu) ⟨v,H,I,ru,q⟩
theorem PGet.or{r r':R2}(h:PGet X r)(h':PGet X r'):PGet X (λx y H Q=>r x y H Q \/ r' x y H Q):=by
 intro pins s Y H o i ov iv Q I ro ri q;rcases q with q|q
 ·exact h pins s Y H o i ov iv Q I ro ri q
 ·exact h' pins s Y H o i ov iv Q I ro ri q
theorem PSet.or{r r':TSet}(h:PSet X r)(h':PSet X r'):PSet X (λo i v H Q=>r o i v H Q \/ r' o i v H Q):=by
 intro pins s Y H o i v ov iv u Q I ro ri rv q;rcases q with q|q
 ·exact h pins s Y H o i v ov iv u Q I ro ri rv q
 ·exact h' pins s Y H o i v ov iv u Q I ro ri rv q
end
noncomputable def rIxV(w:World)(K:Fg):R2:=λx y H Q=>rIxW w K x y H Q \/ rIxD x y H Q
noncomputable def zq81(K:Fg):R2:=λx y H Q=>ztd1 K x y H Q \/ rIxD x y H Q
noncomputable def zev:V->V->V->Hp->(Hp->Prop)->Prop:=λo i v H Q=>zkd1 o i v H Q \/ zme1 o i v H Q
section
variable {X:Cx}{w:World}{K:Fg}
theorem ix_V(hu:X.A.units+64 < cLine)(hw:X.w=w)(hK:X.K=K):IxR X (rIxV w K):=(ix_W hw hK).or (ix_D hu)
theorem zsc1(hu:X.A.units+64 < cLine)(hK:X.K=K):PGet X (zq81 K):=PGet.or (zwf1 hK) (zxf1 hu)
theorem zjo(hu:X.A.units+64 < cLine):PSet X zev:=PSet.or zh11 (zqg1 hu)
end
noncomputable def kBM0(K:Fg)(T:String)(r:V->List V->Hp->VK->Prop)(x:V)(H:Hp)(Q:VK):Prop:=tyV K T x H/\r x [] H Q
noncomputable def zvd1(K:Fg)(T:String)(r:V->List V->Hp->VK->Prop)(to:TE):TE:=λY H Q=>to Y H λx H1=>kBM0 K T r x H1 Q
theorem zgs(hK:X.K=K){o:Expr}{to:TE}{name:Str}{apos cpos:Pos}{T id:String}{r:V->List V->Hp->VK->Prop}(pa:PlainAttrs T)(slot:Slot T name id)(hty:typeOf (.builtin id)=pure (.type "method_descriptor"))(hm:MtR X id r)(ho:PE X o to)
  (hbase:attributeBase o name X.env (eval o X.env)=eval o X.env:=by rfl) (hline:(apos.endLine == cpos.line)=true:=by rfl):PE X (.Call (.Attribute o name apos) [] [] cpos) (zvd1 K T r to):=by
 subst hK;exact zbb1 pa slot hty hm ho hbase hline
theorem zax{pins:List (Addr×Obj)}{Y:_2.St}{H:Hp}{s:Shared}{h':Heap}{t':Nat}{c:Addr}(I:_2.Inv X pins Y H s)(k:∀b o,b≠a->b≠c->s.heap.get? b=some o->h'.get? b=some o)
  (fa:FpOk X pins H a) (fc:FpOk X pins H c):_2.Inv X pins Y H { s with heap:=h',toks:=t' }:=by
 obtain⟨a0,a1,_,a3,a4,a5⟩:=fa;obtain⟨c0,c1,_,c3,c4,c5⟩:=fc;have na:∀b u,H b=some u->b≠a:=λb u e z=>by rw[z,a0]at e;cases e
 have nc:∀b u,H b=some u->b≠c:=λb u e z=>by rw[z,c0]at e;cases e
 refine I.step (g':=s.gens) (d':=s.drawn) (ch:=[a,c]) (λb hb=>?_) (λb o _ _ hc e _=>k b o (λz=>hc (by simp[z])) (λz=>hc (by simp[z])) e) (λb o _ _ hc e _=>⟨o.slots,k b o (λz=>hc (by simp[z])) (λz=>hc (by simp[z])) e⟩) (λ_ _ _ _ n=>n)
  (λb o hc e=>⟨o,k b o (λz=>hc (by simp[z])) (λz=>hc (by simp[z])) e⟩) (λ_ _ e=>e) (λ_ _ _ e=>e) (λb ps e=>⟨#[],by rw[e];simp⟩) (λm hm=>?_) (λb u e=>?_) I.bare
 ·simp at hb;rcases hb with e|e
  ·subst e;exact⟨a3,a1,a4,a5⟩
  ·subst e;exact⟨c3,c1,c4,c5⟩
 ·obtain⟨o,es,ep,ho,r⟩:=hm;exact⟨o,es,ep,k _ o (Ne.symm a1) (Ne.symm c1) ho,r⟩
 ·refine(I.hok b u e).stay (λd v hc q=>k d v ?_ ?_ q) (λ_ q=>q) λ_ _ q=>q
  ·rcases hc with z|z
   ·rw[z];exact na b u e
   ·exact na d _ z
  ·rcases hc with z|z
   ·rw[z];exact nc b u e
   ·exact nc d _ z
theorem zfx{h:Heap}{ob o:Obj}{b:Addr}(e:(h.push ob).get? b=some o)(n:b≠h.objs.size):h.get? b=some o:=by
 obtain⟨e1,e2⟩:=j7.mp e;refine j7.mpr ⟨?_,e2⟩;cases h
 simpa[Heap.push,Array.getElem?_push,n]using e1
noncomputable def Ite(K:Fg)(a:Addr):It:=⟨λi H=>∃xs x,SqL K H a xs/\xs[i]?=some x,λi H x H'=>∃y p,(∀ys,SqL K H a ys->ys[i]?=some y)/\H p=none/\x=.ref p/\H'=upd H p (.tup [.int (i:Int),y]),λi H=>∃xs,SqL K H a xs/\xs.length<=i⟩
theorem zut{P:Program}{w:World}{elts:List Expr}{c:_}{e it:Addr}(hne:e≠it) :
  Turn P w K (.Tuple elts c pos) (Ite K a) [e,it] e (λi h=>(∃old,IsEnum h e it (i:Int) old)/\h.IsListIter it a i) where
 mem:=by simp
 obj:=λi h S b hb=>by
  obtain⟨⟨old,he⟩,hi⟩:=S;simp at hb;rcases hb with rfl|rfl
  ·exact⟨_,he,λv q=>by cases q⟩
  ·obtain⟨o,e1,c1,d1⟩:=hi;exact⟨o,e1,λv z=>by rw[d1]at z;cases z⟩
 keep:=λi h h' S k=>by
  obtain⟨⟨old,he⟩,hi⟩:=S;exact⟨⟨old,k _ (by simp) _ he⟩,hi.at λo e1=>k it (by simp) o e1⟩
 item:=by
  intro X hP hw hK hc i pins s Y H E I hf S hg;subst hP hw hK;obtain⟨⟨old,he⟩,hi⟩:=S;obtain⟨xs,x,hq,hx⟩:=hg;obtain⟨its,rv,p,hz⟩:=I.list hq;obtain⟨u,hu,ru⟩:=rv.get hx;refine wpAny_pyNext_enum_item he hi p.isList (x:=u) (by simpa using hu) hne λh' ho hi' ht hsz hk=>?_;have eL:e < s.heap.objs.size:=u9 he;have iL:it < s.heap.objs.size:=by obtain⟨o,e1,_⟩:=hi;exact u9 e1
  have hfr:=I.hok.fresh (u3 s.heap.objs.size);have I1:_2.Inv X pins Y (upd H s.heap.objs.size (.tup [.int (i:Int),x])) { s with heap:=s.heap.push { cls:=.type "tuple",data:=.seq #[.int i s.toks,u] },toks:=s.toks+1 } :=
   I.laid (t':=s.toks+1) (o:=.tup [.int (i:Int),x]) (λb ob q=>u5 _ q) (u3 _) ⟨by show 2<=sizeLine;rw[sizeLine_eq];decide,[.int i s.toks,u],.cons ⟨_,rfl⟩ (.cons ru .nil),IsTup.new _ _⟩
  have fe:=hf e (by simp);have fi:=hf it (by simp);have fe1:FpOk X pins (upd H s.heap.objs.size (.tup [.int (i:Int),x])) e:=⟨by rw[zm0 (wN eL)];exact fe.1,fe.2⟩
  have fi1:FpOk X pins (upd H s.heap.objs.size (.tup [.int (i:Int),x])) it:=⟨by rw[zm0 (wN iL)];exact fi.1,fi.2⟩
  have I2:_2.Inv X pins Y (upd H s.heap.objs.size (.tup [.int (i:Int),x])) { s with heap:=h',toks:=s.toks+1 } :=
   zax (s:={ s with heap:=s.heap.push { cls:=.type "tuple",data:=.seq #[.int i s.toks,u] },toks:=s.toks+1 }) I1 (λb o nb1 nb2 q=>by
    by_cases z:b=s.heap.objs.size
    ·subst z;have q':(s.heap.push { cls:=.type "tuple",data:=.seq #[.int i s.toks,u] }).get? s.heap.objs.size=some o:=q;rw[wI _ rfl]at q';cases q';exact ht
    ·exact hk b o nb1 nb2 (zfx q z)) fe1 fi1
  refine⟨.ref s.heap.objs.size,rfl,wpAny_letOwnedTupleGo_enum ho λh2 he2 hs2=>?_⟩;refine⟨.ref s.heap.objs.size,_,zw4 (tk:=s.toks+1) I2 fe1 hs2,rfl,⟨x,s.heap.objs.size,λys hy=>by rw[I.list_inj hy hq];exact hx,hfr,rfl,rfl⟩,⟨⟨u,by simpa using he2⟩,hi'.at λo e1=>hs2.extBut _ _ (Ne.symm hne) e1⟩,λb hb=>?_⟩;simp at hb;rcases hb with rfl|rfl
  ·exact fe1.1
  ·exact fi1.1
 done:=by
  intro X hP hw hK hc i pins s Y H E I hf S hg;subst hP hw hK;obtain⟨⟨old,he⟩,hi⟩:=S;obtain⟨xs,hq,hx⟩:=hg;obtain⟨its,rv,p,hz⟩:=I.list hq;have hl:=rv.length;exact wpAny_pyNext_enum_end (I.ok.hd hc) he hi p.isList (by simp;lia) λh' eb=>⟨rfl,zqu (tk:=s.toks) I (hf it (by simp)) eb⟩
 self:=λ_ _ _ _ _ S h=>wpAny_pyIter_enum S.1.choose_spec h
theorem zuj:bootBuiltins "enumerate"=some (.type "enumerate"):=by decide +kernel
section
variable {X:Cx}{elts:List Expr}
noncomputable def ztf1(K:Fg)(vs:List V)(H:Hp)(R:It->Hp->Prop):Prop:=∃a xs,vs=[.ref a]/\SqL K H a xs/\R (Ite K a) H
noncomputable def zh91(K:Fg)(ta:TA):TI:=λY H R=>ta Y H λvs H1=>ztf1 K vs H1 R
theorem zex(hK:X.K=K){c:_}{tpos:Pos}{a:Expr}{ta:TA}{p pos:Pos}(hg:Gl X "enumerate")(hm:X.mg "enumerate"=none)(ha:PA X [a] ta)(hs:starEach [a] X.env=[(false,eval a X.env)]:=by rfl) :
  PI X (.Tuple elts c tpos) (.Call (.Name "enumerate" p) [a] [] pos) (zh91 K ta):=by
 subst hK;intro pins s Y H R I h;refine Call_ (zuk I hg hm zuj (PyProof.Rows.callWith_type1 (thn (ha pos pins s Y H _ I h) λus s1 hz=>?_) (by rw[hs];rfl) (by rfl)));obtain⟨vs,H1,I1,r1,q1⟩:=hz;obtain⟨l,xs,e,hq,q⟩:=q1;subst e;obtain⟨u1,rfl,ru⟩:=zf21 r1;obtain rfl:u1=u7 l:=ru;obtain⟨its,rv,pl,hz⟩:=I1.list hq;refine call_enumerate_list pl.isList ?_;intro h' he hi hsz kk;refine wpAny_pyIter_enum he ?_;have I2:_2.Inv X pins Y H1 { s1 with heap:=h' }:=I1.kept (t':=s1.toks) kk;refine⟨s1.heap.objs.size+1,[s1.heap.objs.size+1,s1.heap.objs.size],_,_,H1,rfl,I2,zut (Nat.succ_ne_self _),⟨⟨.none,he⟩,hi⟩,λb hb=>?_,q⟩;have hb':s1.heap.objs.size<=b:=by
  simp at hb;rcases hb with z|z
  ·exact z ▸ xQ _
  ·exact z ▸ u3 _
 exact I1.fpOk hb' (I1.hok.fresh hb')
end
noncomputable def zkc1:R2:=λx y H Q=>zne1 x y H Q \/ rRep x y H Q
theorem zt2:OpR X (binaryOp .Mult) zkc1:=zq51.or zr71
noncomputable def zw01:V->List V->Hp->VK->Prop:=λx vs H Q=>∃a k d o,x=.ref a/\vs=[k,d]/\DGet H a k o/\Q (o.getD d) H
theorem zu41(hu:X.A.units+64 < cLine):MtR X "dict.get" zw01:=by
 intro pins s Y H x xs v us Q I rx rv h;obtain⟨a,k,d,o,rfl,rfl,g,q⟩:=h;obtain⟨u,r,rfl,ru,rr⟩:=zl61 rv;obtain rfl:v=u7 a:=rx;exact zpa1 (by lia) I g ru rr λw' s3 I3 rw'=>⟨o.getD d,H,I3,rw',q⟩
section
variable {X:Cx}
noncomputable def zyd1(K:Fg):R2:=λx y H Q=>∃l b xs zs,x=.ref l/\y=.ref b/\SqL K H l xs/\SqL K H b zs/\xs.length+zs.length<=sizeLine/\∀p,H p=none->Q (.ref p) (upd H p (.lst (xs++zs)))
theorem zo41(hK:X.K=K):OpR X (binaryOp .Add) (zyd1 K):=by
 subst hK;intro pins s Y H x y v u Q I rx ry h;obtain⟨l,b,xs,zs,rfl,rfl,hH,hB,hz,q⟩:=h;cases rx;cases ry;obtain⟨its,r,⟨⟨cls,dd,data,sl⟩,n,ho,hc,_,hd⟩,z1⟩:=I.list hH;obtain⟨its2,r2,⟨⟨cls2,dd2,data2,sl2⟩,n2,ho2,hc2,_,hd2⟩,z2⟩:=I.list hB;simp only at hc hd hc2 hd2;subst hc hd hc2 hd2;have e1:=r.length;have e2:=r2.length;refine concat_meets ⟨_,ho,rfl⟩ ⟨_,ho2,rfl⟩ noFill_list_add seq_list_add PySem.F.slot_list_add PySem.F.entry_list_add (PySem.F.args_list_add_2 _ _) (list_addW l b its.toArray its2.toArray n n2 dd dd2 sl sl2 (by simp;lia)) ⟨ho,ho2,?_⟩;have ea:its.toArray++its2.toArray=(its++its2).toArray:=by simp
 rw[ea];exact⟨.ref _,_,I.lnew (t':=s.toks) (r.append r2) (by rw[yB];lia),rfl,q _ I.fresh⟩
noncomputable def zct(K:Fg):R2:=λx y H Q=>zld1 K x y H Q \/ zyd1 K x y H Q
theorem za1(hK:X.K=K):OpR X (binaryOp .Add) (zct K):=(zf31 hK).or (zo41 hK)
noncomputable def rIsS(K:Fg):List V->Hp->VK->Prop:=λvs H Q=>∃a cV c b,vs=[.ref a,cV]/\clsV cV=some c/\(((∃xs,SqL K H a xs)/\PySem.W.kitOne K (.type "list") c=some b) \/ ((∃xs,SqT K H a xs)/\PySem.W.kitOne K (.type "tuple") c=some b))/\Q (.bl b) H
theorem zsz(h:X.K=K):CallR X (.builtin "isinstance") (rIsS K):=by
 subst h;intro pins s Y H xs us Q I r h;obtain⟨a,cV,c,b,rfl,rc,hh,q⟩:=h;obtain⟨u,v,rfl,ru,rv⟩:=r.two;obtain rfl:=zok rc rv;cases (show u=u7 a from ru);rcases hh with⟨⟨xs,hx⟩,e⟩|⟨⟨xs,hx⟩,e⟩
 ·obtain⟨its,_,⟨o,n,ho,hc,_,hd⟩,_⟩:=I.list hx;exact PySem.W.kia_one PySem.W.kitx_list I.kIn ⟨o,ho,hc⟩ e (λz=>nomatch z) λtk=>⟨.bl b,H,I.tok tk,rfl,q⟩
 ·obtain⟨its,_,⟨o,h1,h2,_⟩,_⟩:=I.tuple hx;exact PySem.W.kia_one PySem.W.kitx_tuple I.kIn ⟨o,h1,h2⟩ e (λz=>nomatch z) λtk=>⟨.bl b,H,I.tok tk,rfl,q⟩
noncomputable def rIsW(K:Fg):List V->Hp->VK->Prop:=λvs H Q=>rIsI K vs H Q \/ rIsS K vs H Q
theorem zee(h:X.K=K):CallR X (.builtin "isinstance") (rIsW K):=(zun h).or (zsz h)
end
theorem IsAll.dlen{K:Fg}{F:Hp}:∀{xs:List V}{ds:List PyData},IsAll K F xs ds->xs.length=ds.length
|_,_,.nil=>rfl
|_,_,.cons _ r=>congrArg (·+1) (IsAll.dlen r)
theorem IsAll.dget{K:Fg}{F:Hp}:∀{xs:List V}{ds:List PyData}{i:Nat}{d:PyData},IsAll K F xs ds->ds[i]?=some d->∃x,xs[i]?=some x/\Is K F x d
|_,_,_,_,.nil,e=>by simp at e
|_,_,0,_,.cons h _,e=>by simp at e;subst e;exact⟨_,rfl,h⟩
|_,_,i+1,d,.cons _ r,e=>by
  obtain⟨x,h1,h2⟩:=IsAll.dget (i:=i) (d:=d) r (by simpa using e);exact⟨x,by simpa using h1,h2⟩
theorem IsAll.dapp{K:Fg}{F:Hp}:∀{xs ys:List V}{ds es:List PyData},IsAll K F xs ds->IsAll K F ys es->IsAll K F (xs++ys) (ds++es)
|_,_,_,_,.nil,s=>s
|_,_,_,_,.cons h r,s=>.cons h (IsAll.dapp r s)
theorem IsAll.dtake{K:Fg}{F:Hp}:∀(n:Nat){xs:List V}{ds:List PyData},IsAll K F xs ds->IsAll K F (xs.take n) (ds.take n)
|0,_,_,_=>.nil
|_+1,_,_,.nil=>.nil
|n+1,_,_,.cons h r=>.cons h (IsAll.dtake n r)
theorem IsAll.ddrop{K:Fg}{F:Hp}:∀(n:Nat){xs:List V}{ds:List PyData},IsAll K F xs ds->IsAll K F (xs.drop n) (ds.drop n)
|0,_,_,h=>h
|_+1,_,_,.nil=>.nil
|n+1,_,_,.cons _ r=>IsAll.ddrop n r
theorem IsAll.dset{K:Fg}{F:Hp}{x:V}{d:PyData}(hx:Is K F x d):∀(n:Nat){xs:List V}{ds:List PyData},IsAll K F xs ds->IsAll K F (xs.set n x) (ds.set n d)
|_,_,_,.nil=>.nil
|0,_,_,.cons _ r=>.cons hx r
|n+1,_,_,.cons h r=>.cons h (IsAll.dset hx n r)
theorem Is.list_inv{F:Hp}{v:V}(h:Is K F v (.list ds)):∃a xs,v=.ref a/\SqL K F a xs/\IsAll K F xs ds:=by
 cases h with
|lst h1 h2=>exact⟨_,_,rfl,h1,h2⟩
theorem Is.tuple_inv{F:Hp}{v:V}(h:Is K F v (.tuple ds)):∃a xs,v=.ref a/\SqT K F a xs/\IsAll K F xs ds:=by
 cases h with
|tup h1 h2=>exact⟨_,_,rfl,SqT.of h1,h2⟩
|tuc h1 h2 _=>exact⟨_,_,rfl,h1,h2⟩
theorem Is.int_inv{F:Hp}{v:V}{i:Int}(h:Is K F v (.int i)):v=.int i:=by cases h;rfl
theorem Is.bl_inv{F:Hp}{v:V}{b:Bool}(h:Is K F v (.bool b)):v=.bl b:=by cases h;rfl
theorem Is.str_inv{F:Hp}{v:V}{b:Str}(h:Is K F v (.str b)):v=.str b:=by cases h;rfl
theorem Is.non_inv{F:Hp}{v:V}(h:Is K F v .none):v=.non:=by cases h;rfl
end _3
namespace _4
open PySem PySem.Spec PyProof.Rows _2 _3
variable {F' H':Hp}{K:Fg}{a p:Addr}{fp fq:List Addr}{x:V}{xs:List V}
noncomputable abbrev D:=PyData
structure Ext(F H F' H':Hp):Prop where
 h:Same H H'
 f:Same F F'
 fh:Same F' H'
 nw:∀a,H a≠none->F a=none->F' a=none
theorem Ext.refl{F H:Hp}(s:Same F H):Ext F H F H:=⟨λ_ _ z=>z,λ_ _ z=>z,s,λ_ _ z=>z⟩
theorem Ext.trans{F H F1 H1 F2 H2:Hp}(a:Ext F H F1 H1)(b:Ext F1 H1 F2 H2):Ext F H F2 H2 :=
 ⟨a.h.trans b.h,a.f.trans b.f,b.fh,λc hc fc=>b.nw c (λz=>by
  cases e:H c with
 |none=>exact hc e
 |some o=>rw[a.h c o e]at z;cases z) (a.nw c hc fc)⟩
inductive T where
|fz (d:D)|li (ds:List D)|ls (ts:List T)|ob (C:Addr) (fs:List (Str×T))|dk (kvs:List (Key×D))|dt (kvs:List (List Key×D))|tp (ts:List T)
inductive KvIs(K:Fg)(F:Hp){κ:Type}:List (κ×V)->List (κ×D)->Prop
|nil:KvIs K F [] []
|cons {k:κ} {v:V} {d:D} {r:List (κ×V)} {s:List (κ×D)}:Is K F v d->KvIs K F r s->KvIs K F ((k,v) :: r) ((k,d) :: s)
theorem KvIs.mono{K:Fg}{F F':Hp}{κ:Type}(s:Same F F'):∀{r:List (κ×V)}{t:List (κ×D)},KvIs K F r t->KvIs K F' r t
|_,_,.nil=>.nil
|_,_,.cons h r=>.cons (h.mono s) (r.mono s)
mutual
inductive Rt(K:Fg)(F H:Hp):V->T->List Addr->Prop
|fz {v:V} {d:D}:Is K F v d->Rt K F H v (.fz d) []
|li {a:Addr} {xs:List V} {ds:List D}:H a=some (.lst xs)->F a=none->IsAll K F xs ds->Rt K F H (.ref a) (.li ds) [a]
|ls {a:Addr} {xs:List V} {ts:List T} {fp:List Addr}:H a=some (.lst xs)->F a=none->RtAll K F H xs ts fp->Rt K F H (.ref a) (.ls ts) (a :: fp)
|ob {a C dx:Addr} {fs:List (Str×V)} {ts:List (Str×T)} {fp:List Addr}:H a=some (.ins C dx fs)->H dx=some (.own a)->F a=none->F dx=none->RtFs K F H fs ts fp->Rt K F H (.ref a) (.ob C ts) (a :: dx :: fp)
|dk {a:Addr} {kvs:List (Key×V)} {ds:List (Key×D)}:H a=some (.dK kvs)->F a=none->KvIs K F kvs ds->Rt K F H (.ref a) (.dk ds) [a]
|dt {a:Addr} {kvs:List (List Key×V)} {ds:List (List Key×D)}:H a=some (.dT kvs)->F a=none->KvIs K F kvs ds->Rt K F H (.ref a) (.dt ds) [a]
|tp {a:Addr} {xs:List V} {ts:List T} {fp:List Addr}:H a=some (.tup xs)->F a=none->RtAll K F H xs ts fp->Rt K F H (.ref a) (.tp ts) (a :: fp)
inductive RtAll(K:Fg)(F H:Hp):List V->List T->List Addr->Prop
|nil:RtAll K F H [] [] []
|cons {x:V} {t:T} {xs:List V} {ts:List T} {fp fq:List Addr}:Rt K F H x t fp->RtAll K F H xs ts fq->RtAll K F H (x :: xs) (t :: ts) (fp++fq)
inductive RtFs(K:Fg)(F H:Hp):List (Str×V)->List (Str×T)->List Addr->Prop
|nil:RtFs K F H [] [] []
|cons {f:Str} {x:V} {t:T} {xs:List (Str×V)} {ts:List (Str×T)} {fp fq:List Addr}:Rt K F H x t fp->RtFs K F H xs ts fq->RtFs K F H ((f,x) :: xs) ((f,t) :: ts) (fp++fq)
end
section
variable {K:Fg}{F H F' H':Hp}
theorem Rt.ind{P : V → T → List Addr → Prop}{Q : List V → List T → List Addr → Prop}{R : List (Str × V) → List (Str × T) → List Addr → Prop}
    (c1 : ∀{v : V}{d : D}, Is K F v d → P v (.fz d) [])
    (c2 : ∀{a : Addr}{xs : List V}{ds : List D}, H a = some (.lst xs) → F a = none → IsAll K F xs ds → P (.ref a) (.li ds) [a])
    (c3 : ∀{a : Addr}{xs : List V}{ts : List T}{fp : List Addr}, H a = some (.lst xs) → F a = none → Q xs ts fp → P (.ref a) (.ls ts) (a :: fp))
    (c4 : ∀{a C dx : Addr}{fs : List (Str × V)}{ts : List (Str × T)}{fp : List Addr}, H a = some (.ins C dx fs) → H dx = some (.own a) → F a = none → F dx = none → R fs ts fp → P (.ref a) (.ob C ts) (a :: dx :: fp))
    (c5 : ∀{a : Addr}{kvs : List (Key × V)}{ds : List (Key × D)}, H a = some (.dK kvs) → F a = none → KvIs K F kvs ds → P (.ref a) (.dk ds) [a])
    (c6 : ∀{a : Addr}{kvs : List (List Key × V)}{ds : List (List Key × D)}, H a = some (.dT kvs) → F a = none → KvIs K F kvs ds → P (.ref a) (.dt ds) [a])
    (ct : ∀{a : Addr}{xs : List V}{ts : List T}{fp : List Addr}, H a = some (.tup xs) → F a = none → Q xs ts fp → P (.ref a) (.tp ts) (a :: fp))
    (c7 : Q [] [] []) (c8 : ∀{x : V}{t : T}{xs : List V}{ts : List T}{fp fq : List Addr}, P x t fp → Q xs ts fq → Q (x :: xs) (t :: ts) (fp ++ fq))
    (c9 : R [] [] []) (c0 : ∀{f : Str}{x : V}{t : T}{xs : List (Str × V)}{ts : List (Str × T)}{fp fq : List Addr}, P x t fp → R xs ts fq → R ((f, x) :: xs) ((f, t) :: ts) (fp ++ fq)) :
    (∀{v : V}{t : T}{fp : List Addr}, Rt K F H v t fp → P v t fp) ∧ (∀{v : List V}{t : List T}{fp : List Addr}, RtAll K F H v t fp → Q v t fp) ∧ (∀{v : List (Str × V)}{t : List (Str × T)}{fp : List Addr}, RtFs K F H v t fp → R v t fp) :=
  ⟨fun h => Rt.rec (motive_1 := fun v t fp _ => P v t fp) (motive_2 := fun v t fp _ => Q v t fp) (motive_3 := fun v t fp _ => R v t fp) c1 c2 (fun a b _ => c3 a b) (fun a b c d _ => c4 a b c d) c5 c6 (fun a b _ => ct a b) c7 (fun _ _ => c8) c9 (fun _ _ => c0) h,
   fun h => RtAll.rec (motive_1 := fun v t fp _ => P v t fp) (motive_2 := fun v t fp _ => Q v t fp) (motive_3 := fun v t fp _ => R v t fp) c1 c2 (fun a b _ => c3 a b) (fun a b c d _ => c4 a b c d) c5 c6 (fun a b _ => ct a b) c7 (fun _ _ => c8) c9 (fun _ _ => c0) h,
   fun h => RtFs.rec (motive_1 := fun v t fp _ => P v t fp) (motive_2 := fun v t fp _ => Q v t fp) (motive_3 := fun v t fp _ => R v t fp) c1 c2 (fun a b _ => c3 a b) (fun a b c d _ => c4 a b c d) c5 c6 (fun a b _ => ct a b) c7 (fun _ _ => c8) c9 (fun _ _ => c0) h⟩
noncomputable def Keep(F' H H':Hp)(fp:List Addr):Prop:=∀a∈fp,H' a=H a/\F' a=none
theorem Keep.hd{o:HO}(k:Keep F' H H' (a :: fp))(h:H a=some o):H' a=some o:=(k a wJ).1.trans h
theorem Keep.no(k:Keep F' H H' (a :: fp)):F' a=none:=(k a wJ).2
theorem Keep.tl(k:Keep F' H H' (a :: fp)):Keep F' H H' fp:=λb hb=>k b (v8 _ hb)
theorem Keep.l(k:Keep F' H H' (fp++fq)):Keep F' H H' fp:=λb hb=>k b (xN _ hb)
theorem Keep.r(k:Keep F' H H' (fp++fq)):Keep F' H H' fq:=λb hb=>k b (xB _ hb)
theorem zxj(s:Same F F'):(∀{v:V}{t:T}{fp:List Addr},Rt K F H v t fp->Keep F' H H' fp->Rt K F' H' v t fp)/\(∀{v:List V}{t:List T}{fp:List Addr},RtAll K F H v t fp->Keep F' H H' fp->RtAll K F' H' v t fp)/\(∀{v:List (Str×V)}{t:List (Str×T)}{fp:List Addr},RtFs K F H v t fp->Keep F' H H' fp->RtFs K F' H' v t fp) :=
 Rt.ind (P:=λv t fp=>Keep F' H H' fp->Rt K F' H' v t fp) (Q:=λv t fp=>Keep F' H H' fp->RtAll K F' H' v t fp) (R:=λv t fp=>Keep F' H H' fp->RtFs K F' H' v t fp)
  (λh _=>.fz (h.mono s)) (λh _ i k=>.li (k.hd h) k.no (i.mono s)) (λh _ i k=>.ls (k.hd h) k.no (i k.tl)) (λh h2 _ _ i k=>.ob (k.hd h) (k.tl.hd h2) k.no k.tl.no (i k.tl.tl))
  (λh _ i k=>.dk (k.hd h) k.no (i.mono s)) (λh _ i k=>.dt (k.hd h) k.no (i.mono s)) (λh _ i k=>.tp (k.hd h) k.no (i k.tl)) (λ_=>.nil) (λa b k=>.cons (a k.l) (b k.r)) (λ_=>.nil) (λa b k=>.cons (a k.l) (b k.r))
theorem Rt.frame(s:Same F F'){v:V}{t:T}(h:Rt K F H v t fp)(k:∀a∈fp,H' a=H a/\F' a=none):Rt K F' H' v t fp:=(zxj s).1 h k
theorem RtAll.frame(s:Same F F'){v:List V}{t:List T}(h:RtAll K F H v t fp)(k:∀a∈fp,H' a=H a/\F' a=none):RtAll K F' H' v t fp:=(zxj s).2.1 h k
theorem RtFs.frame(s:Same F F'){v:List (Str×V)}{t:List (Str×T)}(h:RtFs K F H v t fp)(k:∀a∈fp,H' a=H a/\F' a=none):RtFs K F' H' v t fp:=(zxj s).2.2 h k
noncomputable def Dom(F H:Hp)(fp:List Addr):Prop:=∀a∈fp,H a≠none/\F a=none
theorem Dom.nil:Dom F H []:=λ_ h=>nomatch h
theorem Dom.cons{a:Addr}{o:HO}{fp:List Addr}(h:H a=some o)(f:F a=none)(r:Dom F H fp):Dom F H (a :: fp):=λb hb=>by
 rcases v6.mp hb with e|e
 ·rw[e];exact⟨λz=>(by rw[h]at z;cases z),f⟩
 ·exact r b e
theorem Dom.app(a:Dom F H fp)(b:Dom F H fq):Dom F H (fp++fq):=λc hc=>(u6.mp hc).elim (a c) (b c)
theorem zr01:(∀{v:V}{t:T}{fp:List Addr},Rt K F H v t fp->Dom F H fp)/\(∀{v:List V}{t:List T}{fp:List Addr},RtAll K F H v t fp->Dom F H fp)/\(∀{v:List (Str×V)}{t:List (Str×T)}{fp:List Addr},RtFs K F H v t fp->Dom F H fp) :=
 Rt.ind (P:=λ_ _ fp=>Dom F H fp) (Q:=λ_ _ fp=>Dom F H fp) (R:=λ_ _ fp=>Dom F H fp) (λ_=>.nil) (λh f _=>.cons h f .nil) (λh f r=>.cons h f r) (λh h2 f f2 r=>.cons h f (.cons h2 f2 r))
  (λh f _=>.cons h f .nil) (λh f _=>.cons h f .nil) (λh f r=>.cons h f r) .nil .app .nil .app
theorem Rt.dom{v:V}{t:T}(h:Rt K F H v t fp):∀a∈fp,H a≠none/\F a=none:=zr01.1 h
theorem RtAll.dom{v:List V}{t:List T}(h:RtAll K F H v t fp):∀a∈fp,H a≠none/\F a=none:=zr01.2.1 h
theorem RtFs.dom{v:List (Str×V)}{t:List (Str×T)}(h:RtFs K F H v t fp):∀a∈fp,H a≠none/\F a=none:=zr01.2.2 h
end
theorem Rt.ext{F H:Hp}{v:V}{t:T}(e:Ext F H F' H')(h:Rt K F H v t fp):Rt K F' H' v t fp :=
 h.frame e.f λa ha=>by
  obtain⟨h1,h2⟩:=h.dom a ha;cases q:H a with
 |none=>exact absurd q h1
 |some o=>exact⟨e.h a o q,e.nw a h1 h2⟩
inductive Sl where
|un|sh (d:D)|ow (t:T)|bo (t:T)|io (a:Addr) (t:T)
noncomputable abbrev DSt:=List Sl
noncomputable abbrev DE:=DSt->(D->Prop)->Prop
noncomputable abbrev DF:=DSt->(List D->Prop)->Prop
noncomputable abbrev DT:=DSt->(Bool->Prop)->Prop
noncomputable def RSl(K:Fg)(F H:Hp)(v:Option V):Sl->Prop
|.un=>True
|.sh d=>∃x,v=some x/\Is K F x d
|.ow t=>∃x fp,v=some x/\Rt K F H x t fp/\fp.Nodup
|.bo t=>∃x fp,v=some x/\Rt K F H x t fp/\fp.Nodup
|.io a t=>∃fp,v=some (.ref a)/\Rt K F H (.ref a) t fp/\fp.Nodup
theorem RSl.ext{K:Fg}{F H F' H':Hp}{v:Option V}(e:Ext F H F' H'):∀{s:Sl},RSl K F H v s->RSl K F' H' v s
|.un,_=>trivial
|.sh _,⟨x,a,b⟩=>⟨x,a,b.mono e.f⟩
|.ow _,⟨a,xs,h1,h2,h3⟩=>⟨a,xs,h1,h2.ext e,h3⟩
|.bo _,⟨a,xs,h1,h2,h3⟩=>⟨a,xs,h1,h2.ext e,h3⟩
|.io _ _,⟨xs,h1,h2,h3⟩=>⟨xs,h1,h2.ext e,h3⟩
structure RV(K:Fg)(F H:Hp)(Y:_2.St)(U:DSt):Prop where
 len:Y.length=U.length
 sl:∀i s,U[i]?=some s->RSl K F H (Y.getD i none) s
theorem RV.ext{K:Fg}{F H F' H':Hp}{Y:_2.St}{U:DSt}(e:Ext F H F' H')(r:RV K F H Y U):RV K F' H' Y U:=⟨r.len,λi s h=>(r.sl i s h).ext e⟩
noncomputable def Vw(K:Fg)(F H:Hp)(v:V)(d:D):Prop:=Is K F v d \/ ∃a xs ds,v=.ref a/\d=.list ds/\H a=some (.lst xs)/\IsAll K F xs ds
theorem Vw.ext{F H:Hp}{v:V}{d:D}(e:Ext F H F' H')(h:Vw K F H v d):Vw K F' H' v d:=by
 rcases h with h|⟨a,xs,ds,h1,h2,h3,h4⟩
 ·exact .inl (h.mono e.f)
 ·exact .inr ⟨a,xs,ds,h1,h2,e.h _ _ h3,h4.mono e.f⟩
theorem Vw.is{F H:Hp}{v:V}{d:D}(s:Same F H)(h:Vw K F H v d):Is K H v d:=by
 rcases h with h|⟨a,xs,ds,rfl,rfl,h3,h4⟩
 ·exact h.mono s
 ·exact .lst (SqL.of h3) (h4.mono s)
theorem Vw.list{K:Fg}{F H:Hp}{v:V}{ds:List D}(s:Same F H)(h:Vw K F H v (.list ds)):∃a xs,v=.ref a/\SqL K H a xs/\IsAll K F xs ds:=by
 rcases h with h|⟨a,xs,ds',rfl,e,h3,h4⟩
 ·cases h with
 |lst h1 h2=>exact⟨_,_,rfl,s.seq h1,h2⟩
 ·cases e;exact⟨a,xs,rfl,SqL.of h3,h4⟩
theorem Vw.tuple{K:Fg}{F H:Hp}{v:V}{ds:List D}(s:Same F H)(h:Vw K F H v (.tuple ds)):∃a xs,v=.ref a/\SqT K H a xs/\SqT K F a xs/\IsAll K F xs ds:=by
 rcases h with h|⟨a,xs,ds',rfl,e,h3,h4⟩
 ·cases h with
 |tup h1 h2=>exact⟨_,_,rfl,zji s (SqT.of h1),SqT.of h1,h2⟩
 |tuc h1 h2 _=>exact⟨_,_,rfl,zji s h1,h1,h2⟩
 ·cases e
theorem Vw.int{K:Fg}{F H:Hp}{v:V}{i:Int}(h:Vw K F H v (.int i)):v=.int i:=by
 rcases h with h|⟨a,xs,ds',rfl,e,h3,h4⟩
 ·exact h.int_inv
 ·cases e
theorem Vw.str{K:Fg}{F H:Hp}{v:V}{i:Str}(h:Vw K F H v (.str i)):v=.str i:=by
 rcases h with h|⟨a,xs,ds',rfl,e,h3,h4⟩
 ·exact h.str_inv
 ·cases e
theorem Vw.bl{K:Fg}{F H:Hp}{v:V}{i:Bool}(h:Vw K F H v (.bool i)):v=.bl i:=by
 rcases h with h|⟨a,xs,ds',rfl,e,h3,h4⟩
 ·exact h.bl_inv
 ·cases e
section
variable (K:Fg)
noncomputable def RfE(te:TE)(de:DE):Prop:=∀{F H:Hp}{Y:_2.St}{U:DSt}{Qd:D->Prop}{Q:VK},Same F H->RV K F H Y U->de U Qd->(∀d,Qd d->∀v F' H',Ext F H F' H'->Is K F' v d->Q v H')->te Y H Q
noncomputable def RfV(te:TE)(de:DE):Prop:=∀{F H:Hp}{Y:_2.St}{U:DSt}{Qd:D->Prop}{Q:VK},Same F H->RV K F H Y U->de U Qd->(∀d,Qd d->∀v F' H',Ext F H F' H'->Vw K F' H' v d->Q v H')->te Y H Q
noncomputable def RfF(te:TE)(df:DF):Prop:=∀{F H:Hp}{Y:_2.St}{U:DSt}{Qd:List D->Prop}{Q:VK},Same F H->RV K F H Y U->df U Qd->(∀ds,Qd ds->∀a xs F' H',Ext F H F' H'->H a=none->H' a=some (.lst xs)->F' a=none->IsAll K F' xs ds->Q (.ref a) H')->te Y H Q
noncomputable def RfT(tt:TT)(dt:DT):Prop:=∀{F H:Hp}{Y:_2.St}{U:DSt}{Qd:Bool->Prop}{Q:Bool->Hp->Prop},Same F H->RV K F H Y U->dt U Qd->(∀b,Qd b->∀F' H',Ext F H F' H'->Q b H')->tt Y H Q
noncomputable def RfA(ta:TA)(da:DF):Prop:=∀{F H:Hp}{Y:_2.St}{U:DSt}{Qd:List D->Prop}{Q:List V->Hp->Prop},Same F H->RV K F H Y U->da U Qd->(∀ds,Qd ds->∀vs F' H',Ext F H F' H'->IsAll K F' vs ds->Q vs H')->ta Y H Q
inductive VwAll(F H:Hp):List V->List D->Prop
|nil:VwAll F H [] []
|cons {v:V} {d:D} {vs:List V} {ds:List D}:Vw K F H v d->VwAll F H vs ds->VwAll F H (v :: vs) (d :: ds)
noncomputable def RfAV(ta:TA)(da:DF):Prop:=∀{F H:Hp}{Y:_2.St}{U:DSt}{Qd:List D->Prop}{Q:List V->Hp->Prop},Same F H->RV K F H Y U->da U Qd->(∀ds,Qd ds->∀vs F' H',Ext F H F' H'->VwAll K F' H' vs ds->Q vs H')->ta Y H Q
noncomputable def RfO(to:TO)(dO:DSt->(Option Int->Prop)->Prop):Prop:=∀{F H:Hp}{Y:_2.St}{U:DSt}{Qd:Option Int->Prop}{Q:Option Int->Hp->Prop},Same F H->RV K F H Y U->dO U Qd->(∀o,Qd o->∀F' H',Ext F H F' H'->Q o H')->to Y H Q
end
section
variable {K:Fg}{te ta tb tc:TE}{de da db dc:DE}{tt tu:TT}{dt du:DT}{tA:TA}{dA:DF}
theorem zos{F H:Hp}{ds:List D}(e:Ext F H F' H')(hn:H a=none)(h1:H' a=some (.lst xs))(h2:F' a=none)(h3:IsAll K F' xs ds) :
  Ext F H (upd F' a (.lst xs)) H'/\Is K (upd F' a (.lst xs)) (.ref a) (.list ds):=by
 have s:Same F' (upd F' a (.lst xs)):=λb o z=>by
  by_cases hb:b=a
  ·subst hb;rw[h2]at z;cases z
  ·rw[zm0 hb];exact z
 refine⟨⟨e.h,e.f.trans s,λb o z=>?_,λb hb fb=>?_⟩,.lst (SqL.of zj0) (h3.mono s)⟩
 ·by_cases hb:b=a
  ·subst hb;rw[zj0]at z;cases z;exact h1
  ·rw[zm0 hb]at z;exact e.fh b o z
 ·have:b≠a:=λz=>hb (by rw[z];exact hn);rw[zm0 this];exact e.nw b hb fb
theorem zjg{F H:Hp}{ds:List D}(s:Same F H)(hn:H p=none)(h3:IsAll K F xs ds) :
  Ext F H (upd F p (.tup xs)) (upd H p (.tup xs))/\Is K (upd F p (.tup xs)) (.ref p) (.tuple ds):=by
 have fn:F p=none:=by
  cases e:F p with
 |none=>rfl
 |some o=>rw[s p o e]at hn;cases hn
 have sF:Same F (upd F p (.tup xs)):=zy2 fn _;refine⟨⟨zy2 hn _,sF,λb o z=>?_,λb hb fb=>?_⟩,.tup zj0 (h3.mono sF)⟩
 ·by_cases hb:b=p
  ·subst hb;rw[zj0]at z ⊢;exact z
  ·rw[zm0 hb]at z ⊢;exact s b o z
 ·have:b≠p:=λz=>hb (by rw[z];exact hn);rw[zm0 this];exact fb
theorem zq8{F H:Hp}(s:Same F H)(hn:H p=none):Ext F H F (upd H p (.lst xs))/\F p=none:=by
 have fn:F p=none:=by
  cases e:F p with
 |none=>rfl
 |some o=>rw[s p o e]at hn;cases hn
 refine⟨⟨zy2 hn _,λ_ _ z=>z,λb o z=>?_,λ_ _ z=>z⟩,fn⟩;exact zy2 hn _ b o (s b o z)
theorem RfE.v(h:RfE K te de):RfV K te de:=λs r d k=>h s r d λx q v F' H' e i=>k x q v F' H' e (.inl i)
noncomputable def dF(df:DF):DE:=λU Q=>df U λds=>Q (.list ds)
theorem RfF.e{df:DF}(h:RfF K te df):RfE K te (dF df):=λs r d k=>h s r d λds q a xs F' H' e hn h1 h2 h3=>by
 obtain⟨e2,i2⟩:=zos e hn h1 h2 h3;exact k _ q _ _ _ e2 i2
noncomputable def Sl.tree:Sl->Option T
|.ow t=>some t
|.bo t=>some t
|.io _ t=>some t
|.sh d=>some (.fz d)
|.un=>none
noncomputable def fzT:T->(D->Prop)->Prop
|.fz d,Q=>Q d
|_,_=>False
noncomputable def vwT:T->(D->Prop)->Prop
|.fz d,Q=>Q d
|.li ds,Q=>Q (.list ds)
|_,_=>False
noncomputable def slT:Sl->(T->Prop)->Prop
|.sh d,N=>N (.fz d)
|.ow t,N=>N t
|.bo t,N=>N t
|.io _ t,N=>N t
|.un,_=>False
noncomputable def pAt:DSt->Nat->(T->Prop)->Prop
|[],_,_=>False
|s :: _,0,N=>slT s N
|_ :: U,i+1,N=>pAt U i N
theorem zrc1{s:Sl}{N:T->Prop}(h:slT s N):∃t,s.tree=some t/\N t:=by
 cases s with
|un=>exact h.elim
|sh d=>exact⟨_,rfl,h⟩
|ow t=>exact⟨_,rfl,h⟩
|bo t=>exact⟨_,rfl,h⟩
|io a t=>exact⟨_,rfl,h⟩
theorem zrt{N:T->Prop}:∀{U:DSt}{i:Nat},pAt U i N->∃s t,U[i]?=some s/\s.tree=some t/\N t
|s :: _,0,h=>by
  obtain⟨t,h1,h2⟩:=zrc1 h;exact⟨s,t,rfl,h1,h2⟩
|_ :: U,i+1,h=>zrt (U:=U) (i:=i) h
theorem zy71{N:T->Prop}{s:Sl}{t:T}:∀{U:DSt}{i:Nat},U[i]?=some s->s.tree=some t->N t->pAt U i N
|x :: _,0,h1,h2,h=>by
  cases h1;cases s <;> cases h2 <;> exact h
|_ :: U,i+1,h1,h2,h=>zy71 (U:=U) (i:=i) h1 h2 h
noncomputable def dVar(i:Nat):DE:=λU Q=>pAt U i λt=>fzT t Q
noncomputable def zsg(i:Nat):DE:=λU Q=>pAt U i λt=>vwT t Q
theorem zff{F H:Hp}{Y:_2.St}{U:DSt}{i:Nat}(e:Y.getD i none=some x):Y[i]?=some (some x):=by
 rw[v7]at e;cases q:Y[i]? with
|none=>rw[q]at e;cases e
|some v=>rw[q]at e;exact congrArg some e
theorem RSl.rt{F H:Hp}{v:Option V}:∀{s:Sl}{t:T},RSl K F H v s->s.tree=some t->∃x fp,v=some x/\Rt K F H x t fp/\fp.Nodup
|.un,_,_,e=>by cases e
|.sh d,_,⟨x,h1,h2⟩,e=>by cases e;exact⟨x,[],h1,.fz h2,.nil⟩
|.ow _,_,⟨x,fp,h1,h2⟩,e=>by cases e;exact⟨x,fp,h1,h2⟩
|.bo _,_,⟨x,fp,h1,h2⟩,e=>by cases e;exact⟨x,fp,h1,h2⟩
|.io a _,_,⟨fp,h1,h2⟩,e=>by cases e;exact⟨_,fp,h1,h2⟩
theorem zgf1{F H:Hp}{t:T}{Q:D->Prop}(h:Rt K F H x t fp)(q:vwT t Q):∃d,Q d/\Vw K F H x d:=by
 cases h with
|fz i=>exact⟨_,q,.inl i⟩
|li h1 h2 h3=>exact⟨_,q,.inr ⟨_,_,_,rfl,rfl,h1,h3⟩⟩
|ls _ _ _=>exact q.elim
|ob _ _ _ _ _=>exact q.elim
|dk _ _ _=>exact q.elim
|dt _ _ _=>exact q.elim
|tp _ _ _=>exact q.elim
theorem zn21{F H:Hp}{t:T}{Q:D->Prop}(h:Rt K F H x t fp)(q:fzT t Q):∃d,Q d/\Is K F x d:=by
 cases h with
|fz i=>exact⟨_,q,i⟩
|li _ _ _=>exact q.elim
|ls _ _ _=>exact q.elim
|ob _ _ _ _ _=>exact q.elim
|dk _ _ _=>exact q.elim
|dt _ _ _=>exact q.elim
|tp _ _ _=>exact q.elim
theorem zn0(i:Nat):RfE K (tVar i) (dVar i):=by
 intro F H Y U Qd Q s r h k;obtain⟨sl,t,q,et,f⟩:=zrt h;obtain⟨x,fp,e,hr,_⟩:=(r.sl i _ q).rt et;obtain⟨d,qd,hi⟩:=zn21 hr f;exact⟨x,zff (F:=F) (H:=H) (U:=U) e,k d qd x F H (Ext.refl s) hi⟩
theorem zb0(i:Nat):RfV K (tVar i) (zsg i):=by
 intro F H Y U Qd Q s r h k;obtain⟨sl,t,q,et,f⟩:=zrt h;obtain⟨x,fp,e,hr,_⟩:=(r.sl i _ q).rt et;obtain⟨d,qd,hi⟩:=zgf1 hr f;exact⟨x,zff (F:=F) (H:=H) (U:=U) e,k d qd x F H (Ext.refl s) hi⟩
noncomputable def dC(d:D):DE:=λ_ Q=>Q d
theorem zr0{i:Int}:RfE K (tC (.int i)) (dC (.int i)):=λs r h k=>k _ h _ _ _ (Ext.refl s) (.int i)
theorem zhd{b:Bool}:RfE K (tC (.bl b)) (dC (.bool b)):=λs r h k=>k _ h _ _ _ (Ext.refl s) (.bl b)
theorem zni{x:Str}:RfE K (tC (.str x)) (dC (.str x)):=λs r h k=>k _ h _ _ _ (Ext.refl s) (.str x)
noncomputable def dOp(f:D->D->(D->Prop)->Prop)(da db:DE):DE:=λU Q=>da U λx=>db U λy=>f x y Q
noncomputable def R2E(K:Fg)(r:R2)(f:D->D->(D->Prop)->Prop):Prop:=∀{F H:Hp}{x y:V}{d e:D}{Qd:D->Prop}{Q:VK},Same F H->Vw K F H x d->Vw K F H y e->f d e Qd->(∀z,Qd z->∀v F' H',Ext F H F' H'->Is K F' v z->Q v H')->r x y H Q
noncomputable def R2F(K:Fg)(r:R2)(f:D->D->(List D->Prop)->Prop):Prop:=∀{F H:Hp}{x y:V}{d e:D}{Qd:List D->Prop}{Q:VK},Same F H->Vw K F H x d->Vw K F H y e->f d e Qd->(∀ds,Qd ds->∀a xs F' H',Ext F H F' H'->H a=none->H' a=some (.lst xs)->F' a=none->IsAll K F' xs ds->Q (.ref a) H')->r x y H Q
theorem zk0{r:R2}{f:D->D->(D->Prop)->Prop}(hr:R2E K r f)(ha:RfV K ta da)(hb:RfV K tb db):RfE K (tOp r ta tb) (dOp f da db):=by
 intro F H Y U Qd Q s rv h k;refine ha s rv h λx hx v F1 H1 e1 i1=>hb e1.fh (rv.ext e1) hx λy hy u F2 H2 e2 i2=>?_;exact hr e2.fh (i1.ext e2) i2 hy λz hz w F3 H3 e3 i3=>k z hz w F3 H3 ((e1.trans e2).trans e3) i3
noncomputable def dOpF(f:D->D->(List D->Prop)->Prop)(da db:DE):DF:=λU Q=>da U λx=>db U λy=>f x y Q
theorem zjd1{r:R2}{f:D->D->(List D->Prop)->Prop}(hr:R2F K r f)(ha:RfV K ta da)(hb:RfV K tb db):RfF K (tOp r ta tb) (dOpF f da db):=by
 intro F H Y U Qd Q s rv h k;refine ha s rv h λx hx v F1 H1 e1 i1=>hb e1.fh (rv.ext e1) hx λy hy u F2 H2 e2 i2=>?_;refine hr e2.fh (i1.ext e2) i2 hy λds hz a xs F3 H3 e3 hn h1 h2 h3=>k ds hz a xs F3 H3 ((e1.trans e2).trans e3) ?_ h1 h2 h3;cases q:H a with
|none=>rfl
|some o=>rw[(e1.trans e2).h a o q]at hn;cases hn
end
variable {C a dx:Addr}{E:XK}{F' H':Hp}{K:Fg}{N:DSt->Prop}{U U':DSt}{Y Y':_2.St}{df di:DF}{f m qual:Str}{fn fp fpr:List Addr}{fps:Nat->List Addr}{g:Int->Int->V}{gs:TGs}{i n:Nat}{ix:List Nat}{kv x y:V}{o:HO}{ps:List Str}{st:Stmt}{vs xs:List V}
section
variable {K:Fg}{te ta tb tc:TE}{de da db dc:DE}{tt tu:TT}{dt du:DT}{tA:TA}{dA:DF}{w:World}
noncomputable def fAdd:D->D->(D->Prop)->Prop
|.int i,.int j,Q=>Q (.int (i+j))
|.str a,.str b,Q=>a.length+b.length<=sizeLine/\Q (.str (a++b))
|.list a,.list b,Q=>a.length+b.length<=sizeLine/\Q (.list (a++b))
|.tuple a,.tuple b,Q=>a≠[]/\b≠[]/\a.length+b.length<=sizeLine/\Q (.tuple (a++b))
|_,_,_=>False
noncomputable def fCat:D->D->(List D->Prop)->Prop
|.list a,.list b,Q=>a.length+b.length<=sizeLine/\Q (a++b)
|_,_,_=>False
theorem zhf1:R2F K (zct K) fCat:=by
 intro F H x y d e Qd Q s hx hy h k;unfold fCat at h;split at h
 ·rename_i a b
  obtain⟨p,xs,rfl,h1,i1⟩:=hx.list s;obtain⟨q,ys,rfl,h2,i2⟩:=hy.list s;have e1:=i1.dlen;have e2:=i2.dlen;refine .inr ⟨p,q,xs,ys,rfl,rfl,h1,h2,by lia,λl hl=>?_⟩;obtain⟨ex,fn⟩:=zq8 (xs:=xs++ys) s hl;exact k _ h.2 l _ F _ ex hl zj0 fn (i1.dapp i2)
 ·exact h.elim
theorem zf6:R2E K (zct K) fAdd:=by
 intro F H x y d e Qd Q s hx hy h k;unfold fAdd at h;split at h
 ·cases hx.int;cases hy.int;exact .inl (.inl ⟨_,_,rfl,rfl,k _ h _ F H (Ext.refl s) (.int _)⟩)
 ·cases hx.str;cases hy.str;exact .inl (.inr (.inl ⟨_,_,rfl,rfl,h.1,k _ h.2 _ F H (Ext.refl s) (.str _)⟩))
 ·rename_i a b
  refine zhf1 (Qd:=λds=>Qd (.list ds)) s hx hy h λds q l xs F' H' ex hn h1 h2 h3=>?_;obtain⟨e2,i2⟩:=zos ex hn h1 h2 h3;exact k _ q _ _ _ e2 i2
 ·rename_i a b
  obtain⟨p,xs,rfl,h1,_,i1⟩:=hx.tuple s;obtain⟨q,ys,rfl,h2,_,i2⟩:=hy.tuple s;have e1:=i1.dlen;have e2:=i2.dlen;have n1:xs≠[]:=λz=>h.1 (zX.mp (by rw[<- e1,z];rfl));have n2:ys≠[]:=λz=>h.2.1 (zX.mp (by rw[<- e2,z];rfl));refine .inl (.inr (.inr (.inr ⟨p,q,xs,ys,rfl,rfl,h1,h2,n1,by lia,λz=>absurd z n2,λ_ l hl=>?_⟩)));obtain⟨ex,ii⟩:=zjg (K:=K) (ds:=a++b) s hl (i1.dapp i2);exact k _ h.2.2.2 _ _ _ ex ii
 ·exact h.elim
noncomputable def fI(C:Int->Int->Prop)(g:Int->Int->D):D->D->(D->Prop)->Prop
|.int i,.int j,Q=>C i j/\Q (g i j)
|_,_,_=>False
noncomputable def fI0(g:Int->Int->D):D->D->(D->Prop)->Prop
|.int i,.int j,Q=>Q (g i j)
|_,_,_=>False
theorem r_I{C:Int->Int->Prop}{g':Int->Int->D}(hg:∀i j (F:Hp),Is K F (g i j) (g' i j)):R2E K (rI C g) (fI C g'):=by
 intro F H x y d e Qd Q s hx hy h k;unfold fI at h;split at h
 ·cases hx.int;cases hy.int;exact⟨_,_,rfl,rfl,h.1,k _ h.2 _ F H (Ext.refl s) (hg _ _ _)⟩
 ·exact h.elim
theorem r_I0{g':Int->Int->D}(hg:∀i j (F:Hp),Is K F (g i j) (g' i j)):R2E K (rI0 g) (fI0 g'):=by
 intro F H x y d e Qd Q s hx hy h k;unfold fI0 at h;split at h
 ·cases hx.int;cases hy.int;exact⟨_,_,rfl,rfl,k _ h _ F H (Ext.refl s) (hg _ _ _)⟩
 ·exact h.elim
noncomputable abbrev fSub:=fI0 λi j=>.int (i - j)
noncomputable abbrev fDiv:=fI zq21 λi j=>.int (i / j)
noncomputable abbrev fMod:=fI (λ_ j=>0 < j) λi j=>.int (i % j)
noncomputable abbrev fPow:=fI CPow λi j=>.int (i ^ j.toNat)
noncomputable abbrev fLt:=fI0 λi j=>.bool (decide (i < j))
noncomputable abbrev fLe:=fI0 λi j=>.bool (decide (i<=j))
noncomputable abbrev fGt:=fI0 λi j=>.bool (decide (j < i))
noncomputable abbrev fGe:=fI0 λi j=>.bool (decide (j<=i))
theorem znz:R2E K (rI0 λi j=>V.int (i - j)) fSub:=r_I0 λ_ _ _=>.int _
theorem zac:R2E K (rI zq21 λi j=>V.int (i / j)) fDiv:=r_I λ_ _ _=>.int _
theorem zg4:R2E K (rI (λ_ j=>0 < j) λi j=>V.int (i % j)) fMod:=r_I λ_ _ _=>.int _
theorem zx31:R2E K (rI CPow λi j=>V.int (i ^ j.toNat)) fPow:=r_I λ_ _ _=>.int _
theorem r_lt:R2E K (rI0 λi j=>V.bl (decide (i < j))) fLt:=r_I0 λ_ _ _=>.bl _
theorem r_le:R2E K (rI0 λi j=>V.bl (decide (i<=j))) fLe:=r_I0 λ_ _ _=>.bl _
theorem r_gt:R2E K (rI0 λi j=>V.bl (decide (j < i))) fGt:=r_I0 λ_ _ _=>.bl _
theorem r_ge:R2E K (rI0 λi j=>V.bl (decide (j<=i))) fGe:=r_I0 λ_ _ _=>.bl _
noncomputable def fMul:D->D->(D->Prop)->Prop
|.int i,.int j,Q=>CMul i j/\Q (.int (i * j))
|.str z,.int n,Q=>0<=n/\z.length * n.toNat<=sizeLine/\n<=sizeLine/\Q (.str (repS z n.toNat))
|_,_,_=>False
theorem zlj:R2E K zkc1 fMul:=by
 intro F H x y d e Qd Q s hx hy h k;unfold fMul at h;split at h
 ·cases hx.int;cases hy.int;exact .inl (.inl (.inl ⟨_,_,rfl,rfl,h.1,k _ h.2 _ F H (Ext.refl s) (.int _)⟩))
 ·cases hx.str;cases hy.int;exact .inl (.inr ⟨_,_,rfl,rfl,h.1,h.2.1,h.2.2.1,k _ h.2.2.2 _ F H (Ext.refl s) (.str _)⟩)
 ·exact h.elim
noncomputable def fRep:List D->D->(List D->Prop)->Prop
|ds,.int n,Q=>n < 2 ^ 62/\-(2 ^ 62)<=n/\ds.length * n.toNat<=sizeLine/\Q (v9 n.toNat ds).flatten
|_,_,_=>False
noncomputable def dRep(df:DF)(db:DE):DF:=λU Q=>df U λds=>db U λy=>fRep ds y Q
theorem zfw{F:Hp}{xs:List V}{ds:List D}(h:IsAll K F xs ds):∀n:Nat,IsAll K F (v9 n xs).flatten (v9 n ds).flatten
|0=>.nil
|n+1=>by rw[yK,yK,yN,yN];exact h.dapp (zfw h n)
theorem zp71(ha:RfF K ta df)(hb:RfE K tb db):RfF K (tOp zkc1 ta tb) (dRep df db):=by
 intro F H Y U Qd Q s rv h k;refine ha s rv h λds hx a xs F1 H1 e1 hn h1 h2 h3=>hb e1.fh (rv.ext e1) hx λy hy u F2 H2 e2 i2=>?_;unfold fRep at hy;split at hy
 ·rename_i n
  cases i2.int_inv;have el:=h3.dlen;refine .inr ⟨a,n,xs,rfl,rfl,e2.h _ _ h1,by lia,by lia,by rw[el];exact hy.2.2.1,λp hp=>?_⟩;obtain⟨ex,fn⟩:=zq8 (xs:=(v9 n.toNat xs).flatten) e2.fh hp;refine k _ hy.2.2.2 p _ F2 _ ((e1.trans e2).trans ex) ?_ zj0 fn (zfw (h3.mono e2.f) _);cases q:H p with
 |none=>rfl
 |some o=>rw[(e1.trans e2).h p o q]at hp;cases hp
 ·exact hy.elim
noncomputable def fEq:D->D->(D->Prop)->Prop
|.int i,.int j,Q=>Q (.bool (decide (i=j)))
|.str i,.str j,Q=>Q (.bool (decide (i=j)))
|.bool i,.bool j,Q=>Q (.bool (decide (i=j)))
|d,e,Q=>SeqAt.shaped d=true/\SeqAt.shaped e=true/\Q (.bool (xE d e))
noncomputable def fNe:D->D->(D->Prop)->Prop
|.int i,.int j,Q=>Q (.bool (!decide (i=j)))
|.str i,.str j,Q=>Q (.bool (!decide (i=j)))
|.bool i,.bool j,Q=>Q (.bool (!decide (i=j)))
|d,e,Q=>SeqAt.shaped d=true/\SeqAt.shaped e=true/\Q (.bool (!PyData.eqv d e))
theorem zoi(i j:Int):decide (V.int i=V.int j)=decide (i=j):=by simp
theorem zpi(i j:Str):decide (V.str i=V.str j)=decide (i=j):=by simp
theorem zcp(i j:Bool):decide (V.bl i=V.bl j)=decide (i=j):=by simp
noncomputable def fIx:D->D->(D->Prop)->Prop
|.list ds,.int i,Q=>∃d,atI ds i=some d/\Q d
|.tuple ds,.int i,Q=>∃d,atI ds i=some d/\Q d
|.str z,.int i,Q=>z.length<=sizeLine/\∃c,atI z.cps.toList i=some c/\Q (.str ⟨#[c]⟩)
|_,_,_=>False
theorem zc31{F:Hp}{ds:List D}{i:Int}{d:D}(h:IsAll K F xs ds)(e:atI ds i=some d):∃x,atI xs i=some x/\Is K F x d:=by
 unfold atI at e ⊢;rw[h.dlen];cases q:ixN ds.length i with
|none=>rw[q]at e;cases e
|some j =>
  rw[q]at e;obtain⟨x,h1,h2⟩:=h.dget (show ds[j]?=some d from e);exact⟨x,h1,h2⟩
theorem r_ix:R2E K (rIxV w K) fIx:=by
 intro F H x y d e Qd Q s hx hy h k;unfold fIx at h;split at h
 ·obtain⟨z,ez,q⟩:=h;obtain⟨p,xs,rfl,h1,i1⟩:=hx.list s;cases hy.int;obtain⟨v,ev,iv⟩:=zc31 i1 ez;exact .inl (.inl (.inl ⟨p,xs,_,v,rfl,rfl,h1,ev,k _ q _ F H (Ext.refl s) iv⟩))
 ·obtain⟨z,ez,q⟩:=h;obtain⟨p,xs,rfl,h1,_,i1⟩:=hx.tuple s;cases hy.int;obtain⟨v,ev,iv⟩:=zc31 i1 ez;exact .inl (.inl (.inr (.inl ⟨p,xs,_,v,rfl,rfl,h1,ev,k _ q _ F H (Ext.refl s) iv⟩)))
 ·obtain⟨hz,c,ec,q⟩:=h;cases hx.str;cases hy.int;exact .inl (.inl (.inr (.inr ⟨_,_,c,rfl,rfl,hz,ec,k _ q _ F H (Ext.refl s) (.str _)⟩)))
 ·exact h.elim
noncomputable def zhu:D->Bool
|.none=>true
|.bool _=>true
|.int _=>true
|.str _=>true
|_=>false
noncomputable def dUn(f:D->(D->Prop)->Prop)(da:DE):DE:=λU Q=>da U λx=>f x Q
noncomputable def fNeg:D->(D->Prop)->Prop
|.int i,Q=>Q (.int (-i))
|_,_=>False
theorem zv31(ha:RfE K ta da):RfE K (tUn (rU λi=>V.int (-i)) ta) (dUn fNeg da):=by
 intro F H Y U Qd Q s rv h k;refine ha s rv h λx hx v F1 H1 e1 i1=>?_;unfold fNeg at hx;split at hx
 ·cases i1.int_inv;exact⟨_,rfl,k _ hx _ F1 H1 e1 (.int _)⟩
 ·exact hx.elim
noncomputable def fB(d:D)(Q:Bool->Prop):Prop:=match d with
|.bool b=>Q b
|_=>False
theorem zc91{F:Hp}{v:V}{d:D}{Q:Bool->Prop}(i:Is K F v d)(h:fB d Q):∃b,v=.bl b/\Q b:=by
 unfold fB at h;split at h
 ·exact⟨_,i.bl_inv,h⟩
 ·exact h.elim
noncomputable def zx91(da:DE):DE:=λU Q=>da U λx=>fB x λb=>Q (.bool (!b))
theorem zhx(ha:RfE K ta da):RfE K (zp51 ta) (zx91 da):=by
 intro F H Y U Qd Q s rv h k;refine ha s rv h λx hx v F1 H1 e1 i1=>?_;obtain⟨b,rfl,q⟩:=zc91 i1 hx;exact⟨b,rfl,k _ q _ F1 H1 e1 (.bl _)⟩
noncomputable def zkf1(da db:DE):DE:=λU Q=>da U λx=>fB x λb=>if b=true then db U Q else Q (.bool false)
theorem zkw(ha:RfE K ta da)(hb:RfE K tb db):RfE K (zje1 ta tb) (zkf1 da db):=by
 intro F H Y U Qd Q s rv h k;refine ha s rv h λx hx v F1 H1 e1 i1=>?_;obtain⟨b,rfl,q⟩:=zc91 i1 hx;refine⟨b,rfl,?_⟩;cases b with
|true =>
  rw[if_pos rfl]at q ⊢;exact hb e1.fh (rv.ext e1) q λy hy u F2 H2 e2 i2=>k y hy u F2 H2 (e1.trans e2) i2
|false =>
  rw[if_neg wF]at q ⊢;exact k _ q _ F1 H1 e1 (.bl _)
noncomputable def zuz(de:DE):DT:=λU Q=>de U λd=>fB d Q
theorem zt0(h:RfE K te de):RfT K (zgz te) (zuz de):=by
 intro F H Y U Qd Q s rv hd k;refine h s rv hd λx hx v F1 H1 e1 i1=>?_;obtain⟨b,rfl,q⟩:=zc91 i1 hx;exact⟨b,rfl,k b q F1 H1 e1⟩
noncomputable def fTru:D->(Bool->Prop)->Prop
|.none,Q=>Q false
|.bool b,Q=>Q b
|.int i,Q=>Q (i != 0)
|.str z,Q=>z.length<=sizeLine/\Q ((z.length:Int) != 0)
|.list ds,Q=>Q (!ds.isEmpty)
|.tuple ds,Q=>Q (!ds.isEmpty)
|.dict _,_=>False
noncomputable def dTru(de:DE):DT:=λU Q=>de U λd=>fTru d Q
theorem ztm{F:Hp}{ds:List D}(h:IsAll K F xs ds):xs.isEmpty=ds.isEmpty:=by cases h <;> rfl
theorem zgd(h:RfV K te de):RfT K (zq91 K te) (dTru de):=by
 intro F H Y U Qd Q s rv hd k;refine h s rv hd λx hx v F1 H1 e1 i1=>?_;unfold fTru at hx;split at hx
 ·cases i1.is e1.fh;exact⟨false,rfl,k _ hx F1 H1 e1⟩
 ·cases i1.bl;exact⟨_,rfl,k _ hx F1 H1 e1⟩
 ·cases i1.int;exact⟨_,rfl,k _ hx F1 H1 e1⟩
 ·cases i1.str;exact⟨_,⟨hx.1,rfl⟩,k _ hx.2 F1 H1 e1⟩
 ·obtain⟨p,xs,rfl,h1,i2⟩:=i1.list e1.fh;refine⟨_,.inl ⟨xs,h1,rfl⟩,?_⟩;rw[ztm i2];exact k _ hx F1 H1 e1
 ·obtain⟨p,xs,rfl,h1,_,i2⟩:=i1.tuple e1.fh;refine⟨_,.inr (.inl ⟨xs,h1,rfl⟩),?_⟩;rw[ztm i2];exact k _ hx F1 H1 e1
 ·exact hx.elim
noncomputable def dAnd(dt du:DT):DT:=λU Q=>dt U λb=>if b=true then du U Q else Q false
noncomputable def dOr(dt du:DT):DT:=λU Q=>dt U λb=>if b=true then Q true else du U Q
noncomputable def dNot(dt:DT):DT:=λU Q=>dt U λb=>Q (!b)
theorem zzn(ht:RfT K tt dt)(hu:RfT K tu du):RfT K (tAnd tt tu) (dAnd dt du):=by
 intro F H Y U Qd Q s rv h k;refine ht s rv h λb hb F1 H1 e1=>?_;cases b with
|true =>
  rw[if_pos rfl]at hb ⊢;exact hu e1.fh (rv.ext e1) hb λc hc F2 H2 e2=>k c hc F2 H2 (e1.trans e2)
|false =>
  rw[if_neg wF]at hb ⊢;exact k _ hb F1 H1 e1
theorem zo81(ht:RfT K tt dt)(hu:RfT K tu du):RfT K (tOr tt tu) (dOr dt du):=by
 intro F H Y U Qd Q s rv h k;refine ht s rv h λb hb F1 H1 e1=>?_;cases b with
|false =>
  rw[if_neg wF]at hb ⊢;exact hu e1.fh (rv.ext e1) hb λc hc F2 H2 e2=>k c hc F2 H2 (e1.trans e2)
|true =>
  rw[if_pos rfl]at hb ⊢;exact k _ hb F1 H1 e1
theorem zoc(ht:RfT K tt dt):RfT K (tNot tt) (dNot dt):=λs rv h k=>ht s rv h λb hb F1 H1 e1=>k _ hb F1 H1 e1
noncomputable def dIfE(dt:DT)(da db:DE):DE:=λU Q=>dt U λb=>if b=true then da U Q else db U Q
theorem zv51(ht:RfT K tt dt)(ha:RfE K ta da)(hb:RfE K tb db):RfE K (tIf tt ta tb) (dIfE dt da db):=by
 intro F H Y U Qd Q s rv h k;refine ht s rv h λb hb' F1 H1 e1=>?_;cases b with
|true =>
  rw[if_pos rfl]at hb' ⊢;exact ha e1.fh (rv.ext e1) hb' λy hy u F2 H2 e2 i2=>k y hy u F2 H2 (e1.trans e2) i2
|false =>
  rw[if_neg wF]at hb' ⊢;exact hb e1.fh (rv.ext e1) hb' λy hy u F2 H2 e2 i2=>k y hy u F2 H2 (e1.trans e2) i2
noncomputable def zxy(f g:D->D->(D->Prop)->Prop)(da db dc:DE):DE:=λU Q=>da U λx=>db U λy=>f x y λu=>fB u λb=>if b=true then dc U λz=>g y z Q else Q (.bool false)
theorem zkk{r r':R2}{f g:D->D->(D->Prop)->Prop}(hr:R2E K r f)(hr':R2E K r' g)(ha:RfE K ta da)(hb:RfE K tb db)(hc:RfE K tc dc):RfE K (zsy r r' ta tb tc) (zxy f g da db dc):=by
 intro F H Y U Qd Q s rv h k;refine ha s rv h λx hx v F1 H1 e1 i1=>hb e1.fh (rv.ext e1) hx λy hy u F2 H2 e2 i2=>?_;refine hr e2.fh (.inl (i1.mono e2.f)) (.inl i2) hy λz hz v3 F3 H3 e3 i3=>?_;obtain⟨b,rfl,q⟩:=zc91 i3 hz;refine⟨b,rfl,?_⟩;cases b with
|true =>
  rw[if_pos rfl]at q ⊢;refine hc e3.fh (rv.ext ((e1.trans e2).trans e3)) q λz' hz' v4 F4 H4 e4 i4=>?_;exact hr' e4.fh (.inl (i2.mono (e3.f.trans e4.f))) (.inl i4) hz' λo ho v5 F5 H5 e5 i5=>k o ho v5 F5 H5 ((((e1.trans e2).trans e3).trans e4).trans e5) i5
|false =>
  rw[if_neg wF]at q ⊢;exact k _ q _ F3 H3 ((e1.trans e2).trans e3) (.bl _)
noncomputable def dNil:DF:=λ_ Q=>Q []
noncomputable def zic(da:DE)(dr:DF):DF:=λU Q=>da U λx=>dr U λxs=>Q (x :: xs)
theorem zs0:RfA K tNil dNil:=λs rv h k=>k _ h _ _ _ (Ext.refl s) .nil
theorem ze0(ha:RfE K ta da)(hr:RfA K tA dA):RfA K (zw2 ta tA) (zic da dA):=by
 intro F H Y U Qd Q s rv h k;refine ha s rv h λx hx v F1 H1 e1 i1=>hr e1.fh (rv.ext e1) hx λxs hxs vs F2 H2 e2 i2=>?_;exact k _ hxs _ F2 H2 (e1.trans e2) (.cons (i1.mono e2.f) i2)
theorem zs1:RfAV K tNil dNil:=λs rv h k=>k _ h _ _ _ (Ext.refl s) .nil
theorem zz0(ha:RfV K ta da)(hr:RfAV K tA dA):RfAV K (zw2 ta tA) (zic da dA):=by
 intro F H Y U Qd Q s rv h k;refine ha s rv h λx hx v F1 H1 e1 i1=>hr e1.fh (rv.ext e1) hx λxs hxs vs F2 H2 e2 i2=>?_;exact k _ hxs _ F2 H2 (e1.trans e2) (.cons (i1.ext e2) i2)
noncomputable def dTup(dA:DF):DE:=λU Q=>dA U λxs=>xs.length<=sizeLine/\Q (.tuple xs)
theorem zrc(h:RfA K tA dA):RfE K (zb91 tA) (dTup dA):=by
 intro F H Y U Qd Q s rv hd k;refine h s rv hd λxs hx vs F1 H1 e1 i1=>⟨by rw[i1.dlen];exact hx.1,λp hp=>?_⟩
 obtain⟨ex,ii⟩:=zjg (K:=K) e1.fh hp i1;exact k _ hx.2 _ _ _ (e1.trans ex) ii
noncomputable def dLst(dA:DF):DF:=λU Q=>dA U λxs=>xs.length<=sizeLine/\Q xs
theorem zo6(h:RfA K tA dA):RfF K (zet tA) (dLst dA):=by
 intro F H Y U Qd Q s rv hd k;refine h s rv hd λxs hx vs F1 H1 e1 i1=>⟨by rw[i1.dlen];exact hx.1,λp hp=>?_⟩
 obtain⟨ex,fn⟩:=zq8 (xs:=vs) e1.fh hp;refine k _ hx.2 p vs F1 _ (e1.trans ex) ?_ zj0 fn i1;cases q:H p with
|none=>rfl
|some o=>rw[e1.h p o q]at hp;cases hp
noncomputable abbrev DSp:=List D->(D->Prop)->Prop
noncomputable def spD(K:Fg)(p:DSp):Sp:=λvs H Q _=>∃F ds Qd,Same F H/\IsAll K F vs ds/\p ds Qd/\∀d,Qd d->∀v F' H',Ext F H F' H'->Is K F' v d->Q v H'
noncomputable def zrd1(p:DSp)(dA:DF):DE:=λU Q=>dA U λds=>p ds Q
theorem zn1{p:DSp}(h:RfA K tA dA):RfE K (zl21 (spD K p) [] E tA) (zrd1 p dA):=by
 intro F H Y U Qd Q s rv hd k;refine h s rv hd λds hp vs F1 H1 e1 i1=>?_;rw[wQ];exact⟨F1,ds,Qd,e1.fh,i1,hp,λd q v F' H' e2 i2=>k d q v F' H' (e1.trans e2) i2⟩
noncomputable def zk71(p:DSp)(dA:DF):DE:=λU Q=>dA U λds=>p ds λd=>zhu d=true/\Q d
theorem zpy{F:Hp}{v:V}{d:D}(f:zhu d=true)(h:Is K F v d):Is K F' v d:=by
 cases h with
|non=>exact .non
|bl b=>exact .bl b
|int i=>exact .int i
|str x=>exact .str x
|lst _ _=>exact absurd f (by simp[zhu])
|tup _ _=>exact absurd f (by simp[zhu])
|tuc _ _ _=>exact absurd f (by simp[zhu])
theorem lend{F H:Hp}(s:Same F H):∀{vs:List V}{ds:List D},VwAll K F H vs ds->∃F',Same F F'/\Same F' H/\IsAll K F' vs ds
|_,_,.nil=>⟨F,λ_ _ z=>z,s,.nil⟩
|_,_,.cons h r=>by
  obtain⟨F1,a1,b1,c1⟩:=lend s r;rcases h with h|⟨a,xs,ds,rfl,rfl,h3,h4⟩
  ·exact⟨F1,a1,b1,.cons (h.mono a1) c1⟩
  ·have s2:Same F1 (upd F1 a (.lst xs)):=λb o z=>by
    by_cases hb:b=a
    ·subst hb;have:=b1 _ _ z;rw[h3]at this;rw[zj0,this]
    ·rw[zm0 hb];exact z
   refine⟨upd F1 a (.lst xs),a1.trans s2,λb o z=>?_,.cons (.lst (SqL.of zj0) (h4.mono (a1.trans s2))) (c1.mono s2)⟩;by_cases hb:b=a
   ·subst hb;rw[zj0]at z;cases z;exact h3
   ·rw[zm0 hb]at z;exact b1 b o z
theorem zue{p:DSp}(h:RfAV K tA dA):RfE K (zl21 (spD K p) [] E tA) (zk71 p dA):=by
 intro F H Y U Qd Q s rv hd k;refine h s rv hd λds hp vs F1 H1 e1 i1=>?_;rw[wQ];obtain⟨F2,a2,b2,c2⟩:=lend e1.fh i1;refine⟨F2,ds,_,b2,c2,hp,λd q v F' H' e2 i2=>k d q.2 v F1 H' (e1.trans ⟨e2.h,λ_ _ z=>z,e1.fh.trans e2.h,λ_ _ z=>z⟩) (zpy q.1 i2)⟩
noncomputable def CB(K:Fg)(r:List V->Hp->VK->Prop)(f:List D->(D->Prop)->Prop):Prop:=∀{F H:Hp}{vs:List V}{ds:List D}{Qd:D->Prop}{Q:VK},Same F H->VwAll K F H vs ds->f ds Qd->(∀z,Qd z->∀v F' H',Ext F H F' H'->Is K F' v z->Q v H')->r vs H Q
noncomputable def CF(K:Fg)(r:List V->Hp->VK->Prop)(f:List D->(List D->Prop)->Prop):Prop:=∀{F H:Hp}{vs:List V}{ds:List D}{Qd:List D->Prop}{Q:VK},Same F H->VwAll K F H vs ds->f ds Qd->(∀z,Qd z->∀a xs F' H',Ext F H F' H'->H a=none->H' a=some (.lst xs)->F' a=none->IsAll K F' xs z->Q (.ref a) H')->r vs H Q
noncomputable def dCB(f:List D->(D->Prop)->Prop)(dA:DF):DE:=λU Q=>dA U λds=>f ds Q
noncomputable def dCF(f:List D->(List D->Prop)->Prop)(dA:DF):DF:=λU Q=>dA U λds=>f ds Q
theorem zth{r:List V->Hp->VK->Prop}{f:List D->(D->Prop)->Prop}(hr:CB K r f)(h:RfAV K tA dA):RfE K (tCB r tA) (dCB f dA):=by
 intro F H Y U Qd Q s rv hd k;refine h s rv hd λds hp vs F1 H1 e1 i1=>hr e1.fh i1 hp λz q v F' H' e2 i2=>k z q v F' H' (e1.trans e2) i2
theorem zms{r:List V->Hp->VK->Prop}{f:List D->(List D->Prop)->Prop}(hr:CF K r f)(h:RfAV K tA dA):RfF K (tCB r tA) (dCF f dA):=by
 intro F H Y U Qd Q s rv hd k;refine h s rv hd λds hp vs F1 H1 e1 i1=>hr e1.fh i1 hp λz q a xs F' H' e2 hn h1 h2 h3=>k z q a xs F' H' (e1.trans e2) ?_ h1 h2 h3;cases z:H a with
|none=>rfl
|some o=>rw[e1.h a o z]at hn;cases hn
theorem vw1{F H:Hp}{d:D}(h:VwAll K F H vs [d]):∃v,vs=[v]/\Vw K F H v d:=by
 cases h with
|cons h r=>cases r;exact⟨_,rfl,h⟩
theorem vw2{F H:Hp}{d e:D}(h:VwAll K F H vs [d,e]):∃v u,vs=[v,u]/\Vw K F H v d/\Vw K F H u e:=by
 cases h with
|cons h r=>obtain⟨u,rfl,r2⟩:=vw1 r;exact⟨_,u,rfl,h,r2⟩
noncomputable def fLen:List D->(D->Prop)->Prop
|[.list ds],Q=>Q (.int (ds.length:Nat))
|[.tuple ds],Q=>Q (.int (ds.length:Nat))
|[.str z],Q=>z.length<=sizeLine/\Q (.int (z.length:Nat))
|_,_=>False
theorem zqn:CB K (rLen K) fLen:=by
 intro F H vs ds Qd Q s hv h k;unfold fLen at h;split at h
 ·obtain⟨v,rfl,hw⟩:=vw1 hv;obtain⟨p,xs,rfl,h1,i1⟩:=hw.list s;refine⟨_,_,rfl,.inl ⟨xs,h1,rfl⟩,?_⟩;rw[i1.dlen];exact k _ h _ F H (Ext.refl s) (.int _)
 ·obtain⟨v,rfl,hw⟩:=vw1 hv;obtain⟨p,xs,rfl,h1,_,i1⟩:=hw.tuple s;refine⟨_,_,rfl,.inr ⟨xs,h1,rfl⟩,?_⟩;rw[i1.dlen];exact k _ h _ F H (Ext.refl s) (.int _)
 ·obtain⟨v,rfl,hw⟩:=vw1 hv;cases hw.str;exact⟨_,_,rfl,⟨h.1,rfl⟩,k _ h.2 _ F H (Ext.refl s) (.int _)⟩
 ·exact h.elim
noncomputable def zr61:List D->(D->Prop)->Prop
|[.int i,.int j],Q=>Q (.int (if j > i then j else i))
|_,_=>False
theorem zo31:CB K zue1 zr61:=by
 intro F H vs ds Qd Q s hv h k;unfold zr61 at h;split at h
 ·obtain⟨v,u,rfl,h1,h2⟩:=vw2 hv;cases h1.int;cases h2.int;exact⟨_,_,rfl,k _ h _ F H (Ext.refl s) (.int _)⟩
 ·exact h.elim
noncomputable def zp41:List D->Option (List Int)
|[]=>some []
|.int i :: r=>(zp41 r).map (i :: ·)
|_ :: _=>none
theorem zso{F:Hp}:∀{xs:List V}{ds:List D}{ns:List Int},IsAll K F xs ds->zp41 ds=some ns->xs=ns.map V.int
|_,_,_,.nil,e=>by cases e;rfl
|_,_,_,.cons h r,e=>by
  cases h with
 |int i =>
   unfold zp41 at e;obtain⟨ms,e1,rfl⟩:=wX.mp e;rw[zso r e1];rfl
 |_=>cases e
theorem zy11(ns:List Int):zp41 (ns.map wK)=some ns:=by
 induction ns with
|nil=>rfl
|cons n r ih=>simp[zp41,ih]
noncomputable def zf71:List D->(List D->Prop)->Prop
|[.list ds],Q=>Q ds
|[.tuple ds],Q=>Q ds
|_,_=>False
theorem ztg:CF K (zie1 K) zf71:=by
 intro F H vs ds Qd Q s hv h k;unfold zf71 at h;split at h
 ·obtain⟨v,rfl,hw⟩:=vw1 hv;obtain⟨p,xs,rfl,h1,i1⟩:=hw.list s;refine⟨p,xs,rfl,.inl h1,λl hl=>?_⟩;obtain⟨ex,fn⟩:=zq8 (xs:=xs) s hl;exact k _ h l xs F _ ex hl zj0 fn i1
 ·obtain⟨v,rfl,hw⟩:=vw1 hv;obtain⟨p,xs,rfl,h1,_,i1⟩:=hw.tuple s;refine⟨p,xs,rfl,.inr h1,λl hl=>?_⟩;obtain⟨ex,fn⟩:=zq8 (xs:=xs) s hl;exact k _ h l xs F _ ex hl zj0 fn i1
 ·exact h.elim
noncomputable def fInt:List D->(D->Prop)->Prop
|[.int i],Q=>Q (.int i)
|[.bool b],Q=>Q (.int (if b then 1 else 0))
|[.str z],Q=>∃n,PySem.intText? z=some n/\z.length<=640/\Q (.int n)
|_,_=>False
theorem zff1:CB K rInt fInt:=by
 intro F H vs ds Qd Q s hv h k;unfold fInt at h;split at h
 ·obtain⟨v,rfl,hw⟩:=vw1 hv;cases hw.int;exact .inl (.inl ⟨_,rfl,k _ h _ F H (Ext.refl s) (.int _)⟩)
 ·obtain⟨v,rfl,hw⟩:=vw1 hv;cases hw.bl;exact .inl (.inr ⟨_,rfl,k _ h _ F H (Ext.refl s) (.int _)⟩)
 ·obtain⟨v,rfl,hw⟩:=vw1 hv;obtain⟨n,e,hz,q⟩:=h;cases hw.str;exact .inr ⟨_,n,rfl,e,hz,k _ q _ F H (Ext.refl s) (.int _)⟩
 ·exact h.elim
noncomputable def tyD:D->String
|.none => "NoneType"|.bool _ => "bool"|.int _ => "int"|.str _ => "str"|.list _ => "list"|.tuple _ => "tuple"|.dict _ => "dict"
noncomputable def isT(T:String)(d:D):Bool:=tyD d == T || (T == "int" && tyD d == "bool")
structure Kit(K:Fg):Prop where
 ok:∀t∈["NoneType", "bool", "int", "str", "list", "tuple"],∀T∈["int", "bool", "list", "tuple", "str"],PySem.W.kitOne K (.type t) (.type T)=some (t == T || (T == "int" && t == "bool"))
noncomputable def dIs(T:String)(da:DE):DE:=λU Q=>da U λd=>(∀kvs,d≠.dict kvs)/\Q (.bool (isT T d))
theorem zg71{T:String}(kt:Kit K)(hT:T∈["int", "bool", "list", "tuple", "str"])(ha:RfV K ta da):RfE K (tCB (rIsW K) (zw2 ta (zw2 (tC (.ty T)) tNil))) (dIs T da):=by
 intro F H Y U Qd Q s rv hd k;refine ha s rv hd λd hd v F1 H1 e1 i1=>?_;have q:=k _ hd.2 (.bl (isT T d)) F1 H1 e1 (.bl _);have i2:=i1.is e1.fh;show rIsW K [v,.ty T] H1 Q;cases i2 with
|non=>exact .inl ⟨_,_,_,_,_,rfl,rfl,.non,kt.ok _ (by simp) T hT,q⟩
|bl b=>exact .inl ⟨_,_,_,_,_,rfl,rfl,.bl b,kt.ok _ (by simp) T hT,q⟩
|int b=>exact .inl ⟨_,_,_,_,_,rfl,rfl,.int b,kt.ok _ (by simp) T hT,q⟩
|str b=>exact .inl ⟨_,_,_,_,_,rfl,rfl,.str b,kt.ok _ (by simp) T hT,q⟩
|lst h1 h2=>exact .inr ⟨_,_,_,_,rfl,rfl,.inl ⟨⟨_,h1⟩,kt.ok _ (by simp) T hT⟩,q⟩
|tup h1 h2=>exact .inr ⟨_,_,_,_,rfl,rfl,.inr ⟨⟨_,SqT.of h1⟩,kt.ok _ (by simp) T hT⟩,q⟩
|tuc h1 h2 _=>exact .inr ⟨_,_,_,_,rfl,rfl,.inr ⟨⟨_,h1⟩,kt.ok _ (by simp) T hT⟩,q⟩
noncomputable abbrev DO:=DSt->(Option Int->Prop)->Prop
noncomputable def zxw:DO:=λ_ Q=>Q none
noncomputable def zze1(de:DE):DO:=λU Q=>de U λd=>match d with
|.int i=>Q (some i)
|_=>False
theorem zaw:RfO K zzw zxw:=λs rv h k=>k _ h _ _ (Ext.refl s)
theorem zyp(h:RfE K te de):RfO K (zv41 te) (zze1 de):=by
 intro F H Y U Qd Q s rv hd k;refine h s rv hd λd hx v F1 H1 e1 i1=>?_;split at hx
 ·cases i1.int_inv;exact⟨_,rfl,k _ hx F1 H1 e1⟩
 ·exact hx.elim
noncomputable def cutD(xs:List D)(lo hi:Option Int):List D:=(xs.drop (HT.sIx xs.length 0 lo)).take (HT.sIx xs.length xs.length hi - HT.sIx xs.length 0 lo)
theorem zuv{F:Hp}{ds:List D}(h:IsAll K F xs ds)(lo hi:Option Int):IsAll K F (cutV xs lo hi) (cutD ds lo hi):=by
 unfold cutV cutD;rw[h.dlen];exact(h.ddrop _).dtake _
noncomputable def fSl(d:D)(lo hi:Option Int)(Q:D->Prop):Prop:=match d with
|.list ds=>Q (.list (cutD ds lo hi))
|.str z=>z.length<=sizeLine/\Q (.str (Txt.slice z lo hi))
|.tuple ds=>¬(HT.sIx ds.length 0 lo=0/\HT.sIx ds.length ds.length hi=ds.length)/\Q (.tuple (cutD ds lo hi))
|_=>False
noncomputable def fSlF(d:D)(lo hi:Option Int)(Q:List D->Prop):Prop:=match d with
|.list ds=>Q (cutD ds lo hi)
|_=>False
variable {tl th tk:TO}{dl dh dk:DO}
noncomputable def dSl(de:DE)(dl dh:DO):DE:=λU Q=>de U λd=>dl U λlo=>dh U λhi=>fSl d lo hi Q
theorem zo1{F H:Hp}{p:Addr}(e:Ext F H F' H')(h:H' p=none):H p=none:=by
 cases q:H p with
|none=>rfl
|some o=>rw[e.h p o q]at h;cases h
theorem zzf1(he:RfV K te de)(hl:RfO K tl dl)(hh:RfO K th dh):RfE K (tSl (rSlW K) te tl th) (dSl de dl dh):=by
 intro F H Y U Qd Q s rv h k;refine he s rv h λd hd v F1 H1 e1 i1=>hl e1.fh (rv.ext e1) hd λlo hlo F2 H2 e2=>hh e2.fh (rv.ext (e1.trans e2)) hlo λhi hhi F3 H3 e3=>?_;have e13:=(e1.trans e2).trans e3;have i3:=i1.ext (e2.trans e3);unfold fSl at hhi;split at hhi
 ·obtain⟨p,xs,rfl,h1,i2⟩:=i3.list e3.fh;refine .inl (.inl ⟨p,xs,rfl,h1,λl hl=>?_⟩);obtain⟨ex,fn⟩:=zq8 (xs:=cutV xs lo hi) e3.fh hl;obtain⟨ex2,ii⟩:=zos (K:=K) ex hl zj0 fn (zuv i2 lo hi);exact k _ hhi _ _ _ (e13.trans ex2) ii
 ·cases i3.str;exact .inr ⟨_,rfl,hhi.1,k _ hhi.2 _ F3 H3 e13 (.str _)⟩
 ·obtain⟨p,xs,rfl,h1,_,i2⟩:=i3.tuple e3.fh;refine .inl (.inr ⟨p,xs,rfl,h1,by rw[i2.dlen];exact hhi.1,λl hl=>?_⟩);obtain⟨ex,ii⟩:=zjg (K:=K) e3.fh hl (zuv i2 lo hi);exact k _ hhi.2 _ _ _ (e13.trans ex) ii
 ·exact hhi.elim
theorem zai{F:Hp}{xs:List V}{ds:List D}(h:IsAll K F xs ds):∀js:List Nat,IsAll K F (js.filterMap (xs[·]?)) (js.filterMap (ds[·]?))
|[]=>.nil
|j :: js=>by
  have ih:=zai h js;cases hn:ds[j]? with
 |some n =>
   obtain⟨u,hu,r⟩:=h.dget hn;simp only[xT,hn,hu];exact .cons r ih
 |none =>
   have hv:xs[j]?=none:=by
    rw[zM]at hn ⊢;rw[h.dlen];exact hn
   simp only[xT,hn,hv];exact ih
theorem zfz{F:Hp}{ds:List D}(h:IsAll K F xs ds)(lo hi st:Option Int):IsAll K F (zam xs lo hi st) (zam ds lo hi st):=by
 unfold zam;rw[h.dlen];exact zai h _
noncomputable def dSl3(de:DE)(dl dh dk:DO):DF:=λU Q=>de U λd=>dl U λlo=>dh U λhi=>dk U λst=>match d with
|.list ds=>st≠some 0/\Q (zam ds lo hi st)
|_=>False
theorem zn91(he:RfV K te de)(hl:RfO K tl dl)(hh:RfO K th dh)(hk:RfO K tk dk):RfF K (tSl3 K te tl th tk) (dSl3 de dl dh dk):=by
 intro F H Y U Qd Q s rv h k;refine he s rv h λd hd v F1 H1 e1 i1=>hl e1.fh (rv.ext e1) hd λlo hlo F2 H2 e2=>hh e2.fh (rv.ext (e1.trans e2)) hlo λhi hhi F3 H3 e3=>hk e3.fh (rv.ext ((e1.trans e2).trans e3)) hhi λst hst F4 H4 e4=>?_;split at hst
 ·have e14:=((e1.trans e2).trans e3).trans e4;obtain⟨p,xs,rfl,h1,i2⟩:=(i1.ext ((e2.trans e3).trans e4)).list e4.fh;refine⟨p,xs,rfl,h1,hst.1,λl hl=>?_⟩;obtain⟨ex,fn⟩:=zq8 (xs:=zam xs lo hi st) e4.fh hl;exact k _ hst.2 l _ F4 _ (e14.trans ex) (zo1 e14 hl) zj0 fn (zfz i2 lo hi st)
 ·exact hst.elim
noncomputable def W0(K:Fg)(J:It)(F H:Hp)(items:List D):Prop:=(∀i,i < items.length->J.go i H)/\J.stop items.length H/\∀i x H3 d,items[i]?=some d->J.yld i H x H3->H3=H/\Is K F x d
noncomputable def W1(K:Fg)(J:It)(F H:Hp)(items:List D):Prop:=(∀i,i < items.length->J.go i H)/\J.stop items.length H/\∀i x H3 d,items[i]?=some d->J.yld i H x H3->∃F3,Ext F H F3 H3/\Is K F3 x d
noncomputable def WD(K:Fg)(J:It)(F:Hp)(items:List D):Prop:=∀F2 H2,Same F F2->Same F2 H2->W1 K J F2 H2 items
noncomputable def WV(K:Fg)(J:It)(F H:Hp)(items:List D):Prop:=∀F2 H2,Ext F H F2 H2->W1 K J F2 H2 items
theorem W0.w1{J:It}{F H:Hp}{items:List D}(s:Same F H)(h:W0 K J F H items):W1 K J F H items:=⟨h.1,h.2.1,λi x H3 d e y=>by
 obtain⟨rfl,r⟩:=h.2.2 i x H3 d e y;exact⟨F,Ext.refl s,r⟩⟩
noncomputable def RfI(K:Fg)(ti:TI)(di:DF):Prop:=∀{F H:Hp}{Y:_2.St}{U:DSt}{Qd:List D->Prop}{R:It->Hp->Prop},Same F H->RV K F H Y U->di U Qd->(∀ds,Qd ds->∀J F' H',Ext F H F' H'->WD K J F' ds->R J H')->ti Y H R
noncomputable def RfJ(K:Fg)(ti:TI)(di:DF):Prop:=∀{F H:Hp}{Y:_2.St}{U:DSt}{Qd:List D->Prop}{R:It->Hp->Prop},Same F H->RV K F H Y U->di U Qd->(∀ds,Qd ds->∀J F' H',Ext F H F' H'->WV K J F' H' ds->R J H')->ti Y H R
theorem zha{F H:Hp}{ds:List D}(h:SqL K H a xs)(i:IsAll K F xs ds):W0 K (Itl K a) F H ds:=by
 have el:=i.dlen;refine⟨λj hj=>⟨xs,xs[j]'(by lia),h,u8 _⟩,⟨xs,h,by lia⟩,λj x H3 d e y=>?_⟩;obtain⟨e3,y⟩:=y;obtain⟨x',h1,h2⟩:=i.dget e;have:=y xs h;rw[h1]at this;cases this;exact⟨e3,h2⟩
theorem zln{F H:Hp}{ds:List D}(h:SqT K H a xs)(i:IsAll K F xs ds):W0 K (Itt K a) F H ds:=by
 have el:=i.dlen;refine⟨λj hj=>⟨xs,xs[j]'(by lia),h,u8 _⟩,⟨xs,h,by lia⟩,λj x H3 d e y=>?_⟩;obtain⟨e3,y⟩:=y;obtain⟨x',h1,h2⟩:=i.dget e;have:=y xs h;rw[h1]at this;cases this;exact⟨e3,h2⟩
noncomputable def zf11:D->(List D->Prop)->Prop
|.list ds,Q=>Q ds
|.tuple ds,Q=>Q ds
|.str z,Q=>z.cps.all (· < 128)=true/\Q (z.cps.toList.map λc=>.str ⟨#[c]⟩)
|_,_=>False
noncomputable def dIt(de:DE):DF:=λU Q=>de U λd=>zf11 d Q
theorem zt51{F H:Hp}(z:Str)(s:Same F H):W1 K (Its z) F H (z.cps.toList.map λc=>.str ⟨#[c]⟩):=by
 have el:(z.cps.toList.map λc=>(PyData.str ⟨#[c]⟩)).length=z.cps.size:=by simp
 refine⟨λj hj=>by rw[el]at hj;exact hj,by rw[el];exact u3 _,λj x H3 d e y=>?_⟩;obtain⟨e3,c,e1,e2⟩:=y;subst e3;rw[wD,zA,e1]at e;simp at e;subst e;exact⟨F,Ext.refl s,by rw[e2];exact .str _⟩
theorem ziy(h:RfV K te de):RfJ K (iW K te) (dIt de):=by
 intro F H Y U Qd R s rv hd k;refine h s rv hd λd hx v F1 H1 e1 i1=>?_;unfold zf11 at hx;split at hx
 ·obtain⟨p,xs,rfl,h1,i2⟩:=i1.list e1.fh;exact .inl (.inl ⟨p,rfl,⟨xs,h1⟩,k _ hx _ F1 H1 e1 λF2 H2 e2=>(zha (e2.h.seq h1) (i2.mono e2.f)).w1 e2.fh⟩)
 ·obtain⟨p,xs,rfl,h1,_,i2⟩:=i1.tuple e1.fh;exact .inl (.inr ⟨p,rfl,⟨xs,h1⟩,k _ hx _ F1 H1 e1 λF2 H2 e2=>(zln (zji e2.h h1) (i2.mono e2.f)).w1 e2.fh⟩)
 ·cases i1.str;exact .inr ⟨_,rfl,hx.1,k _ hx.2 _ F1 H1 e1 λF2 H2 e2=>zt51 _ e2.fh⟩
 ·exact hx.elim
theorem za91(h:RfE K te de):RfI K (iW K te) (dIt de):=by
 intro F H Y U Qd R s rv hd k;refine h s rv hd λd hx v F1 H1 e1 i1=>?_;unfold zf11 at hx;split at hx
 ·obtain⟨p,xs,rfl,h1,i2⟩:=i1.list_inv;exact .inl (.inl ⟨p,rfl,⟨xs,e1.fh.seq h1⟩,k _ hx _ F1 H1 e1 λF2 H2 s2 t2=>(zha (t2.seq (s2.seq h1)) (i2.mono s2)).w1 t2⟩)
 ·obtain⟨p,xs,rfl,h1,i2⟩:=i1.tuple_inv;exact .inl (.inr ⟨p,rfl,⟨xs,zji e1.fh h1⟩,k _ hx _ F1 H1 e1 λF2 H2 s2 t2=>(zln (zji t2 (zji s2 h1)) (i2.mono s2)).w1 t2⟩)
 ·cases i1.str_inv;exact .inr ⟨_,rfl,hx.1,k _ hx.2 _ F1 H1 e1 λF2 H2 s2 t2=>zt51 _ t2⟩
 ·exact hx.elim
theorem RfI.j{ti:TI}(h:RfI K ti di):RfJ K ti di:=λs rv hd k=>h s rv hd λds q J F' H' e w=>k ds q J F' H' e λF2 H2 e2=>w F2 H2 e2.f e2.fh
noncomputable def rngD(lo:Int)(n:Nat):List D:=(w9 n).map λi=>.int (lo+(i:Nat))
theorem zbp(lo:Int)(n:Nat):(rngD lo n).length=n:=by simp[rngD]
theorem zyz{lo:Int}{d:D}(e:(rngD lo n)[i]?=some d):i < n/\d=.int (lo+(i:Nat)):=by
 unfold rngD at e;rw[wD]at e;obtain⟨j,hj,rfl⟩:=wX.mp e;obtain⟨h1,h2⟩:=wR.mp hj;simp at h1 h2;subst h2;exact⟨h1,rfl⟩
theorem zkb1{F H:Hp}(lo:Int)(n:Nat)(s:Same F H):W1 K (Itr lo n) F H (rngD lo n):=by
 refine⟨λj hj=>by rw[zbp]at hj;exact hj,by rw[zbp];exact u3 _,λj x H3 d e y=>?_⟩;obtain⟨e3,y⟩:=y;subst e3;obtain⟨_,rfl⟩:=zyz e;exact⟨F,Ext.refl s,by rw[y];exact .int _⟩
noncomputable def zde1(dA:DF):DF:=λU Q=>dA U λds=>match ds with
|[.int j]=>-(2 ^ 62)<=j/\j < 2 ^ 62/\Q (rngD 0 j.toNat)
|_=>False
theorem zcf(h:RfA K tA dA):RfI K (zse1 tA) (zde1 dA):=by
 intro F H Y U Qd R s rv hd k;refine h s rv hd λds hx vs F1 H1 e1 i1=>?_;split at hx
 ·cases i1 with
 |cons h1 r1 =>
   cases r1;cases h1.int_inv;exact⟨_,rfl,hx.1,hx.2.1,k _ hx.2.2 _ F1 H1 e1 λF2 H2 s2 t2=>zkb1 _ _ t2⟩
 ·exact hx.elim
noncomputable def zipD(ds es:List D):List D:=List.zipWith (λa b=>.tuple [a,b]) ds es
theorem zao{F H:Hp}{J1 J2:It}{ds es:List D}(s:Same F H)(h1:W0 K J1 F H ds)(h2:W0 K J2 F H es):W1 K (Itz J1 J2) F H (zipD ds es):=by
 have el:(zipD ds es).length=min ds.length es.length:=by simp[zipD]
 refine⟨λj hj=>⟨h1.1 j (by lia),h2.1 j (by lia)⟩,?_,λj x H3 d e y=>?_⟩
 ·rw[el];by_cases h:ds.length<=es.length
  ·rw[Nat.min_eq_left h];exact .inl h1.2.1
  ·rw[Nat.min_eq_right (by lia)];exact .inr ⟨h1.1 es.length (by lia),h2.2.1⟩
 ·obtain⟨x1,x2,p,y1,y2,hp,e1,e2⟩:=y;subst e2;unfold zipD at e;rw[List.getElem?_zipWith]at e;cases q1:ds[j]? with
 |none=>rw[q1]at e;cases e
 |some d1 =>
   cases q2:es[j]? with
  |none=>rw[q1,q2]at e;cases e
  |some d2 =>
    rw[q1,q2]at e;cases e;obtain⟨_,i1⟩:=h1.2.2 j x1 H d1 q1 y1;obtain⟨_,i2⟩:=h2.2.2 j x2 H d2 q2 y2;obtain⟨ex,ii⟩:=zjg (K:=K) (ds:=[d1,d2]) s hp (.cons i1 (.cons i2 .nil));exact⟨_,ex,by rw[e1];exact ii⟩
noncomputable def fZip:List D->(List D->Prop)->Prop
|[.list a,.list b],Q=>Q (zipD a b)
|[.list a,.tuple b],Q=>Q (zipD a b)
|[.tuple a,.list b],Q=>Q (zipD a b)
|_,_=>False
noncomputable def dZip(dA:DF):DF:=λU Q=>dA U λds=>fZip ds Q
theorem zy91(h:RfAV K tA dA):RfJ K (iZip K tA) (dZip dA):=by
 intro F H Y U Qd R s rv hd k;refine h s rv hd λds hx vs F1 H1 e1 i1=>?_;unfold fZip at hx;split at hx
 ·obtain⟨v,u,rfl,w1,w2⟩:=vw2 i1;obtain⟨p,xs,rfl,h1,j1⟩:=w1.list e1.fh;obtain⟨q,ys,rfl,h2,j2⟩:=w2.list e1.fh;exact⟨_,_,rfl,.inl ⟨p,rfl,⟨xs,h1⟩,.inl ⟨q,rfl,⟨ys,h2⟩,k _ hx _ F1 H1 e1 λF2 H2 e2=>zao e2.fh (zha (e2.h.seq h1) (j1.mono e2.f)) (zha (e2.h.seq h2) (j2.mono e2.f))⟩⟩⟩
 ·obtain⟨v,u,rfl,w1,w2⟩:=vw2 i1;obtain⟨p,xs,rfl,h1,j1⟩:=w1.list e1.fh;obtain⟨q,ys,rfl,h2,_,j2⟩:=w2.tuple e1.fh;exact⟨_,_,rfl,.inl ⟨p,rfl,⟨xs,h1⟩,.inr ⟨q,rfl,⟨ys,h2⟩,k _ hx _ F1 H1 e1 λF2 H2 e2=>zao e2.fh (zha (e2.h.seq h1) (j1.mono e2.f)) (zln (zji e2.h h2) (j2.mono e2.f))⟩⟩⟩
 ·obtain⟨v,u,rfl,w1,w2⟩:=vw2 i1;obtain⟨p,xs,rfl,h1,_,j1⟩:=w1.tuple e1.fh;obtain⟨q,ys,rfl,h2,j2⟩:=w2.list e1.fh;exact⟨_,_,rfl,.inr ⟨p,rfl,⟨xs,h1⟩,.inl ⟨q,rfl,⟨ys,h2⟩,k _ hx _ F1 H1 e1 λF2 H2 e2=>zao e2.fh (zln (zji e2.h h1) (j1.mono e2.f)) (zha (e2.h.seq h2) (j2.mono e2.f))⟩⟩⟩
 ·exact hx.elim
theorem all2{F:Hp}{d e:D}(h:IsAll K F vs [d,e]):∃v u,vs=[v,u]/\Is K F v d/\Is K F u e:=by
 cases h with
|cons h r=>cases r with
 |cons h2 r2=>cases r2;exact⟨_,_,rfl,h,h2⟩
theorem all1{F:Hp}{d:D}(h:IsAll K F vs [d]):∃v,vs=[v]/\Is K F v d:=by
 cases h with
|cons h r=>cases r;exact⟨_,rfl,h⟩
theorem zaa1(h:RfA K tA dA):RfI K (iZip K tA) (dZip dA):=by
 intro F H Y U Qd R s rv hd k;refine h s rv hd λds hx vs F1 H1 e1 i1=>?_;unfold fZip at hx;split at hx
 ·obtain⟨v,u,rfl,w1,w2⟩:=all2 i1;obtain⟨p,xs,rfl,h1,j1⟩:=w1.list_inv;obtain⟨q,ys,rfl,h2,j2⟩:=w2.list_inv;exact⟨_,_,rfl,.inl ⟨p,rfl,⟨xs,e1.fh.seq h1⟩,.inl ⟨q,rfl,⟨ys,e1.fh.seq h2⟩,k _ hx _ F1 H1 e1 λF2 H2 s2 t2=>zao t2 (zha (t2.seq (s2.seq h1)) (j1.mono s2)) (zha (t2.seq (s2.seq h2)) (j2.mono s2))⟩⟩⟩
 ·obtain⟨v,u,rfl,w1,w2⟩:=all2 i1;obtain⟨p,xs,rfl,h1,j1⟩:=w1.list_inv;obtain⟨q,ys,rfl,h2,j2⟩:=w2.tuple_inv;exact⟨_,_,rfl,.inl ⟨p,rfl,⟨xs,e1.fh.seq h1⟩,.inr ⟨q,rfl,⟨ys,zji e1.fh h2⟩,k _ hx _ F1 H1 e1 λF2 H2 s2 t2=>zao t2 (zha (t2.seq (s2.seq h1)) (j1.mono s2)) (zln (zji t2 (zji s2 h2)) (j2.mono s2))⟩⟩⟩
 ·obtain⟨v,u,rfl,w1,w2⟩:=all2 i1;obtain⟨p,xs,rfl,h1,j1⟩:=w1.tuple_inv;obtain⟨q,ys,rfl,h2,j2⟩:=w2.list_inv;exact⟨_,_,rfl,.inr ⟨p,rfl,⟨xs,zji e1.fh h1⟩,.inl ⟨q,rfl,⟨ys,e1.fh.seq h2⟩,k _ hx _ F1 H1 e1 λF2 H2 s2 t2=>zao t2 (zln (zji t2 (zji s2 h1)) (j1.mono s2)) (zha (t2.seq (s2.seq h2)) (j2.mono s2))⟩⟩⟩
 ·exact hx.elim
noncomputable def zqt(ds:List D):List D:=ds.mapIdx λi d=>.tuple [.int (i:Nat),d]
theorem zzu(ds:List D):(zqt ds).length=ds.length:=by simp[zqt]
theorem zbv{ds:List D}{d:D}(e:(zqt ds)[i]?=some d):∃x,ds[i]?=some x/\d=.tuple [.int (i:Nat),x]:=by
 unfold zqt at e;rw[zE]at e;obtain⟨x,h1,h2⟩:=wX.mp e;exact⟨x,h1,h2.symm⟩
theorem ztv{F H:Hp}{ds:List D}(s:Same F H)(h:SqL K H a xs)(i:IsAll K F xs ds):W1 K (Ite K a) F H (zqt ds):=by
 have el:=i.dlen;have el2:=zzu ds;refine⟨λj hj=>⟨xs,xs[j]'(by lia),h,u8 _⟩,⟨xs,h,by lia⟩,λj x H3 d e y=>?_⟩;obtain⟨v,p,y1,hp,e1,e2⟩:=y;subst e2;obtain⟨x',hx',rfl⟩:=zbv e;obtain⟨u,hu,iu⟩:=i.dget hx';have:=y1 xs h;rw[hu]at this;cases this;obtain⟨ex,ii⟩:=zjg (K:=K) (ds:=[.int (j:Nat),x']) s hp (.cons (.int _) (.cons iu .nil));exact⟨_,ex,by rw[e1];exact ii⟩
noncomputable def zt81(dA:DF):DF:=λU Q=>dA U λds=>match ds with
|[.list a]=>Q (zqt a)
|_=>False
theorem zz51(h:RfAV K tA dA):RfJ K (zh91 K tA) (zt81 dA):=by
 intro F H Y U Qd R s rv hd k;refine h s rv hd λds hx vs F1 H1 e1 i1=>?_;split at hx
 ·obtain⟨v,rfl,w1⟩:=vw1 i1;obtain⟨p,xs,rfl,h1,j1⟩:=w1.list e1.fh;exact⟨p,xs,rfl,h1,k _ hx _ F1 H1 e1 λF2 H2 e2=>ztv e2.fh (e2.h.seq h1) (j1.mono e2.f)⟩
 ·exact hx.elim
theorem zs21(h:RfA K tA dA):RfI K (zh91 K tA) (zt81 dA):=by
 intro F H Y U Qd R s rv hd k;refine h s rv hd λds hx vs F1 H1 e1 i1=>?_;split at hx
 ·obtain⟨v,rfl,w1⟩:=all1 i1;obtain⟨p,xs,rfl,h1,j1⟩:=w1.list_inv;exact⟨p,xs,rfl,e1.fh.seq h1,k _ hx _ F1 H1 e1 λF2 H2 s2 t2=>ztv t2 (t2.seq (s2.seq h1)) (j1.mono s2)⟩
 ·exact hx.elim
end
inductive Upd(K:Fg)(F:Hp)(n:Nat):_2.St->DSt->_2.St->DSt->Prop
|refl {Y:_2.St} {U:DSt}:Upd K F n Y U Y U
|set {Y Y':_2.St} {U U':DSt} {i:Nat} {v:V} {d:D}:i < n->Is K F v d->Upd K F n (Y.set i (some v)) (U.set i (.sh d)) Y' U'->Upd K F n Y U Y' U'
theorem zx5{j:Nat}{v:Option V}:(Y.set i v).getD j none=if i=j/\j < Y.length then v else Y.getD j none:=by
 rw[v7,v7,xL];by_cases h:i=j
 ·subst h;by_cases h2:i < Y.length
  ·simp[h2]
  ·simp[h2]
 ·simp[h]
theorem RV.set{K:Fg}{F H:Hp}{Y:_2.St}{U:DSt}{i:Nat}{v:V}{sl:Sl}(r:RV K F H Y U)(h:RSl K F H (some v) sl):RV K F H (Y.set i (some v)) (U.set i sl):=by
 refine⟨by rw[xH,xH];exact r.len,λj s e=>?_⟩;rw[xL]at e;rw[zx5,r.len];by_cases hij:i=j
 ·subst hij;by_cases hl:i < U.length
  ·simp[hl]at e ⊢;subst e;exact h
  ·simp[hl]at e
 ·simp[hij]at e ⊢;exact r.sl j s e
theorem Upd.rv{F H:Hp}(u:Upd K F n Y U Y' U')(r:RV K F H Y U):RV K F H Y' U':=by
 induction u with
|refl=>exact r
|set hi hv _ ih=>exact ih (r.set ⟨_,rfl,hv⟩)
theorem Upd.keep{F:Hp}(u:Upd K F n Y U Y' U'):Y'.length=Y.length/\∀i,n<=i->Y'.getD i none=Y.getD i none:=by
 induction u with
|refl=>exact⟨rfl,λ_ _=>rfl⟩
|set hi hv _ ih =>
  refine⟨by rw[ih.1,xH],λj hj=>?_⟩;rw[ih.2 j hj,zx5,if_neg (by lia)]
noncomputable abbrev DG:=D->DSt->(DSt->Prop)->Prop
noncomputable abbrev DGs:=List D->DSt->(DSt->Prop)->Prop
noncomputable def RfG(K:Fg)(n:Nat)(g:TG)(dg:DG):Prop:=∀{F H:Hp}{Y:_2.St}{U:DSt}{v:V}{d:D}{Gd:DSt->Prop}{G:_2.St->Hp->Prop},Same F H->Is K F v d->dg d U Gd->(∀Y' U',Gd U'->Upd K F n Y U Y' U'->G Y' H)->g v Y H G
noncomputable def RfGs(K:Fg)(n:Nat)(g:TGs)(dg:DGs):Prop:=∀{F H:Hp}{Y:_2.St}{U:DSt}{vs:List V}{ds:List D}{Gd:DSt->Prop}{G:_2.St->Hp->Prop},Same F H->IsAll K F vs ds->dg ds U Gd->(∀Y' U',Gd U'->Upd K F n Y U Y' U'->G Y' H)->g vs Y H G
noncomputable def gN(i:Nat):DG:=λd U G=>G (U.set i (.sh d))
noncomputable def zw81:DGs:=λds U G=>match ds with
|[]=>G U
|_=>False
noncomputable def zeo(g:DG)(gs:DGs):DGs:=λds U G=>match ds with
|d :: r=>g d U λU'=>gs r U' G
|[]=>False
noncomputable def gT(n:Nat)(gs:DGs):DG:=λd U G=>match d with
|.tuple ds=>ds.length=n/\gs ds U G
|_=>False
section
variable {K:Fg}{n m:Nat}
theorem zt3(hi:i < n):RfG K n (zih i) (gN i):=λs h hd k=>k _ _ hd (.set hi h .refl)
theorem zwf:RfGs K n gNil zw81:=by
 intro F H Y U vs ds Gd G s h hd k;unfold zw81 at hd;split at hd
 ·cases h;exact⟨rfl,k _ _ hd .refl⟩
 ·exact hd.elim
theorem Upd.trans{F:Hp}{Y1 Y2:_2.St}{U1 U2:DSt}(a:Upd K F n Y U Y1 U1)(b:Upd K F n Y1 U1 Y2 U2):Upd K F n Y U Y2 U2:=by
 induction a with
|refl=>exact b
|set hi hv _ ih=>exact .set hi hv (ih b)
theorem zc3{g:TG}{dg:DG}{dgs:DGs}(h1:RfG K n g dg)(h2:RfGs K n gs dgs):RfGs K n (zv81 g gs) (zeo dg dgs):=by
 intro F H Y U vs ds Gd G s h hd k;unfold zeo at hd;split at hd
 ·cases h with
 |cons hx hr =>
   refine⟨_,_,rfl,h1 s hx hd λY1 U1 hd1 u1=>h2 s hr hd1 λY2 U2 hd2 u2=>k _ _ hd2 (u1.trans u2)⟩
 ·exact hd.elim
theorem zpn{dgs:DGs}(h:RfGs K n gs dgs):RfG K n (gTup K m gs) (gT m dgs):=by
 intro F H Y U v d Gd G s hv hd k;unfold gT at hd;split at hd
 ·obtain⟨a,xs,rfl,h1,h2⟩:=hv.tuple_inv;exact⟨a,xs,rfl,zji s h1,by rw[h2.dlen];exact hd.1,h s h2 hd.2 k⟩
 ·exact hd.elim
end
noncomputable def cST(n:Nat)(ix:List Nat)(U:DSt):DSt:=v9 n .un++ix.map λi=>U.getD i .un
theorem zi51{F H:Hp}(n:Nat)(ix:List Nat)(r:RV K F H Y U):RV K F H (compY n ix Y) (cST n ix U):=by
 refine⟨by simp[compY,cST],λi s e=>?_⟩;unfold cST at e;unfold compY;by_cases h:i < n
 ·rw[xD (by simpa using h)]at e;simp[xK,h]at e;subst e;trivial
 ·rw[xC (by simpa using h)]at e;rw[v7,xC (by simpa using h)];simp only[zR,wD]at e ⊢;obtain⟨j,hj,rfl⟩:=wX.mp e;rw[hj];show RSl K F H (Y.getD j none) _;cases q:U[j]? with
 |none=>rw[show U.getD j .un=.un by rw[v7,q];rfl];trivial
 |some t=>rw[show U.getD j .un=t by rw[v7,q];rfl];exact r.sl j t q
theorem RV.caps{F H:Hp}(r:RV K F H Y (cST n ix U))(hl:Y'.length=Y.length)(hk:∀i,n<=i->Y'.getD i none=Y.getD i none):RV K F H Y' (cST n ix U):=by
 refine⟨by rw[hl];exact r.len,λi s e=>?_⟩;by_cases h:i < n
 ·unfold cST at e;rw[xD (by simpa using h)]at e;simp[xK,h]at e;subst e;trivial
 ·rw[hk i (by lia)];exact r.sl i s e
noncomputable def zcf1(di:DF)(n:Nat)(ix:List Nat)(dg:DG)(dt:DT)(de:DE):DF:=λU Q=>di U λitems=>items.length<=sizeLine/\∃R:Nat->Option D->Prop,
 (∀i d,items[i]?=some d->dg d (cST n ix U) λU'=>dt U' λb=>if b=true then de U' λr=>R i (some r)else R i none) /\
 ∀os:List (Option D),os.length=items.length->(∀(j:Nat) o,os[j]?=some o->R j o)->Q (os.filterMap id)
noncomputable def zu51:DT:=λ_ Q=>Q true
section
variable {K:Fg}{wi:TI}{di:DF}{n:Nat}{ix:List Nat}{g:TG}{dg:DG}{tt:TT}{dt:DT}{te:TE}{de:DE}
theorem zwc:RfT K zm81 zu51:=λs rv h k=>k _ h _ _ (Ext.refl s)
theorem zp8(hi:RfJ K wi di)(hg:RfG K n g dg)(ht:RfT K tt dt)(he:RfE K te de):RfF K (zc81 wi n ix g tt te) (zcf1 di n ix dg dt de):=by
 intro F H Y U Qd Q s rv hd k;refine hi s rv hd λitems hx J F1 H1 e1 wj D hD=>?_;obtain⟨hz,R,hR,hQ⟩:=hx;have rv1:=zi51 n ix (rv.ext e1);have F1D:F1 D=none:=by
  cases q:F1 D with
 |none=>rfl
 |some o=>rw[e1.fh D o q]at hD;cases hD
 refine⟨λi m acc Y' H'=>m=items.length - i/\i<=items.length/\Y'.length=(compY n ix Y).length/\(∀j,n<=j->Y'.getD j none=(compY n ix Y).getD j none)/\∃(F':Hp)(os:List (Option PyData)),Ext F1 H1 F' H'/\F' D=none/\H' D=some (.lst acc)/\os.length=i/\(∀(j:Nat) o,os[j]?=some o->R j o)/\IsAll K F' acc (os.filterMap id),⟨items.length,rfl,wW _,rfl,λ_ _=>rfl,F1,[],?_,F1D,zj0,rfl,λj o e=>by simp at e,.nil⟩,?_⟩
 ·exact(zq8 (xs:=[]) e1.fh hD).1
 rintro i m acc Y' H' ⟨rfl,hi',hl,hk,F',os,ex,fD,hDD,hos,hRs,hall⟩;obtain⟨go,stop,yld⟩:=wj F' H' ex;by_cases hlt:i < items.length
 ·refine .inr ⟨go i hlt,λacc' Y2 H2=>i+1<=items.length/\Y2.length=(compY n ix Y).length/\(∀j,n<=j->Y2.getD j none=(compY n ix Y).getD j none)/\∃(F':Hp)(os:List (Option PyData)),Ext F1 H1 F' H2/\F' D=none/\H2 D=some (.lst acc')/\os.length=i+1/\(∀(j:Nat) o,os[j]?=some o->R j o)/\IsAll K F' acc' (os.filterMap id),λacc' Y2 H2 p=>⟨items.length - (i+1),by lia,rfl,p⟩,λx H2 y=>?_⟩;have hit:items[i]?=some items[i]:=u8 hlt;obtain⟨F2,ex2,ix2⟩:=yld i x H2 _ hit y;have rv2:RV K F2 H2 Y' (cST n ix U):=RV.caps (rv1.ext (ex.trans ex2)) hl hk;have hRn:∀o,R i o->∀(j:Nat) o',(os++[o])[j]?=some o'->R j o':=λo ho j o' e=>by
   rcases Nat.lt_trichotomy j os.length with h|h|h
   ·rw[xD h]at e;exact hRs j o' e
   ·subst h;rw[xC (u3 _)]at e;simp at e;subst e;rw[hos];exact ho
   ·rw[xC (yM h)]at e;cases q:j - os.length with
   |zero=>lia
   |succ z=>rw[q]at e;simp at e
  refine hg ex2.fh ix2 (hR i _ hit) λY2 U2 hd2 u2=>?_;have rv3:=u2.rv rv2;have kp:=u2.keep;have hl2:Y2.length=(compY n ix Y).length:=by rw[kp.1,hl]
  have hk2:∀j,n<=j->Y2.getD j none=(compY n ix Y).getD j none:=λj hj=>by rw[kp.2 j hj,hk j hj]
  refine ht ex2.fh rv3 hd2 λb hb F4 H4 e4=>?_;have e24:=ex2.trans e4;have hD4:H4 D=some (.lst acc):=e24.h _ _ hDD;have fD4:F4 D=none:=e24.nw D (by rw[hDD];simp) fD;cases b with
 |true =>
   rw[if_pos rfl]at hb ⊢;refine he e4.fh (rv3.ext e4) hb λr hr v F5 H5 e5 i5=>?_;have e25:=e24.trans e5;have hD5:H5 D=some (.lst acc):=e25.h _ _ hDD;have fD5:F5 D=none:=e25.nw D (by rw[hDD];simp) fD;have hlen:acc.length<=i:=by
    rw[hall.dlen,<- hos];exact j8 _ _
   have e15:=ex.trans e25;refine⟨hD5,by lia,hlt,hl2,hk2,F5,os++[some r],⟨λb o hb=>?_,e15.f,λb o hb=>?_,e15.nw⟩,fD5,zj0,by simp[hos],hRn _ hr,?_⟩
   ·have:b≠D:=λz=>by subst z;rw[hD]at hb;cases hb
    rw[zm0 this];exact e15.h b o hb
   ·have:b≠D:=λz=>by subst z;rw[fD5]at hb;cases hb
    rw[zm0 this];exact e15.fh b o hb
   ·rw[j9];exact(hall.mono e25.f).dapp (.cons i5 .nil)
 |false =>
   rw[if_neg wF]at hb ⊢;refine⟨hlt,hl2,hk2,F4,os++[none],ex.trans e24,fD4,hD4,by simp[hos],hRn _ hb,?_⟩;rw[j9];have:List.filterMap id [(none:Option PyData)]=[]:=rfl;rw[this,wQ];exact hall.mono e24.f
 ·have e:i=items.length:=by lia
  refine .inl ⟨by rw[e];exact stop,k _ (hQ os (by lia) hRs) D acc F' H' (e1.trans ex) ?_ hDD fD hall⟩;exact zo1 e1 hD
end
inductive Stp where
|ix (j:Nat)|fl (f:Str)
noncomputable abbrev Pth:=List Stp
noncomputable def putA(f:Str)(t:T):List (Str×T)->List (Str×T)
|[]=>[(f,t)]
|(g,x) :: r=>if g=f then(g,t) :: r else(g,x) :: putA f t r
noncomputable def setP:T->Pth->T->T
|_,[],u=>u
|.ls ts,.ix j :: p,u=>match ts[j]? with
 |some t=>.ls (ts.set j (setP t p u))
 |none=>.ls ts
|.tp ts,.ix j :: p,u=>match ts[j]? with
 |some t=>.tp (ts.set j (setP t p u))
 |none=>.tp ts
|.ob C fs,.fl f :: p,u=>match fs.lookup f with
 |some t=>.ob C (putA f (setP t p u) fs)
 |none=>.ob C fs
|t,_,_=>t
inductive At(H:Hp):V->T->Pth->V->T->Prop
|nil {v:V} {t:T}:At H v t [] v t
|ix {a:Addr} {xs:List V} {ts:List T} {j:Nat} {x v:V} {t u:T} {p:Pth}:H a=some (.lst xs)->xs[j]?=some x->ts[j]?=some t->At H x t p v u->At H (.ref a) (.ls ts) (.ix j :: p) v u
|tx {a:Addr} {xs:List V} {ts:List T} {j:Nat} {x v:V} {t u:T} {p:Pth}:H a=some (.tup xs)->xs[j]?=some x->ts[j]?=some t->At H x t p v u->At H (.ref a) (.tp ts) (.ix j :: p) v u
|fl {a C dx:Addr} {fs:List (Str×V)} {ts:List (Str×T)} {f:Str} {x v:V} {t u:T} {p:Pth}:H a=some (.ins C dx fs)->fs.lookup f=some x->ts.lookup f=some t->At H x t p v u->At H (.ref a) (.ob C ts) (.fl f :: p) v u
theorem At.mono{H:Hp}(s:Same H H'){v v':V}{t t':T}{p:Pth}(h:At H v t p v' t'):At H' v t p v' t':=by
 induction h with
|nil=>exact .nil
|ix h1 h2 h3 _ ih=>exact .ix (s _ _ h1) h2 h3 ih
|tx h1 h2 h3 _ ih=>exact .tx (s _ _ h1) h2 h3 ih
|fl h1 h2 h3 _ ih=>exact .fl (s _ _ h1) h2 h3 ih
theorem At.snoc_ix{H:Hp}{v y:V}{t u:T}{ts:List T}{j:Nat}{p:Pth}(h:At H v t p (.ref a) (.ls ts))(h1:H a=some (.lst xs))(h2:xs[j]?=some x)(h3:ts[j]?=some u):At H v t (p++[.ix j]) x u:=by
 generalize e:V.ref a=w at h;generalize e2:T.ls ts=z at h
 induction h with
|nil=>subst e e2;exact .ix h1 h2 h3 .nil
|ix g1 g2 g3 _ ih=>exact .ix g1 g2 g3 (ih e e2)
|tx g1 g2 g3 _ ih=>exact .tx g1 g2 g3 (ih e e2)
|fl g1 g2 g3 _ ih=>exact .fl g1 g2 g3 (ih e e2)
theorem At.snoc_tx{H:Hp}{v y:V}{t u:T}{ts:List T}{j:Nat}{p:Pth}(h:At H v t p (.ref a) (.tp ts))(h1:H a=some (.tup xs))(h2:xs[j]?=some x)(h3:ts[j]?=some u):At H v t (p++[.ix j]) x u:=by
 generalize e:V.ref a=w at h;generalize e2:T.tp ts=z at h
 induction h with
|nil=>subst e e2;exact .tx h1 h2 h3 .nil
|ix g1 g2 g3 _ ih=>exact .ix g1 g2 g3 (ih e e2)
|tx g1 g2 g3 _ ih=>exact .tx g1 g2 g3 (ih e e2)
|fl g1 g2 g3 _ ih=>exact .fl g1 g2 g3 (ih e e2)
theorem At.snoc_fl{H:Hp}{v:V}{t u:T}{ts:List (Str×T)}{fs:List (Str×V)}{p:Pth}(h:At H v t p (.ref a) (.ob C ts))(h1:H a=some (.ins C dx fs))(h2:fs.lookup f=some x)(h3:ts.lookup f=some u):At H v t (p++[.fl f]) x u:=by
 generalize e:V.ref a=w at h;generalize e2:T.ob C ts=z at h
 induction h with
|nil=>subst e e2;exact .fl h1 h2 h3 .nil
|ix g1 g2 g3 _ ih=>exact .ix g1 g2 g3 (ih e e2)
|tx g1 g2 g3 _ ih=>exact .tx g1 g2 g3 (ih e e2)
|fl g1 g2 g3 _ ih=>exact .fl g1 g2 g3 (ih e e2)
section
variable {K:Fg}
theorem RtAll.len{F H:Hp}:∀{xs:List V}{ts:List T}{fp:List Addr},RtAll K F H xs ts fp->xs.length=ts.length
|_,_,_,.nil=>rfl
|_,_,_,.cons _ r=>congrArg (·+1) (RtAll.len r)
theorem RtAll.split{F H:Hp}:∀{xs:List V}{ts:List T}{fp:List Addr}{j:Nat}{x:V}{t:T},RtAll K F H xs ts fp->xs[j]?=some x->ts[j]?=some t ->
  ∃fA fj fB,fp=fA++(fj++fB)/\Rt K F H x t fj/\∀{F2 H2:Hp}{u:T}{fq:List Addr},Same F F2->(∀b∈fA++fB,H2 b=H b/\F2 b=none)->Rt K F2 H2 x u fq->RtAll K F2 H2 xs (ts.set j u) (fA++(fq++fB))
|_,_,_,_,_,_,.nil,e,_=>by simp at e
|_,_,_,0,x,t,.cons (fp:=fp) (fq:=fq) h r,e1,e2=>by
  simp at e1 e2;subst e1 e2;exact⟨[],fp,fq,rfl,h,λs k g=>(by have z:=RtAll.cons g (r.frame s λb hb=>k b (by simp[hb]));exact z)⟩
|_,_,_,j+1,x,t,.cons (fp:=fp) (fq:=fq) h r,e1,e2=>by
  obtain⟨fA,fj,fB,e,hr,g⟩:=RtAll.split (j:=j) r (by simpa using e1) (by simpa using e2);refine⟨fp++fA,fj,fB,by rw[e,yD],hr,λs k hu=>?_⟩;rw[yD];exact .cons (h.frame s λb hb=>k b (by simp[hb])) (g s (λb hb=>k b (by rcases u6.mp hb with z|z <;> simp[z])) hu)
theorem RtFs.split{F H:Hp}:∀{xs:List (Str×V)}{ts:List (Str×T)}{fp:List Addr}{f:Str}{x:V}{t:T},RtFs K F H xs ts fp->xs.lookup f=some x->ts.lookup f=some t ->
  ∃fA fj fB,fp=fA++(fj++fB)/\Rt K F H x t fj/\(∀{F2 H2:Hp}{u:T}{fq:List Addr},Same F F2->(∀b∈fA++fB,H2 b=H b/\F2 b=none)->Rt K F2 H2 x u fq->RtFs K F2 H2 xs (putA f u ts) (fA++(fq++fB))) /\
   (∀{F2 H2:Hp}{y:V}{u:T}{fq:List Addr},Same F F2->(∀b∈fA++fB,H2 b=H b/\F2 b=none)->Rt K F2 H2 y u fq->RtFs K F2 H2 (putF f y xs) (putA f u ts) (fA++(fq++fB)))
|_,_,_,_,_,_,.nil,e,_=>by cases e
|_,_,_,f,x,t,.cons (f:=g) (x:=x') (t:=t') (fp:=fp) (fq:=fq) h r,e1,e2=>by
  by_cases hg:f=g
  ·subst hg;simp[w6]at e1 e2;subst e1 e2;refine⟨[],fp,fq,rfl,h,λs k u=>?_,λs k u=>?_⟩
   ·show RtFs K _ _ _ (putA f _ ((f,_) :: _)) _;rw[show putA f _ ((f,t') :: _)=(f,_) :: _ from if_pos rfl];have z:=RtFs.cons (f:=f) u (r.frame s λb hb=>k b (by simp[hb]));exact z
   ·rw[show putA f _ ((f,t') :: _)=(f,_) :: _ from if_pos rfl,show putF f _ ((f,x') :: _)=(f,_) :: _ from if_pos rfl];have z:=RtFs.cons (f:=f) u (r.frame s λb hb=>k b (by simp[hb]));exact z
  ·have hb:(f == g)=false:=beq_eq_false_iff_ne.mpr hg;simp only[w6,hb]at e1 e2;obtain⟨fA,fj,fB,e,hr,q1,q2⟩:=RtFs.split r e1 e2;have hgf:¬g=f:=λz=>hg z.symm;refine⟨fp++fA,fj,fB,by rw[e,yD],hr,λs k u=>?_,λs k u=>?_⟩
   ·rw[show putA f _ ((g,t') :: _)=(g,t') :: putA f _ _ from if_neg hgf,yD];exact .cons (h.frame s λb hb=>k b (by simp[hb])) (q1 s (λb hb=>k b (by rcases u6.mp hb with z|z <;> simp[z])) u)
   ·rw[show putA f _ ((g,t') :: _)=(g,t') :: putA f _ _ from if_neg hgf,show putF f _ ((g,x') :: _)=(g,x') :: putF f _ _ from if_neg hgf,yD];exact .cons (h.frame s λb hb=>k b (by simp[hb])) (q2 s (λb hb=>k b (by rcases u6.mp hb with z|z <;> simp[z])) u)
theorem RtFs.add{F H F2 H2:Hp}{y:V}{u:T}{fq:List Addr}(s:Same F F2)(hu:Rt K F2 H2 y u fq):∀{xs:List (Str×V)}{ts:List (Str×T)}{fp:List Addr}{f:Str},RtFs K F H xs ts fp->ts.lookup f=none->(∀b∈fp,H2 b=H b/\F2 b=none)->RtFs K F2 H2 (putF f y xs) (putA f u ts) (fp++fq)
|_,_,_,f,.nil,_,_=>by
  show RtFs K F2 H2 [(f,y)] [(f,u)] fq;have:=RtFs.cons (f:=f) hu (.nil (K:=K) (F:=F2) (H:=H2))
  rwa [wQ]at this
|_,_,_,f,.cons (f:=g) (x:=x') (t:=t') (fp:=fp) (fq:=fq') h r,e,k=>by
  have hg:¬f=g:=λz=>by subst z;simp[w6]at e
  have hb:(f == g)=false:=beq_eq_false_iff_ne.mpr hg;simp only[w6,hb]at e;have hgf:¬g=f:=λz=>hg z.symm;rw[show putA f u ((g,t') :: _)=(g,t') :: putA f u _ from if_neg hgf,show putF f y ((g,x') :: _)=(g,x') :: putF f y _ from if_neg hgf,yD];exact .cons (h.frame s λb hb=>k b (by simp[hb])) (RtFs.add s hu r e λb hb=>k b (by simp[hb]))
theorem RtFs.keys{F H:Hp}{xs:List (Str×V)}{ts:List (Str×T)}(f:Str)(h:RtFs K F H xs ts fp):(ts.lookup f=none->xs.lookup f=none)/\(∀t,ts.lookup f=some t->∃x,xs.lookup f=some x)/\xs.length=ts.length :=
 (Rt.ind (P:=λ_ _ _=>True) (Q:=λ_ _ _=>True) (R:=λxs ts _=>(ts.lookup f=none->xs.lookup f=none)/\(∀t,ts.lookup f=some t->∃x,xs.lookup f=some x)/\xs.length=ts.length)
  (λ_=>trivial) (λ_ _ _=>trivial) (λ_ _ _=>trivial) (λ_ _ _ _ _=>trivial) (λ_ _ _=>trivial) (λ_ _ _=>trivial) (λ_ _ _=>trivial) trivial (λ_ _=>trivial) ⟨λ_=>rfl,(λt e=>by cases e),rfl⟩
  λ{g x _ _ _ _ _} _ ⟨k1,k2,k3⟩=>by
   rw[xO,xO,k3,wO,wO];cases f == g with
  |true=>exact⟨(λe=>by cases e),λ_ _=>⟨x,rfl⟩,rfl⟩
  |false=>exact⟨k1,k2,rfl⟩).2.2 h
theorem zdb1{F H:Hp}{v:V}{t u:T}{p:Pth}(h:At H x t p v u):∀{fp:List Addr},Rt K F H x t fp->fp.Nodup->∃fn,Rt K F H v u fn/\(∀a∈fn,a∈fp)/\fn.Nodup /\
  ∀{F2 H2:Hp}{u2:T}{fq:List Addr},Same F F2->(∀b∈fp,b ∉ fn->H2 b=H b/\F2 b=none)->Rt K F2 H2 v u2 fq->fq.Nodup->(∀b∈fq,b∈fn \/ b ∉ fp)->∃fp2,Rt K F2 H2 x (setP t p u2) fp2/\fp2.Nodup/\∀b∈fp2,(b∈fp/\b ∉ fn) \/ b∈fq:=by
 induction h with
|nil =>
  intro fp hr nd;refine⟨fp,hr,λa z=>z,nd,λ{F2 H2 u2 fq} _ _ h2 n2 _=>⟨fq,?_,n2,λb hb=>.inr hb⟩⟩;cases u2 <;> exact h2
|@ix a0 xs0 ts0 j0 x0 v0 t0 u0 p0 h1 h2 h3 _ ih =>
  intro fp hr nd;cases hr with
 |ls g1 g2 g3 =>
   rw[h1]at g1;cases g1;obtain⟨fA,fj,fB,e,hj,rep⟩:=g3.split h2 h3;subst e;have ndR:=(wG.mp nd).2;have nA:=(wG.mp nd).1;obtain⟨ndA,ndJB,djA⟩:=wL.mp ndR;obtain⟨ndj,ndB,djB⟩:=wL.mp ndJB;obtain⟨fn,hn,sub,ndn,back⟩:=ih hj ndj;refine⟨fn,hn,λa ha=>by simp[sub a ha],ndn,λ{F2 H2 u2 fq} s k hu nq hq=>?_⟩;obtain⟨f2,r2,n2,m2⟩:=back s (λb hb hnb=>k b (by simp[hb]) hnb) hu nq λb hb=>by
    rcases hq b hb with z|z
    ·exact .inl z
    ·exact .inr λy=>z (by simp[y])
   have notin:∀b,b∈fA \/ b∈fB->b ∉ fn:=λb hb hn'=>by
    have:=sub b hn';rcases hb with z|z
    ·exact djA b z b (by simp[this]) rfl
    ·exact djB b this b z rfl
   have rA:=rep s (λb hb=>by
    have hb':=u6.mp hb;refine k b (by rcases hb' with z|z <;> simp[z]) (notin b hb')) r2
   have hnotq:∀b,(b∈fA \/ b∈fB \/ b=a0)->b ∉ fq:=λb hb hbq=>by
    rcases hq b hbq with z|z
    ·rcases hb with y|y|y
     ·exact notin b (.inl y) z
     ·exact notin b (.inr y) z
     ·subst y;exact nA (by simp[sub _ z])
    ·apply z;rcases hb with y|y|y
     ·simp[y]
     ·simp[y]
     ·simp[y]
   have ha2:=k _ (wJ) (λz=>nA (by simp[sub _ z]));refine⟨a0 :: (fA++(f2++fB)),?_,?_,?_⟩
   ·unfold setP;rw[h3];exact .ls (by rw[ha2.1];exact h1) ha2.2 rA
   ·refine wG.mpr ⟨λz=>?_,?_⟩
    ·rcases u6.mp z with y|y
     ·exact nA (by simp[y])
     ·rcases u6.mp y with y|y
      ·rcases m2 _ y with⟨y1,_⟩|y1
       ·exact nA (by simp[y1])
       ·exact hnotq _ (.inr (.inr rfl)) y1
      ·exact nA (by simp[y])
    ·refine wL.mpr ⟨ndA,wL.mpr ⟨n2,ndB,λa ha b hb=>?_⟩,λa ha b hb=>?_⟩
     ·rcases m2 a ha with⟨y,_⟩|y
      ·exact djB a y b hb
      ·intro z;subst z;exact hnotq a (.inr (.inl hb)) y
     ·rcases u6.mp hb with y|y
      ·rcases m2 b y with⟨y,_⟩|y
       ·exact djA a ha b (by simp[y])
       ·intro z;subst z;exact hnotq a (.inl ha) y
      ·exact djA a ha b (by simp[y])
   ·intro b hb;rcases v6.mp hb with y|y
    ·subst y;exact .inl ⟨by simp,λz=>nA (by simp[sub _ z])⟩
    ·rcases u6.mp y with y|y
     ·exact .inl ⟨by simp[y],notin b (.inl y)⟩
     ·rcases u6.mp y with y|y
      ·rcases m2 b y with⟨y1,y2⟩|y1
       ·exact .inl ⟨by simp[y1],y2⟩
       ·exact .inr y1
      ·exact .inl ⟨by simp[y],notin b (.inr y)⟩
|@tx a0 xs0 ts0 j0 x0 v0 t0 u0 p0 h1 h2 h3 _ ih =>
  intro fp hr nd;cases hr with
 |tp g1 g2 g3 =>
   rw[h1]at g1;cases g1;obtain⟨fA,fj,fB,e,hj,rep⟩:=g3.split h2 h3;subst e;have ndR:=(wG.mp nd).2;have nA:=(wG.mp nd).1;obtain⟨ndA,ndJB,djA⟩:=wL.mp ndR;obtain⟨ndj,ndB,djB⟩:=wL.mp ndJB;obtain⟨fn,hn,sub,ndn,back⟩:=ih hj ndj;refine⟨fn,hn,λa ha=>by simp[sub a ha],ndn,λ{F2 H2 u2 fq} s k hu nq hq=>?_⟩;obtain⟨f2,r2,n2,m2⟩:=back s (λb hb hnb=>k b (by simp[hb]) hnb) hu nq λb hb=>by
    rcases hq b hb with z|z
    ·exact .inl z
    ·exact .inr λy=>z (by simp[y])
   have notin:∀b,b∈fA \/ b∈fB->b ∉ fn:=λb hb hn'=>by
    have:=sub b hn';rcases hb with z|z
    ·exact djA b z b (by simp[this]) rfl
    ·exact djB b this b z rfl
   have rA:=rep s (λb hb=>by
    have hb':=u6.mp hb;refine k b (by rcases hb' with z|z <;> simp[z]) (notin b hb')) r2
   have hnotq:∀b,(b∈fA \/ b∈fB \/ b=a0)->b ∉ fq:=λb hb hbq=>by
    rcases hq b hbq with z|z
    ·rcases hb with y|y|y
     ·exact notin b (.inl y) z
     ·exact notin b (.inr y) z
     ·subst y;exact nA (by simp[sub _ z])
    ·apply z;rcases hb with y|y|y
     ·simp[y]
     ·simp[y]
     ·simp[y]
   have ha2:=k _ (wJ) (λz=>nA (by simp[sub _ z]));refine⟨a0 :: (fA++(f2++fB)),?_,?_,?_⟩
   ·unfold setP;rw[h3];exact .tp (by rw[ha2.1];exact h1) ha2.2 rA
   ·refine wG.mpr ⟨λz=>?_,?_⟩
    ·rcases u6.mp z with y|y
     ·exact nA (by simp[y])
     ·rcases u6.mp y with y|y
      ·rcases m2 _ y with⟨y1,_⟩|y1
       ·exact nA (by simp[y1])
       ·exact hnotq _ (.inr (.inr rfl)) y1
      ·exact nA (by simp[y])
    ·refine wL.mpr ⟨ndA,wL.mpr ⟨n2,ndB,λa ha b hb=>?_⟩,λa ha b hb=>?_⟩
     ·rcases m2 a ha with⟨y,_⟩|y
      ·exact djB a y b hb
      ·intro z;subst z;exact hnotq a (.inr (.inl hb)) y
     ·rcases u6.mp hb with y|y
      ·rcases m2 b y with⟨y,_⟩|y
       ·exact djA a ha b (by simp[y])
       ·intro z;subst z;exact hnotq a (.inl ha) y
      ·exact djA a ha b (by simp[y])
   ·intro b hb;rcases v6.mp hb with y|y
    ·subst y;exact .inl ⟨by simp,λz=>nA (by simp[sub _ z])⟩
    ·rcases u6.mp y with y|y
     ·exact .inl ⟨by simp[y],notin b (.inl y)⟩
     ·rcases u6.mp y with y|y
      ·rcases m2 b y with⟨y1,y2⟩|y1
       ·exact .inl ⟨by simp[y1],y2⟩
       ·exact .inr y1
      ·exact .inl ⟨by simp[y],notin b (.inr y)⟩
|@fl a0 C0 dx0 fs0 ts0 f0 x0 v0 t0 u0 p0 h1 h2 h3 _ ih =>
  intro fp hr nd;cases hr with
 |ob g1 g2 g3 g4 g5 =>
   rw[h1]at g1;cases g1;obtain⟨fA,fj,fB,e,hj,rep,_⟩:=g5.split h2 h3;subst e;have nd1:=wG.mp nd;have nd2:=wG.mp nd1.2;have ndR:=nd2.2;have nA:_ ∉ fA++(fj++fB):=λz=>nd1.1 (v8 _ z);have nX:=nd2.1;obtain⟨ndA,ndJB,djA⟩:=wL.mp ndR;obtain⟨ndj,ndB,djB⟩:=wL.mp ndJB;obtain⟨fn,hn,sub,ndn,back⟩:=ih hj ndj;refine⟨fn,hn,λa ha=>by simp[sub a ha],ndn,λ{F2 H2 u2 fq} s k hu nq hq=>?_⟩;obtain⟨f2,r2,n2,m2⟩:=back s (λb hb hnb=>k b (by simp[hb]) hnb) hu nq λb hb=>by
    rcases hq b hb with z|z
    ·exact .inl z
    ·exact .inr λy=>z (by simp[y])
   have notin:∀b,b∈fA \/ b∈fB->b ∉ fn:=λb hb hn'=>by
    have:=sub b hn';rcases hb with z|z
    ·exact djA b z b (by simp[this]) rfl
    ·exact djB b this b z rfl
   have rA:=rep s (λb hb=>by
    have hb':=u6.mp hb;refine k b (by rcases hb' with z|z <;> simp[z]) (notin b hb')) r2
   have hnotq:∀b,(b∈fA \/ b∈fB)->b ∉ fq:=λb hb hbq=>by
    rcases hq b hbq with z|z
    ·exact notin b hb z
    ·apply z;rcases hb with y|y <;> simp[y]
   have hnq2:∀b,b∈fn->b∈fA++(fj++fB):=λb hb=>by simp[sub _ hb]
   have ha2:=k _ (wJ) (λz=>nA (hnq2 _ z));have hx2:=k _ (v8 _ wJ) (λz=>nX (hnq2 _ z));have hf2:∀b∈f2,b∈fj \/ b∈fq:=λb hb=>by
    rcases m2 b hb with⟨y,_⟩|y
    ·exact .inl y
    ·exact .inr y
   refine⟨a0 :: dx0 :: (fA++(f2++fB)),?_,?_,?_⟩
   ·unfold setP;rw[h3];exact .ob (by rw[ha2.1];exact h1) (by rw[hx2.1];exact g2) ha2.2 hx2.2 rA
   ·have inR:∀b,b∈fA++(f2++fB)->b∈fA++(fj++fB) \/ b∈fq:=λb hb=>by
     rcases u6.mp hb with y|y
     ·exact .inl (by simp[y])
     ·rcases u6.mp y with y|y
      ·rcases hf2 b y with y|y
       ·exact .inl (by simp[y])
       ·exact .inr y
      ·exact .inl (by simp[y])
    refine wG.mpr ⟨λz=>?_,wG.mpr ⟨λz=>?_,?_⟩⟩
    ·rcases v6.mp z with y|y
     ·exact nd1.1 (by rw[y];simp)
     ·rcases inR _ y with y|y
      ·exact nA y
      ·rcases hq _ y with w|w
       ·exact nA (hnq2 _ w)
       ·exact w (by simp)
    ·rcases inR _ z with y|y
     ·exact nX y
     ·rcases hq _ y with w|w
      ·exact nX (hnq2 _ w)
      ·exact w (by simp)
    ·refine wL.mpr ⟨ndA,wL.mpr ⟨n2,ndB,λa ha b hb=>?_⟩,λa ha b hb=>?_⟩
     ·rcases m2 a ha with⟨y,_⟩|y
      ·exact djB a y b hb
      ·intro z;subst z;exact hnotq a (.inr hb) y
     ·rcases u6.mp hb with y|y
      ·rcases m2 b y with⟨y,_⟩|y
       ·exact djA a ha b (by simp[y])
       ·intro z;subst z;exact hnotq a (.inl ha) y
      ·exact djA a ha b (by simp[y])
   ·intro b hb;rcases v6.mp hb with y|y
    ·subst y;exact .inl ⟨by simp,λz=>nA (hnq2 _ z)⟩
    ·rcases v6.mp y with y|y
     ·subst y;exact .inl ⟨by simp,λz=>nX (hnq2 _ z)⟩
     ·rcases u6.mp y with y|y
      ·exact .inl ⟨by simp[y],notin b (.inl y)⟩
      ·rcases u6.mp y with y|y
       ·rcases m2 b y with⟨y1,y2⟩|y1
        ·exact .inl ⟨by simp[y1],y2⟩
        ·exact .inr y1
       ·exact .inl ⟨by simp[y],notin b (.inr y)⟩
end
noncomputable def AtS(H:Hp)(Y:_2.St)(U:DSt)(i:Nat)(p:Pth)(v:V)(u:T):Prop:=∃s t x,U[i]?=some s/\s.tree=some t/\Y.getD i none=some x/\At H x t p v u
noncomputable abbrev DP:=DSt->(Nat->Pth->T->Prop)->Prop
noncomputable def RfP(K:Fg)(te:TE)(dp:DP):Prop:=∀{F H:Hp}{Y:_2.St}{U:DSt}{Qd:Nat->Pth->T->Prop}{Q:VK},Same F H->RV K F H Y U->dp U Qd->(∀i p u,Qd i p u->∀v F' H',Ext F H F' H'->AtS H' Y U i p v u->Q v H')->te Y H Q
section
variable {K:Fg}{te ti:TE}{dp:DP}{di:DE}
theorem zqf1{F H:Hp}{v:V}{t u:T}{p:Pth}(h:At H x t p v u):∀{fp:List Addr},Rt K F H x t fp->∃fn,Rt K F H v u fn:=by
 induction h with
|nil=>intro fp hr;exact⟨fp,hr⟩
|ix h1 h2 h3 _ ih =>
  intro fp hr;cases hr with
 |ls g1 g2 g3 =>
   rw[h1]at g1;cases g1;obtain⟨fA,fj,fB,e,hj,_⟩:=g3.split h2 h3;exact ih hj
|tx h1 h2 h3 _ ih =>
  intro fp hr;cases hr with
 |tp g1 g2 g3 =>
   rw[h1]at g1;cases g1;obtain⟨fA,fj,fB,e,hj,_⟩:=g3.split h2 h3;exact ih hj
|fl h1 h2 h3 _ ih =>
  intro fp hr;cases hr with
 |ob g1 g2 g3 g4 g5 =>
   rw[h1]at g1;cases g1;obtain⟨fA,fj,fB,e,hj,_⟩:=g5.split h2 h3;exact ih hj
theorem AtS.rt{F H:Hp}{Y:_2.St}{U:DSt}{i:Nat}{p:Pth}{v:V}{u:T}(h:AtS H Y U i p v u)(r:RV K F H Y U):∃fn,Rt K F H v u fn:=by
 obtain⟨s,t,x,h1,h2,h3,h4⟩:=h;obtain⟨y,fp,e,hr,_⟩:=(r.sl i s h1).rt h2;rw[h3]at e;cases e;exact zqf1 h4 hr
theorem AtS.mono{H H':Hp}{Y:_2.St}{U:DSt}{i:Nat}{p:Pth}{v:V}{u:T}(s:Same H H')(h:AtS H Y U i p v u):AtS H' Y U i p v u:=by
 obtain⟨s',t,x,h1,h2,h3,h4⟩:=h;exact⟨s',t,x,h1,h2,h3,h4.mono s⟩
noncomputable def pVar(i:Nat):DP:=λU Q=>pAt U i λt=>Q i [] t
theorem zl0(i:Nat):RfP K (tVar i) (pVar i):=by
 intro F H Y U Qd Q s r h k;obtain⟨sl,t,q,et,f⟩:=zrt h;obtain⟨x,fp,e,hr,_⟩:=(r.sl i _ q).rt et;exact⟨x,zff (F:=F) (H:=H) (U:=U) e,k i [] t f x F H (Ext.refl s) ⟨sl,t,x,q,et,e,.nil⟩⟩
noncomputable def nFld(f:Str)(u:T)(Q:T->Prop):Prop:=match u with
|.ob _ fs=>∃t,fs.lookup f=some t/\Q t
|_=>False
noncomputable def nCls(C:Addr)(u:T):Prop:=match u with
|.ob C' _=>C'=C
|_=>False
noncomputable def pFld(C:Addr)(f:Str)(dp:DP):DP:=λU Q=>dp U λi p u=>nCls C u/\nFld f u λt=>Q i (p++[.fl f]) t
theorem zu1(c:Cls K C)(na:NoAttr K C f)(h:RfP K te dp):RfP K (zbf1 K te f) (pFld C f dp):=by
 intro F H Y U Qd Q s r hd k;refine h s r hd λi p u hu v F1 H1 e1 at1=>?_;obtain⟨hc,hf⟩:=hu;obtain⟨fn,hr⟩:=at1.rt (r.ext e1);cases hr with
|ob g1 g2 g3 g4 g5 =>
  cases (show _=C from hc);obtain⟨t,et,q⟩:=hf;obtain⟨y,ey⟩:=(g5.keys f).2.1 t et;refine⟨_,_,_,_,y,rfl,g1,c,na,ey,k i _ t q y F1 H1 e1 ?_⟩;obtain⟨sl,t0,x,a1,a2,a3,a4⟩:=at1;exact⟨sl,t0,x,a1,a2,a3,a4.snoc_fl g1 ey et⟩
|fz _=>exact hc.elim
|li _ _ _=>exact hc.elim
|ls _ _ _=>exact hc.elim
|dk _ _ _=>exact hc.elim
|dt _ _ _=>exact hc.elim
|tp _ _ _=>exact hc.elim
noncomputable def nIx(u:T)(k:D)(Q:Nat->T->Prop):Prop:=match u,k with
|.ls ts,.int z=>∃j t,ixN ts.length z=some j/\ts[j]?=some t/\Q j t
|.tp ts,.int z=>∃j t,ixN ts.length z=some j/\ts[j]?=some t/\Q j t
|_,_=>False
noncomputable def pIx(dp:DP)(di:DE):DP:=λU Q=>dp U λi p u=>di U λk=>nIx u k λj t=>Q i (p++[.ix j]) t
theorem za7{w:World}(h:RfP K te dp)(hi:RfE K ti di):RfP K (tOp (rIxV w K) te ti) (pIx dp di):=by
 intro F H Y U Qd Q s r hd k;refine h s r hd λi p u hu v F1 H1 e1 at1=>hi e1.fh (r.ext e1) hu λkd hk kv F2 H2 e2 i2=>?_;have e12:=e1.trans e2;have at2:=at1.mono e2.h;obtain⟨fn,hr⟩:=at2.rt (r.ext e12);unfold nIx at hk;split at hk
 ·rename_i ts z
  obtain⟨j,t,ej,et,q⟩:=hk;cases i2.int_inv;cases hr with
 |ls g1 g2 g3 =>
   have el:=g3.len;have hj:j < ts.length:=by
    rcases xF j ts.length with y|y
    ·exact y
    ·rw[w8 y]at et;cases et
   rename_i a xs fp
   obtain⟨y,hx⟩:∃y,xs[j]?=some y:=⟨xs[j]'(by lia),u8 _⟩
   refine .inl (.inl (.inl ⟨a,xs,z,y,rfl,rfl,SqL.of g1,?_,k i _ t q _ F2 H2 e12 ?_⟩))
   ·unfold atI;rw[el,ej];exact hx
   ·obtain⟨sl,t0,x,a1,a2,a3,a4⟩:=at2;exact⟨sl,t0,x,a1,a2,a3,a4.snoc_ix (y:=x) g1 hx et⟩
 ·rename_i ts z
  obtain⟨j,t,ej,et,q⟩:=hk;cases i2.int_inv;cases hr with
 |tp g1 g2 g3 =>
   have el:=g3.len;have hj:j < ts.length:=by
    rcases xF j ts.length with y|y
    ·exact y
    ·rw[w8 y]at et;cases et
   rename_i a xs fp
   obtain⟨y,hx⟩:∃y,xs[j]?=some y:=⟨xs[j]'(by lia),u8 _⟩
   refine .inl (zjg1 (SqT.of g1) (v:=y) ?_ (k i _ t q _ F2 H2 e12 ?_))
   ·unfold atI;rw[el,ej];exact hx
   ·obtain⟨sl,t0,x,a1,a2,a3,a4⟩:=at2;exact⟨sl,t0,x,a1,a2,a3,a4.snoc_tx (y:=x) g1 hx et⟩
 ·exact hk.elim
noncomputable def dPV(dp:DP):DE:=λU Q=>dp U λ_ _ u=>vwT u Q
noncomputable def dPE(dp:DP):DE:=λU Q=>dp U λ_ _ u=>fzT u Q
theorem RfP.v(h:RfP K te dp):RfV K te (dPV dp):=λs r d k=>h s r d λi p u hu v F1 H1 e1 at1=>by
 obtain⟨fn,hr⟩:=at1.rt (r.ext e1);obtain⟨d,qd,vw⟩:=zgf1 hr hu;exact k d qd v F1 H1 e1 vw
theorem RfP.e(h:RfP K te dp):RfE K te (dPE dp):=λs r d k=>h s r d λi p u hu v F1 H1 e1 at1=>by
 obtain⟨fn,hr⟩:=at1.rt (r.ext e1);obtain⟨d,qd,vw⟩:=zn21 hr hu;exact k d qd v F1 H1 e1 vw
end
structure Bs where
 F0:Hp
 H0:Hp
 G:List Addr
noncomputable def Sl.own:Sl->Bool
|.ow _=>true
|.io _ _=>true
|_=>false
noncomputable def Sl.has:Sl->Bool
|.ow _=>true
|.io _ _=>true
|.bo _=>true
|_=>false
noncomputable def Sl.wth:Sl->T->Sl
|.ow _,u=>.ow u
|.io a _,u=>.io a u
|s,_=>s
structure RS(K:Fg)(B:Bs)(F H:Hp)(Y:_2.St)(U:DSt)(fps:Nat->List Addr):Prop where
 hh:∀b o,b ∉ B.G->B.H0 b=some o->H b=some o
 ff:Same B.F0 F
 fh:Same F H
 nw:∀b,B.H0 b≠none->B.F0 b=none->F b=none
 al:∀b,B.H0 b≠none->H b≠none
 len:Y.length=U.length
 sh:∀(i:Nat) d,U[i]?=some (.sh d)->∃x,Y.getD i none=some x/\Is K F x d
 rt:∀(i:Nat) s,U[i]?=some s->s.has=true->∃x t,Y.getD i none=some x/\s.tree=some t/\Rt K F H x t (fps i)/\(∀a u,s=.io a u->x=.ref a)/\(fps i).Nodup
 fr:∀(i:Nat) s,U[i]?=some s->s.own=true->∀a∈fps i,B.H0 a=none \/ (a∈B.G/\∀t,s≠.ow t)
 dj:∀(i j:Nat) s s',i≠j->U[i]?=some s->U[j]?=some s'->s.own=true->s'.has=true->∀a∈fps i,a ∉ fps j
section
variable {K:Fg}{B:Bs}{F H F' H':Hp}{Y:_2.St}{U:DSt}{fps:Nat->List Addr}
theorem zda:∀{s:Sl},s.own=true->s.has=true
|.ow _,_=>rfl
|.io _ _,_=>rfl
|.un,e=>by cases e
|.sh _,e=>by cases e
|.bo _,e=>by cases e
theorem RS.rv(r:RS K B F H Y U fps):RV K F H Y U:=⟨r.len,λi s e=>by
 cases s with
|un=>trivial
|sh d=>exact r.sh i d e
|ow t =>
  obtain⟨x,t',h1,h2,h3,h4,h5⟩:=r.rt i _ e rfl;cases h2;exact⟨x,_,h1,h3,h5⟩
|bo t =>
  obtain⟨x,t',h1,h2,h3,h4,h5⟩:=r.rt i _ e rfl;cases h2;exact⟨x,_,h1,h3,h5⟩
|io a t =>
  obtain⟨x,t',h1,h2,h3,h4,h5⟩:=r.rt i _ e rfl;cases h2;cases h4 a t rfl;exact⟨_,h1,h3,h5⟩⟩
theorem RS.grow(r:RS K B F H Y U fps)(e:Ext F H F' H'):RS K B F' H' Y U fps where
 hh:=λb o hb ho=>e.h b o (r.hh b o hb ho)
 ff:=r.ff.trans e.f
 fh:=e.fh
 nw:=λb hb fb=>e.nw b (r.al b hb) (r.nw b hb fb)
 al:=λb hb z=>by
  cases q:H b with
 |none=>exact r.al b hb q
 |some o=>rw[e.h b o q]at z;cases z
 len:=r.len
 sh:=λi d h=>by obtain⟨x,h1,h2⟩:=r.sh i d h;exact⟨x,h1,h2.mono e.f⟩
 rt:=λi s h1 h2=>by obtain⟨x,t,a1,a2,a3,a4,a5⟩:=r.rt i s h1 h2;exact⟨x,t,a1,a2,a3.ext e,a4,a5⟩
 fr:=r.fr
 dj:=r.dj
theorem RS.setS(r:RS K B F H Y U fps){v:V}{d:D}(h:Is K F v d):RS K B F H (Y.set i (some v)) (U.set i (.sh d)) fps:=by
 have key:∀(j:Nat) s,(U.set i (.sh d))[j]?=some s->(j=i/\s=.sh d/\(Y.set i (some v)).getD j none=some v) \/ (j≠i/\U[j]?=some s/\(Y.set i (some v)).getD j none=Y.getD j none):=λj s e=>by
  rw[xL]at e;by_cases hij:i=j
  ·subst hij;by_cases hl:i < U.length
   ·simp[hl]at e;exact .inl ⟨rfl,e.symm,by rw[zx5,r.len,if_pos ⟨rfl,hl⟩]⟩
   ·simp[hl]at e
  ·simp[hij]at e;exact .inr ⟨λz=>hij z.symm,e,by rw[zx5,if_neg (by lia)]⟩
 refine⟨r.hh,r.ff,r.fh,r.nw,r.al,by rw[xH,xH];exact r.len,λj d' e=>?_,λj s e hs=>?_,λj s e hs=>?_,λj k s s' hjk e1 e2 o1 o2=>?_⟩
 ·rcases key j _ e with⟨_,e2,e3⟩|⟨_,e2,e3⟩
  ·cases e2;exact⟨v,e3,h⟩
  ·obtain⟨x,h1,h2⟩:=r.sh j d' e2;exact⟨x,by rw[e3];exact h1,h2⟩
 ·rcases key j _ e with⟨_,e2,e3⟩|⟨_,e2,e3⟩
  ·rw[e2]at hs;cases hs
  ·rw[e3];exact r.rt j s e2 hs
 ·rcases key j _ e with⟨_,e2,e3⟩|⟨_,e2,e3⟩
  ·rw[e2]at hs;cases hs
  ·exact r.fr j s e2 hs
 ·rcases key j _ e1 with⟨_,z,_⟩|⟨_,z1,_⟩
  ·rw[z]at o1;cases o1
  ·rcases key k _ e2 with⟨_,z,_⟩|⟨_,z2,_⟩
   ·rw[z]at o2;cases o2
   ·exact r.dj j k s s' hjk z1 z2 o1 o2
theorem RS.byUpd(u:Upd K F n Y U Y' U')(r:RS K B F H Y U fps):RS K B F H Y' U' fps:=by
 induction u with
|refl=>exact r
|set hi hv _ ih=>exact ih (r.setS hv)
theorem RS.forget(r:RS K B F H Y U fps)(i:Nat):RS K B F H Y (U.set i .un) fps:=by
 have key:∀(j:Nat) s,(U.set i .un)[j]?=some s->s=.un \/ (j≠i/\U[j]?=some s):=λj s e=>by
  rw[xL]at e;by_cases hij:i=j
  ·subst hij;by_cases hl:i < U.length
   ·simp[hl]at e;exact .inl e.symm
   ·simp[hl]at e
  ·simp[hij]at e;exact .inr ⟨λz=>hij z.symm,e⟩
 refine⟨r.hh,r.ff,r.fh,r.nw,r.al,by rw[xH];exact r.len,λj d' e=>?_,λj s e hs=>?_,λj s e hs=>?_,λj k s s' hjk e1 e2 o1 o2=>?_⟩
 ·rcases key j _ e with z|⟨_,z⟩
  ·cases z
  ·exact r.sh j d' z
 ·rcases key j _ e with z|⟨_,z⟩
  ·rw[z]at hs;cases hs
  ·exact r.rt j s z hs
 ·rcases key j _ e with z|⟨_,z⟩
  ·rw[z]at hs;cases hs
  ·exact r.fr j s z hs
 ·rcases key j _ e1 with z|⟨_,z1⟩
  ·rw[z]at o1;cases o1
  ·rcases key k _ e2 with z|⟨_,z2⟩
   ·rw[z]at o2;cases o2
   ·exact r.dj j k s s' hjk z1 z2 o1 o2
noncomputable def zs41(B:Bs)(U:DSt)(fps:Nat->List Addr)(b:Addr):Prop:=B.H0 b=none/\∀(j:Nat) s,U[j]?=some s->s.has=true->b ∉ fps j
theorem RS.newOk(r:RS K B F H Y U fps){b:Addr}(h:H b=none):zs41 B U fps b:=by
 refine⟨?_,λj s ej hs hb=>?_⟩
 ·by_cases z:B.H0 b=none
  ·exact z
  ·exact absurd h (r.al b z)
 ·obtain⟨x,t,a1,a2,a3,a4,a5⟩:=r.rt j s ej hs;exact(a3.dom b hb).1 h
theorem RS.upd2(r:RS K B F H Y U fps){s:Sl}{t2:T}{fp2:List Addr}{F2 H2:Hp}(hi:U[i]?=some s)(ho:s.own=true)(hx:Y.getD i none=some x)
  (c1:∀b o,b ∉ fps i->H b=some o->H2 b=some o) (c2:Same F F2) (c3:Same F2 H2) (c4:∀b,H b≠none->F b=none->b ∉ fps i->F2 b=none) (c5:∀b,H b≠none->H2 b≠none)
  (h2:Rt K F2 H2 x t2 fp2) (n2:fp2.Nodup) (m2:∀b∈fp2,b∈fps i \/ zs41 B U fps b) (c6:∀b∈fps i,F2 b≠none->B.H0 b=none) :
  RS K B F2 H2 Y (U.set i (s.wth t2)) (λj=>if j=i then fp2 else fps j):=by
 have hlt:i < U.length:=by
  rcases xF i U.length with z|z
  ·exact z
  ·rw[w8 z]at hi;cases hi
 have hs:=zda ho;have wo:(s.wth t2).own=true/\(s.wth t2).has=true/\(s.wth t2).tree=some t2:=by
  cases s with
 |ow _=>exact⟨rfl,rfl,rfl⟩
 |io _ _=>exact⟨rfl,rfl,rfl⟩
 |un=>cases ho
 |sh _=>cases ho
 |bo _=>cases ho
 have key:∀(j:Nat) s',(U.set i (s.wth t2))[j]?=some s'->(j=i/\s'=s.wth t2) \/ (j≠i/\U[j]?=some s'):=λj s' e=>by
  rw[xL]at e;by_cases hij:i=j
  ·subst hij;simp[hlt]at e;exact .inl ⟨rfl,e.symm⟩
  ·simp[hij]at e;exact .inr ⟨λz=>hij z.symm,e⟩
 have old:∀b∈fps i,H b≠none/\F b=none:=by
  obtain⟨x',t',a1,a2,a3,a4,a5⟩:=r.rt i s hi hs;exact a3.dom
 have own0:=r.fr i s hi ho;refine⟨λb o hb h0=>?_,r.ff.trans c2,c3,λb hb fb=>?_,λb hb=>c5 b (r.al b hb),by rw[xH];exact r.len,λj d e=>?_,λj s' e hs'=>?_,λj s' e ho' a ha=>?_,λj k s1 s2 hjk e1 e2 o1 o2 a ha=>?_⟩
 ·refine c1 b o (λz=>?_) (r.hh b o hb h0);rcases own0 b z with y|y
  ·rw[y]at h0;cases h0
  ·exact hb y.1
 ·by_cases hbi:b∈fps i
  ·cases z:F2 b with
  |none=>rfl
  |some o=>exact absurd (c6 b hbi (by rw[z];simp)) hb
  ·exact c4 b (r.al b hb) (r.nw b hb fb) hbi
 ·rcases key j _ e with⟨_,z⟩|⟨_,z⟩
  ·rw[<- z]at wo;cases wo.1
  ·obtain⟨y,h1,h2⟩:=r.sh j d z;exact⟨y,h1,h2.mono c2⟩
 ·rcases key j _ e with⟨zj,z⟩|⟨zj,z⟩
  ·subst zj;rw[if_pos rfl];refine⟨x,t2,hx,by rw[z];exact wo.2.2,h2,λa u e'=>?_,n2⟩;obtain⟨x',t',a1,a2,a3,a4,a5⟩:=r.rt j s hi hs;rw[hx]at a1;cases a1;cases s with
  |ow _=>rw[z]at e';cases e'
  |io a' u'=>rw[z]at e';cases e';exact a4 _ _ rfl
  |un=>cases ho
  |sh _=>cases ho
  |bo _=>cases ho
  ·rw[if_neg zj];obtain⟨y,t',a1,a2,a3,a4,a5⟩:=r.rt j s' z hs';refine⟨y,t',a1,a2,a3.frame c2 λa ha=>?_,a4,a5⟩;obtain⟨d1,d2⟩:=a3.dom a ha;have na:a ∉ fps i:=λw=>r.dj i j s s' (λq=>zj q.symm) hi z ho hs' a w ha;cases q:H a with
  |none=>exact absurd q d1
  |some o=>exact⟨c1 a o na q,c4 a d1 d2 na⟩
 ·rcases key j _ e with⟨zj,z⟩|⟨zj,z⟩
  ·rw[if_pos zj]at ha;rcases m2 a ha with y|y
   ·rcases own0 a y with w|⟨w1,w2⟩
    ·exact .inl w
    ·refine .inr ⟨w1,λt et=>?_⟩;rw[z]at et;cases s with
    |ow t'=>exact w2 t' rfl
    |io _ _=>cases et
    |un=>cases ho
    |sh _=>cases ho
    |bo _=>cases ho
   ·exact .inl y.1
  ·rw[if_neg zj]at ha;exact r.fr j s' z ho' a ha
 ·rcases key j _ e1 with⟨zj,z1⟩|⟨zj,z1⟩ <;> rcases key k _ e2 with⟨zk,z2⟩|⟨zk,z2⟩
  ·exact absurd (zj.trans zk.symm) hjk
  ·rw[if_pos zj]at ha;rw[if_neg zk];subst zj;rcases m2 a ha with y|y
   ·exact r.dj j k s s2 hjk hi z2 ho o2 a y
   ·exact y.2 k s2 z2 o2
  ·rw[if_neg zj]at ha;rw[if_pos zk];subst zk;intro w;rcases m2 a w with y|y
   ·exact r.dj j k s1 s hjk z1 hi o1 hs a ha y
   ·exact y.2 j s1 z1 (zda o1) ha
  ·rw[if_neg zj]at ha;rw[if_neg zk];exact r.dj j k s1 s2 hjk z1 z2 o1 o2 a ha
theorem RS.setT(r:RS K B F H Y U fps){v:V}{t:T}(h:Rt K F H v t fp)(nd:fp.Nodup)(hf:∀a∈fp,B.H0 a=none)(hd:∀(j:Nat) s,U[j]?=some s->s.has=true->∀a∈fps j,a ∉ fp) :
  RS K B F H (Y.set i (some v)) (U.set i (.ow t)) (λj=>if j=i then fp else fps j):=by
 have key:∀(j:Nat) s,(U.set i (.ow t))[j]?=some s->(j=i/\s=.ow t/\(Y.set i (some v)).getD j none=some v) \/ (j≠i/\U[j]?=some s/\(Y.set i (some v)).getD j none=Y.getD j none):=λj s e=>by
  rw[xL]at e;by_cases hij:i=j
  ·subst hij;by_cases hl:i < U.length
   ·simp[hl]at e;exact .inl ⟨rfl,e.symm,by rw[zx5,r.len,if_pos ⟨rfl,hl⟩]⟩
   ·simp[hl]at e
  ·simp[hij]at e;exact .inr ⟨λz=>hij z.symm,e,by rw[zx5,if_neg (by lia)]⟩
 refine⟨r.hh,r.ff,r.fh,r.nw,r.al,by rw[xH,xH];exact r.len,λj d' e=>?_,λj s e hs=>?_,λj s e hs a ha=>?_,λj k s s' hjk e1 e2 o1 o2 a ha=>?_⟩
 ·rcases key j _ e with⟨_,e2,e3⟩|⟨_,e2,e3⟩
  ·cases e2
  ·obtain⟨x,h1,h2⟩:=r.sh j d' e2;exact⟨x,by rw[e3];exact h1,h2⟩
 ·rcases key j _ e with⟨zj,e2,e3⟩|⟨zj,e2,e3⟩
  ·rw[if_pos zj,e3,e2];exact⟨v,t,rfl,rfl,h,λa u z=>(by cases z),nd⟩
  ·rw[if_neg zj,e3];exact r.rt j s e2 hs
 ·rcases key j _ e with⟨zj,e2,e3⟩|⟨zj,e2,e3⟩
  ·rw[if_pos zj]at ha;exact .inl (hf a ha)
  ·rw[if_neg zj]at ha;exact r.fr j s e2 hs a ha
 ·rcases key j _ e1 with⟨zj,z1,_⟩|⟨zj,z1,_⟩ <;> rcases key k _ e2 with⟨zk,z2,_⟩|⟨zk,z2,_⟩
  ·exact absurd (zj.trans zk.symm) hjk
  ·rw[if_pos zj]at ha;rw[if_neg zk];exact λw=>hd k s' z2 o2 a w ha
  ·rw[if_neg zj]at ha;rw[if_pos zk];exact hd j s z1 (zda o1) a ha
  ·rw[if_neg zj]at ha;rw[if_neg zk];exact r.dj j k s s' hjk z1 z2 o1 o2 a ha
theorem RS.put(r:RS K B F H Y U fps){s:Sl}{p:Pth}{v:V}{u:T}(hi:U[i]?=some s)(ho:s.own=true)(ha:AtS H Y U i p v u) :
  ∃fn t,s.tree=some t/\Rt K F H v u fn/\fn.Nodup/\(∀a∈fn,a∈fps i)/\∀{F2 H2:Hp}{u2:T}{fq:List Addr},
   (∀b o,b ∉ fn->H b=some o->H2 b=some o)->Same F F2->Same F2 H2->(∀b,H b≠none->F b=none->b ∉ fn->F2 b=none)->(∀b,H b≠none->H2 b≠none)->(∀b∈fn,F2 b≠none->B.H0 b=none) ->
   Rt K F2 H2 v u2 fq->fq.Nodup->(∀b∈fq,b∈fn \/ zs41 B U fps b)->∃fps2,RS K B F2 H2 Y (U.set i (s.wth (setP t p u2))) fps2/\(∀j,j≠i->fps2 j=fps j)/\∀b∈fps2 i,b∈fps i \/ b∈fq:=by
 obtain⟨s',t,x,h1,h2,h3,h4⟩:=ha;rw[hi]at h1;cases h1;obtain⟨x',t',a1,a2,a3,a4,a5⟩:=r.rt i s hi (zda ho);rw[h3]at a1;cases a1;rw[h2]at a2;cases a2;obtain⟨fn,hn,sub,ndn,back⟩:=zdb1 h4 a3 a5;refine⟨fn,t,h2,hn,ndn,sub,λ{F2 H2 u2 fq} c1 c2 c3 c4 c5 c6 hu nq mq=>?_⟩;obtain⟨fp2,r2,n2,m2⟩:=back c2 (λb hb hnb=>by
  obtain⟨d1,d2⟩:=a3.dom b hb;cases q:H b with
 |none=>exact absurd q d1
 |some o=>exact⟨c1 b o hnb q,c4 b d1 d2 hnb⟩) hu nq λb hb=>by
   rcases mq b hb with z|z
   ·exact .inl z
   ·exact .inr (z.2 i s hi (zda ho))
 refine⟨_,r.upd2 hi ho h3 (λb o hb=>c1 b o λz=>hb (sub b z)) c2 c3 (λb hb fb hbi=>c4 b hb fb λz=>hbi (sub b z)) c5 r2 n2 (λb hb=>?_) (λb hb f2=>?_),λj hj=>if_neg hj,λb hb=>?_⟩
 ·rcases m2 b hb with⟨y,_⟩|y
  ·exact .inl y
  ·rcases mq b y with z|z
   ·exact .inl (sub b z)
   ·exact .inr z
 ·by_cases z:b∈fn
  ·exact c6 b z f2
  ·obtain⟨d1,d2⟩:=a3.dom b hb;exact absurd (c4 b d1 d2 z) f2
 ·rw[if_pos rfl]at hb;rcases m2 b hb with⟨y,_⟩|y
  ·exact .inl y
  ·exact .inr y
end
structure Res(K:Fg)(B:Bs)(F H:Hp)(Y:_2.St)(U:DSt)(fps:Nat->List Addr)(v:V)(r:T)(fpr:List Addr):Prop where
 rs:RS K B F H Y U fps
 rt:Rt K F H v r fpr
 nd:fpr.Nodup
 fr:∀a∈fpr,B.H0 a=none
 dj:∀(j:Nat) s,U[j]?=some s->s.has=true->∀a∈fps j,a ∉ fpr
noncomputable abbrev DC:=DSt->(T->DSt->Prop)->Prop
noncomputable def RfC(K:Fg)(te:TE)(dc:DC):Prop:=∀{B:Bs}{F H:Hp}{Y:_2.St}{U:DSt}{fps:Nat->List Addr}{Qd:T->DSt->Prop}{Q:VK},RS K B F H Y U fps->dc U Qd->(∀r U',Qd r U'->∀v F' H' fps' fpr,Res K B F' H' Y U' fps' v r fpr->Q v H')->te Y H Q
structure DEnds where
 nx:DSt->Prop
 rt:T->DSt->Prop
 bk:DSt->Prop:=λ_=>False
 ct:DSt->Prop:=λ_=>False
noncomputable abbrev DS:=DEnds->DSt->Prop
structure En(K:Fg)(B:Bs)(E:DEnds)(Z:Ends):Prop where
 nx:∀{F H:Hp}{Y:_2.St}{U:DSt}{fps:Nat->List Addr},RS K B F H Y U fps->E.nx U->Z.nx Y H
 bk:∀{F H:Hp}{Y:_2.St}{U:DSt}{fps:Nat->List Addr},RS K B F H Y U fps->E.bk U->Z.bk Y H
 ct:∀{F H:Hp}{Y:_2.St}{U:DSt}{fps:Nat->List Addr},RS K B F H Y U fps->E.ct U->Z.ct Y H
 rt:∀{F H:Hp}{Y:_2.St}{U:DSt}{fps:Nat->List Addr}{v:V}{r:T}{fpr:List Addr},Res K B F H Y U fps v r fpr->E.rt r U->Z.rt v H
noncomputable def RfS(K:Fg)(ts:TS)(ds:DS):Prop:=∀{B:Bs}{F H:Hp}{Y:_2.St}{U:DSt}{fps:Nat->List Addr}{E:DEnds}{Z:Ends},RS K B F H Y U fps->ds E U->En K B E Z->ts Z Y H
section
variable {K:Fg}{te ta ti:TE}{de da di:DE}{dc:DC}{tt:TT}{dt:DT}{t u tb:TS}{d e db:DS}{tA:TA}{dA:DF}{g:TG}{dg:DG}{n:Nat}{dp:DP}
noncomputable def cE(de:DE):DC:=λU Q=>de U λd=>Q (.fz d) U
theorem RfE.c(h:RfE K te de):RfC K te (cE de):=by
 intro B F H Y U fps Qd Q r hd k;exact h r.fh r.rv hd λd q v F1 H1 e1 i1=>k _ _ q v F1 H1 fps [] ⟨r.grow e1,.fz i1,.nil,λa ha=>by simp at ha,λ_ _ _ _ a _ ha=>by simp at ha⟩
noncomputable def cF(df:DF):DC:=λU Q=>df U λds=>Q (.li ds) U
theorem RfF.c(h:RfF K te df):RfC K te (cF df):=by
 intro B F H Y U fps Qd Q r hd k;refine h r.fh r.rv hd λds q a xs F1 H1 e1 hn h1 h2 h3=>k _ _ q (.ref a) F1 H1 fps [a] ⟨r.grow e1,.li h1 h2 h3,by simp,λb hb=>?_,λj s ej hs b hb hb2=>?_⟩
 ·simp at hb;subst hb;by_cases z:B.H0 b=none
  ·exact z
  ·exact absurd hn (r.al b z)
 ·simp at hb2;subst hb2;obtain⟨x,t,a1,a2,a3,a4,a5⟩:=r.rt j s ej hs;exact(a3.dom b hb).1 hn
noncomputable def slot:T->Sl
|.fz d=>.sh d
|t=>.ow t
theorem Res.set{B:Bs}{F H:Hp}{Y:_2.St}{U:DSt}{fps:Nat->List Addr}{v:V}{r:T}{fpr:List Addr}(h:Res K B F H Y U fps v r fpr)(i:Nat):∃fps',RS K B F H (Y.set i (some v)) (U.set i (slot r)) fps':=by
 cases r with
|fz d=>cases h.rt with
 |fz hi=>exact⟨_,h.rs.setS hi⟩
|li ds=>exact⟨_,h.rs.setT h.rt h.nd h.fr h.dj⟩
|ls ds=>exact⟨_,h.rs.setT h.rt h.nd h.fr h.dj⟩
|ob C ds=>exact⟨_,h.rs.setT h.rt h.nd h.fr h.dj⟩
|dk ds=>exact⟨_,h.rs.setT h.rt h.nd h.fr h.dj⟩
|dt ds=>exact⟨_,h.rs.setT h.rt h.nd h.fr h.dj⟩
|tp ds=>exact⟨_,h.rs.setT h.rt h.nd h.fr h.dj⟩
noncomputable def ztz:DS:=λE U=>E.nx U
theorem zy0:RfS K zud1 ztz:=λr h k=>k.nx r h
noncomputable def dSeq(a b:DS):DS:=λE U=>∃J:DSt->Prop,a { E with nx:=J } U/\∀U',J U'->b E U'
theorem zo0(h1:RfS K t d)(h2:RfS K u e):RfS K (tSeq t u) (dSeq d e):=by
 intro B F H Y U fps E Z r h k;obtain⟨J,ha,hb⟩:=h;exact h1 r ha ⟨λr' q=>h2 r' (hb _ q) k,k.bk,k.ct,k.rt⟩
noncomputable def dAsg(de:DE)(dg:DG):DS:=λE U=>de U λd=>dg d U E.nx
theorem zi1(he:RfE K te de)(hg:RfG K n g dg):RfS K (tAsg te g) (dAsg de dg):=by
 intro B F H Y U fps E Z r h k;exact he r.fh r.rv h λd hd v F1 H1 e1 i1=>hg e1.fh i1 hd λY' U' q u=>k.nx ((r.grow e1).byUpd u) q
noncomputable def dSet(i:Nat)(dc:DC):DS:=λE U=>dc U λr U'=>E.nx (U'.set i (slot r))
theorem zaa(hc:RfC K te dc):RfS K (tAsg te (zih i)) (dSet i dc):=by
 intro B F H Y U fps E Z r h k;refine hc r h λr2 U' q v F1 H1 fps1 fpr res=>?_;obtain⟨fps2,r3⟩:=res.set i;exact k.nx r3 q
noncomputable def zmd1(dc:DC):DS:=λE U=>dc U λ_ U'=>E.nx U'
theorem zfa(hc:RfC K te dc):RfS K (zx81 te) (zmd1 dc):=by
 intro B F H Y U fps E Z r h k;exact hc r h λr2 U' q v F1 H1 fps1 fpr res=>k.nx res.rs q
noncomputable def dRet(dc:DC):DS:=λE U=>dc U E.rt
theorem zf1(hc:RfC K te dc):RfS K (tRet te) (dRet dc):=by
 intro B F H Y U fps E Z r h k;exact hc r h λr2 U' q v F1 H1 fps1 fpr res=>k.rt res q
noncomputable def zxe1:DS:=λE U=>E.ct U
theorem zw31:RfS K zef1 zxe1:=λr h k=>k.ct r h
noncomputable def zte1:DS:=λ_ _=>False
theorem zl51:RfS K t zte1:=λ_ h _=>h.elim
noncomputable def dIf(dt:DT)(d e:DS):DS:=λE U=>dt U λb=>if b=true then d E U else e E U
theorem zy6(ht:RfT K tt dt)(h1:RfS K t d)(h2:RfS K u e):RfS K (tIfS tt t u) (dIf dt d e):=by
 intro B F H Y U fps E Z r h k;refine ht r.fh r.rv h λb hb F1 H1 e1=>?_;cases b with
|true=>rw[if_pos rfl]at hb ⊢;exact h1 (r.grow e1) hb k
|false=>rw[if_neg wF]at hb ⊢;exact h2 (r.grow e1) hb k
noncomputable def dFor(di:DF)(dg:DG)(db:DS):DS:=λE U=>di U λitems=>∃W:Nat->DSt->Prop,W 0 U /\
 (∀i d U',items[i]?=some d->W i U'->dg d U' λU2=>db { E with nx:=W (i+1),ct:=W (i+1),bk:=E.nx } U2)/\∀U',W items.length U'->E.nx U'
noncomputable def Bs.rem(B:Bs)(F1:Hp):Bs:=⟨F1,B.H0,B.G⟩
theorem RS.rem{B:Bs}{F H F1:Hp}{Y:_2.St}{U:DSt}{fps:Nat->List Addr}(r:RS K B F H Y U fps)(s0:Same B.F0 F1)(s:Same F1 F):RS K (B.rem F1) F H Y U fps :=
 ⟨r.hh,s,r.fh,λb hb fb=>r.nw b hb (by
  cases q:B.F0 b with
 |none=>rfl
 |some o=>rw[show(B.rem F1).F0 b=F1 b from rfl,s0 b o q]at fb;cases fb),r.al,r.len,r.sh,r.rt,r.fr,r.dj⟩
theorem RS.unrem{B:Bs}{F H F1:Hp}(r:RS K (B.rem F1) F H Y U fps)(s0:Same B.F0 F1)(n0:∀b,B.H0 b≠none->B.F0 b=none->F1 b=none):RS K B F H Y U fps :=
 ⟨r.hh,s0.trans r.ff,r.fh,λb hb fb=>r.nw b hb (n0 b hb fb),r.al,r.len,r.sh,r.rt,r.fr,r.dj⟩
theorem zqg{wi:TI}{di:DF}(hi:RfI K wi di)(hg:RfG K n g dg)(hb:RfS K tb db):RfS K (tFor wi g tb) (dFor di dg db):=by
 intro B F H Y U fps E Z r h k;refine hi r.fh r.rv h λitems hx J F1 H1 e1 wj=>?_;obtain⟨W,w0,ws,we⟩:=hx;have r1:=r.grow e1;have s0:=r1.ff;have n0:=r1.nw;refine⟨λi m Y' H'=>m=items.length - i/\i<=items.length/\∃F' U' fps',RS K (B.rem F1) F' H' Y' U' fps'/\W i U',⟨items.length,rfl,wW _,F1,U,fps,r1.rem s0 (λ_ _ z=>z),w0⟩,?_⟩;rintro i m Y' H' ⟨rfl,hi',F',U',fps',r',w'⟩;obtain⟨go,stop,yld⟩:=wj F' H' r'.ff r'.fh;by_cases hlt:i < items.length
 ·refine .inr ⟨go i hlt,λY2 H2=>i+1<=items.length/\∃F2 U2 fps2,RS K (B.rem F1) F2 H2 Y2 U2 fps2/\W (i+1) U2,λY2 H2 p=>⟨_,by lia,rfl,p⟩,λx H2 y=>?_⟩;have hit:items[i]?=some items[i]:=u8 hlt;obtain⟨F2,ex2,ix2⟩:=yld i x H2 _ hit y;refine hg ex2.fh ix2 (ws i _ U' hit w') λY2 U2 hd2 u2=>?_;refine hb ((r'.grow ex2).byUpd u2) hd2 ⟨λr3 q=>⟨hlt,_,_,_,r3,q⟩,λr3 q=>k.nx (r3.unrem s0 n0) q,λr3 q=>⟨hlt,_,_,_,r3,q⟩,λres q=>k.rt ⟨res.rs.unrem s0 n0,res.rt,res.nd,res.fr,res.dj⟩ q⟩
 ·have e:i=items.length:=by lia
  subst e;exact .inl ⟨stop,k.nx (r'.unrem s0 n0) (we _ w')⟩
noncomputable def mutS(U:DSt)(i:Nat)(p:Pth)(u:T)(N:DSt->Prop):Prop:=match U[i]? with
|some (.ow t)=>N (U.set i (.ow (setP t p u)))
|some (.io a t)=>N (U.set i (.io a (setP t p u)))
|_=>False
theorem RS.mut{B:Bs}{F H:Hp}{p:Pth}{v:V}{u u2:T}(r:RS K B F H Y U fps)(ha:AtS H Y U i p v u)(hm:mutS U i p u2 N) :
  ∃fn,Rt K F H v u fn/\fn.Nodup/\(∀a∈fn,a∈fps i)/\∀{F2 H2:Hp}{fq:List Addr},
   (∀b o,b ∉ fn->H b=some o->H2 b=some o)->Same F F2->Same F2 H2->(∀b,H b≠none->F b=none->b ∉ fn->F2 b=none)->(∀b,H b≠none->H2 b≠none)->(∀b∈fn,F2 b≠none->B.H0 b=none) ->
   Rt K F2 H2 v u2 fq->fq.Nodup->(∀b∈fq,b∈fn \/ zs41 B U fps b)->∃U2 fps2,RS K B F2 H2 Y U2 fps2/\N U2/\(∀j,j≠i->fps2 j=fps j/\U2[j]?=U[j]?)/\(∀b∈fps2 i,b∈fps i \/ b∈fq)/\(∃s,U[i]?=some s/\s.own=true):=by
 obtain⟨s,hi,ho,hN⟩:∃s,U[i]?=some s/\s.own=true/\∀t,s.tree=some t->N (U.set i (s.wth (setP t p u2))):=by
  unfold mutS at hm;split at hm
  ·rename_i t q
   exact⟨_,q,rfl,λt' e=>by cases e;exact hm⟩
  ·rename_i a t q
   exact⟨_,q,rfl,λt' e=>by cases e;exact hm⟩
  ·exact hm.elim
 obtain⟨fn,t,h1,h2,h3,h4,h5⟩:=r.put hi ho ha;refine⟨fn,h2,h3,h4,λ{F2 H2 fq} c1 c2 c3 c4 c5 c6 hu nq mq=>?_⟩;obtain⟨fps2,r2,e2⟩:=h5 c1 c2 c3 c4 c5 c6 hu nq mq;refine⟨_,fps2,r2,hN t h1,λj hj=>⟨e2.1 j hj,?_⟩,e2.2,s,hi,ho⟩;rw[xU (λz=>hj z.symm)]
theorem RS.one{B:Bs}{F H:Hp}{p:Pth}{u u2:T}{o2:HO}(r:RS K B F H Y U fps)(ha:AtS H Y U i p (.ref a) u)(hm:mutS U i p u2 N)(ho:H a=some o)
  (hu:∀fn,Rt K F H (.ref a) u fn->fn=[a]) (h2:F a=none->Rt K F (upd H a o2) (.ref a) u2 [a]):∃U2 fps2,RS K B F (upd H a o2) Y U2 fps2/\N U2/\(∀j,j≠i->fps2 j=fps j/\U2[j]?=U[j]?):=by
 obtain⟨fn,hr,nd,sub,back⟩:=r.mut ha hm;have e:=hu fn hr;subst e;have fa:F a=none:=(hr.dom a (by simp)).2;obtain⟨U2,fps2,g1,g2,g3,_⟩:=back (F2:=F) (H2:=upd H a o2) (fq:=[a]) (λb o' hb ho'=>by rw[zm0 (λz=>hb (by simp[z]))];exact ho') (λ_ _ z=>z) (λb o' z=>by
   have:b≠a:=λw=>by subst w;rw[fa]at z;cases z
   rw[zm0 this];exact r.fh b o' z) (λb _ fb _=>fb) (λb hb=>by
   by_cases z:b=a
   ·rw[z,zj0];simp
   ·rw[zm0 z];exact hb) (λb hb f=>by simp at hb;subst hb;exact absurd fa f) (h2 fa) (by simp) (λb hb=>.inl hb)
 exact⟨U2,fps2,g1,g2,g3⟩
noncomputable abbrev FM:=T->List D->(T->D->Prop)->Prop
noncomputable def MO(K:Fg)(r:V->List V->Hp->VK->Prop)(f:FM):Prop:=∀{F H:Hp}{v:V}{u:T}{fn:List Addr}{vs:List V}{ds:List D}{Kd:T->D->Prop}{Q:VK},Same F H->Rt K F H v u fn->IsAll K F vs ds->f u ds Kd ->
 ∃u2 d y o o2 a,Kd u2 d/\v=.ref a/\fn=[a]/\H a=some o/\Is K F y d/\Rt K F (upd H a o2) (.ref a) u2 [a]/\(Q y (upd H a o2)->r v vs H Q)
noncomputable def tyN(T:String):_4.T->Prop
|.li _=>T = "list"
|.ls _=>T = "list"
|.dk _=>T = "dict"
|.dt _=>T = "dict"
|_=>False
theorem zc61{F H:Hp}{T:String}{v:V}{u:_4.T}(h:Rt K F H v u fn)(k:tyN T u):tyV K T v H:=by
 cases h with
|fz _=>exact k.elim
|li h1 _ _=>exact .inl ⟨k,_,SqL.of h1⟩
|ls h1 _ _=>exact .inl ⟨k,_,SqL.of h1⟩
|ob _ _ _ _ _=>exact k.elim
|tp _ _ _=>exact k.elim
|dk h1 _ _=>exact .inr (.inr (.inl ⟨k,.inl ⟨_,h1⟩⟩))
|dt h1 _ _=>exact .inr (.inr (.inl ⟨k,.inr ⟨_,h1⟩⟩))
theorem zuc1{F H:Hp}{v:V}{u:T}{fn:List Addr}{r:V->List V->Hp->VK->Prop}{f:FM}(hm:MO K r f){ds:List D}{Kd:T->D->Prop}{B:Bs}{p:Pth}{Qd:T->DSt->Prop}{Q:VK}
  (rs:RS K B F H Y U fps) (ha:AtS H Y U i p v u) (hv:IsAll K F vs ds) (hf:f u ds λu2 d=>mutS U i p u2 λU'=>Qd (.fz d) U')
  (k:∀r U',Qd r U'->∀v F' H' fps' fpr,Res K B F' H' Y U' fps' v r fpr->Q v H'):r v vs H Q:=by
 obtain⟨fn,hr⟩:=ha.rt rs.rv;obtain⟨u2,d,y,o,o2,a,kd,rfl,e2,h3,h4,h5,h6⟩:=hm (Q:=Q) rs.fh hr hv hf;refine h6 ?_;obtain⟨U2,fps2,r2,q2,_⟩:=rs.one ha kd h3 (λfn' hr'=>by
  obtain⟨_,_,_,_,_,a',_,e1,e2',_⟩:=hm (Q:=Q) rs.fh hr' hv hf;cases e1;exact e2') (λ_=>h5)
 exact k _ _ q2 _ _ _ fps2 [] ⟨r2,.fz h4,.nil,λa ha=>by simp at ha,λ_ _ _ _ a _ ha=>by simp at ha⟩
noncomputable def cBM(ty:String)(f:FM)(dp:DP)(dA:DF):DC:=λU Q=>dp U λi p u=>tyN ty u/\dA U λds=>f u ds λu2 d=>mutS U i p u2 λU'=>Q (.fz d) U'
theorem zrw{T:String}{r:V->List V->Hp->VK->Prop}{f:FM}(hm:MO K r f)(hp:RfP K te dp)(hA:RfA K tA dA):RfC K (tBMU K T r te tA) (cBM T f dp dA):=by
 intro B F H Y U fps Qd Q rs hd k;refine hp rs.fh rs.rv hd λi p u hu v F1 H1 e1 at1=>?_;have r1:=rs.grow e1;obtain⟨fn,hr⟩:=at1.rt r1.rv;refine⟨zc61 hr hu.1,hA e1.fh r1.rv hu.2 λds hds vs F2 H2 e2 i2=>?_⟩;exact zuc1 hm (fn:=fn) (Kd:=λ_ _=>True) (r1.grow e2) (at1.mono e2.h) i2 hds k
noncomputable def cBM0(ty:String)(f:FM)(dp:DP):DC:=λU Q=>dp U λi p u=>tyN ty u/\f u [] λu2 d=>mutS U i p u2 λU'=>Q (.fz d) U'
theorem zhz{T:String}{r:V->List V->Hp->VK->Prop}{f:FM}(hm:MO K r f)(hp:RfP K te dp):RfC K (zvd1 K T r te) (cBM0 T f dp):=by
 intro B F H Y U fps Qd Q rs hd k;refine hp rs.fh rs.rv hd λi p u hu v F1 H1 e1 at1=>?_;have r1:=rs.grow e1;obtain⟨fn,hr⟩:=at1.rt r1.rv;exact⟨zc61 hr hu.1,zuc1 hm (fn:=fn) (Kd:=λ_ _=>True) r1 at1 .nil hu.2 k⟩
noncomputable def mApp:FM:=λu ds N=>match u,ds with
|.li xs,[d]=>xs.length < sizeLine/\N (.li (xs++[d])) .none
|_,_=>False
theorem zmi:MO K zaq mApp:=by
 intro F H v u fn vs ds Kd Q s hr hv hf;unfold mApp at hf;split at hf
 ·obtain⟨y,rfl,iy⟩:=all1 hv;cases hr with
 |li h1 h2 h3 =>
   have el:=h3.dlen;exact⟨_,_,.non,_,.lst (_++[y]),_,hf.2,rfl,rfl,h1,.non,.li zj0 h2 (h3.dapp (.cons iy .nil)),λq=>⟨_,_,y,rfl,rfl,h1,by lia,q⟩⟩
 ·exact hf.elim
noncomputable def zls:FM:=λu ds N=>match u,ds with
|.li xs,[]=>N (.li []) .none
|_,_=>False
theorem zsj:MO K zh31 zls:=by
 intro F H v u fn vs ds Kd Q s hr hv hf;unfold zls at hf;split at hf
 ·cases hv;cases hr with
 |li h1 h2 h3=>exact⟨_,_,.non,_,.lst [],_,hf,rfl,rfl,h1,.non,.li zj0 h2 .nil,λq=>⟨_,_,rfl,rfl,h1,q⟩⟩
 ·exact hf.elim
end
section
variable {K:Fg}{te ta ti tv:TE}{de da di dk:DE}{dc:DC}{tt:TT}{dt:DT}{t u tb:TS}{d e db:DS}{tA:TA}{dA:DF}{g:TG}{dg:DG}{n:Nat}{dp:DP}{w:World}
noncomputable def keyD:D->Option Key
|.int i=>some (.inl i)
|.str x=>some (.inr x)
|_=>none
theorem zyu{F:Hp}{v:V}{d:D}{k:Key}(h:Is K F v d)(e:keyD d=some k):v=kV k:=by
 cases h <;> simp[keyD]at e <;> subst e <;> rfl
noncomputable def zgr:List D->Option (List Key)
|[]=>some []
|d :: ds=>match keyD d,zgr ds with
 |some k,some ks=>some (k :: ks)
 |_,_=>none
noncomputable def keyT:D->Option (List Key)
|.tuple ds=>zgr ds
|_=>none
theorem zfe{F:Hp}:∀{xs:List V}{ds:List D}{k:List Key},IsAll K F xs ds->zgr ds=some k->xs=k.map kV/\ds.all zq41=true
|_,_,_,.nil,e=>by simp[zgr]at e;subst e;exact⟨rfl,rfl⟩
|_,_,_,.cons (d:=d) h r,e=>by
  unfold zgr at e;split at e
  ·rename_i k ks h1 h2
   cases e;obtain⟨e1,e2⟩:=zfe r h2;have:=zyu h h1;rw[wM,this,e1,List.all_cons,e2];refine⟨rfl,?_⟩;cases d <;> simp[keyD]at h1 <;> rfl
  ·cases e
theorem znm{F:Hp}{v:V}{d:D}{k:List Key}(h:Is K F v d)(e:keyT d=some k):∃b,v=.ref b/\F b=some (.tup (k.map kV)):=by
 cases h with
|tup h1 h2 =>
  obtain⟨e1,_⟩:=zfe h2 e;subst e1;exact⟨_,rfl,h1⟩
|tuc h1 h2 h3 =>
  obtain⟨_,e2⟩:=zfe h2 e;rw[e2]at h3;cases h3
|_=>simp[keyT]at e
noncomputable def getA{κ:Type}[DecidableEq κ](kvs:List (κ×D))(k:κ):Option D:=(kvs.find? λkv=>decide (kv.1=k)).map (·.2)
noncomputable def putD{κ:Type}[DecidableEq κ](kvs:List (κ×D))(k:κ)(d:D):List (κ×D) :=
 if(kvs.any λkv=>decide (kv.1=k))=true then kvs.map (λkv=>if kv.1=k then(kv.1,d)else kv)else kvs++[(k,d)]
theorem KvIs.len{F:Hp}{κ:Type}:∀{r:List (κ×V)}{s:List (κ×D)},KvIs K F r s->r.length=s.length
|_,_,.nil=>rfl
|_,_,.cons _ r=>congrArg (·+1) (KvIs.len r)
theorem KvIs.get{F:Hp}{κ:Type}[DecidableEq κ]{k:κ}:∀{r:List (κ×V)}{s:List (κ×D)},KvIs K F r s->(getA s k=none/\valV r k=none) \/ ∃d v,getA s k=some d/\valV r k=some v/\Is K F v d
|_,_,.nil=>.inl ⟨rfl,rfl⟩
|_,_,.cons (k:=k') (v:=v) (d:=d) h r=>by
  by_cases e:k'=k
  ·exact .inr ⟨d,v,by simp[getA,e],by simp[valV,e],h⟩
  ·rcases KvIs.get (k:=k) r with⟨h1,h2⟩|⟨d',v',h1,h2,h3⟩
   ·exact .inl ⟨by simp[getA,e];simpa[getA]using h1,by simp[valV,e];simpa[valV]using h2⟩
   ·refine .inr ⟨d',v',?_,?_,h3⟩
    ·simp[getA,e];simpa[getA]using h1
    ·simp[valV,e];simpa[valV]using h2
theorem KvIs.any{F:Hp}{κ:Type}[DecidableEq κ]{k:κ}:∀{r:List (κ×V)}{s:List (κ×D)},KvIs K F r s->(r.any λkv=>decide (kv.1=k))=(s.any λkv=>decide (kv.1=k))
|_,_,.nil=>rfl
|_,_,.cons _ r=>by rw[yO,yO,KvIs.any r]
theorem KvIs.app{F:Hp}{κ:Type}:∀{r r':List (κ×V)}{s s':List (κ×D)},KvIs K F r s->KvIs K F r' s'->KvIs K F (r++r') (s++s')
|_,_,_,_,.nil,h=>h
|_,_,_,_,.cons h r,h'=>.cons h (r.app h')
theorem KvIs.map{F:Hp}{κ:Type}[DecidableEq κ]{k:κ}{v:V}{d:D}(hv:Is K F v d):∀{r:List (κ×V)}{s:List (κ×D)},KvIs K F r s->KvIs K F (r.map λkv=>if kv.1=k then(kv.1,v)else kv) (s.map λkv=>if kv.1=k then(kv.1,d)else kv)
|_,_,.nil=>.nil
|_,_,.cons (k:=k') h r=>by
  by_cases e:k'=k
  ·simp only[wM,e,if_true];exact .cons hv (r.map hv)
  ·simp only[wM,e,if_false];exact .cons h (r.map hv)
theorem KvIs.put{F:Hp}{κ:Type}[DecidableEq κ]{k:κ}{v:V}{d:D}(hv:Is K F v d){r:List (κ×V)}{s:List (κ×D)}(h:KvIs K F r s):KvIs K F (putK r k v) (putD s k d):=by
 unfold putK putD;rw[h.any];split
 ·exact h.map hv
 ·exact h.app (.cons hv .nil)
noncomputable def fPut(u:T)(k d:D)(N:T->Prop):Prop:=match u with
|.li ds=>match k with
 |.int z=>∃j,ixN ds.length z=some j/\N (.li (ds.set j d))
 |_=>False
|.dk kvs=>∃key,keyD k=some key/\kvs.length < sizeLine/\N (.dk (putD kvs key d))
|.dt kvs=>∃key,keyT k=some key/\kvs.length < sizeLine/\N (.dt (putD kvs key d))
|_=>False
theorem zrx{B:Bs}{F H:Hp}{p:Pth}{v:V}{u:T}{k d:D}{Q:Hp->Prop}(rs:RS K B F H Y U fps)(ha:AtS H Y U i p v u)(hk:Is K F kv k)(hy:Is K F y d)
  (hf:fPut u k d λu2=>mutS U i p u2 N) (q:∀U2 fps2 H2,RS K B F H2 Y U2 fps2->N U2->Q H2):zev v kv y H Q:=by
 obtain⟨fn,hr⟩:=ha.rt rs.rv;cases hr with
|li h1 h2 h3 =>
  simp only[fPut]at hf;split at hf
  ·rename_i z
   obtain⟨j,ej,hm⟩:=hf;cases hk.int_inv;have el:=h3.dlen;obtain⟨U2,fps2,r2,n2,_⟩:=rs.one (o2:=.lst (_)) ha hm h1 (λfn' hr'=>by cases hr';rfl) (λfa=>.li zj0 fa (h3.dset hy j));exact .inl ⟨_,_,z,j,rfl,rfl,h1,by rw[el];exact ej,q _ _ _ r2 n2⟩
  ·exact hf.elim
|dk h1 h2 h3 =>
  simp only[fPut]at hf;obtain⟨key,ek,hl,hm⟩:=hf;have:=zyu hk ek;subst this;have el:=h3.len;obtain⟨U2,fps2,r2,n2,_⟩:=rs.one (o2:=.dK _) ha hm h1 (λfn' hr'=>by cases hr';rfl) (λfa=>.dk zj0 fa (h3.put (k:=key) hy));exact .inr ⟨_,_,rfl,DPut.k h1 (by lia),q _ _ _ r2 n2⟩
|fz _=>exact hf.elim
|ls _ _ _=>exact hf.elim
|ob _ _ _ _ _=>exact hf.elim
|tp _ _ _=>exact hf.elim
|dt h1 h2 h3 =>
  simp only[fPut]at hf;obtain⟨key,ek,hl,hm⟩:=hf;obtain⟨kb,rfl,hb⟩:=znm hk ek;have el:=h3.len;obtain⟨U2,fps2,r2,n2,_⟩:=rs.one (o2:=.dT _) ha hm h1 (λfn' hr'=>by cases hr';rfl) (λfa=>.dt zj0 fa (h3.put (k:=key) hy));exact .inr ⟨_,_,rfl,DPut.t h1 (rs.fh _ _ hb) (by lia),q _ _ _ r2 n2⟩
noncomputable def dPut(dp:DP)(dk de:DE):DS:=λE U=>de U λd=>dp U λi p u=>dk U λk=>fPut u k d λu2=>mutS U i p u2 E.nx
theorem zru(he:RfE K te de)(hp:RfP K ta dp)(hk:RfE K ti dk):RfS K (tAsg te (gSub ta ti zev)) (dPut dp dk de):=by
 intro B F H Y U fps E Z r h k;refine he r.fh r.rv h λd hd y F1 H1 e1 i1=>?_;have r1:=r.grow e1;refine hp r1.fh r1.rv hd λi p u hu v F2 H2 e2 at2=>?_;have r2:=r1.grow e2;refine hk r2.fh r2.rv hu λkd hkd kv F3 H3 e3 i3=>?_;exact zrx (r2.grow e3) (at2.mono e3.h) i3 (i1.mono (e2.f.trans e3.f)) hkd λU2 fps2 H4 r4 n4=>k.nx r4 n4
noncomputable def fGet(u:T)(k:D)(Q:D->Prop):Prop:=match u with
|.li ds=>match k with
 |.int z=>0<=z/\∃d,ds[z.toNat]?=some d/\Q d
 |_=>False
|.dk kvs=>∃key d,keyD k=some key/\getA kvs key=some d/\Q d
|.dt kvs=>∃key d,keyT k=some key/\getA kvs key=some d/\Q d
|_=>False
theorem zn61{F H:Hp}{v:V}{u:T}{k:D}{Qd:D->Prop}{Q:VK}(s:Same F H)(hr:Rt K F H v u fn)(hk:Is K F kv k)(hf:fGet u k Qd)(q:∀d y,Qd d->Is K F y d->Q y H):zq81 K v kv H Q:=by
 cases hr with
|li h1 h2 h3 =>
  simp only[fGet]at hf;split at hf
  ·rename_i z
   obtain⟨z0,d,ed,qd⟩:=hf;cases hk.int_inv;obtain⟨y,hy,iy⟩:=h3.dget ed;exact .inl ⟨_,_,z,y,rfl,rfl,z0,SqL.of h1,hy,q d y qd iy⟩
  ·exact hf.elim
|dk h1 h2 h3 =>
  simp only[fGet]at hf;obtain⟨key,d,ek,ed,qd⟩:=hf;have:=zyu hk ek;subst this;rcases h3.get (k:=key)with⟨g1,_⟩|⟨d',y,g1,g2,g3⟩
  ·rw[g1]at ed;cases ed
  ·rw[g1]at ed;cases ed;exact .inr ⟨_,y,rfl,by rw[<- g2];exact DGet.k h1,q d y qd g3⟩
|fz _=>exact hf.elim
|ls _ _ _=>exact hf.elim
|ob _ _ _ _ _=>exact hf.elim
|tp _ _ _=>exact hf.elim
|dt h1 h2 h3 =>
  simp only[fGet]at hf;obtain⟨key,d,ek,ed,qd⟩:=hf;obtain⟨kb,rfl,hb⟩:=znm hk ek;rcases h3.get (k:=key)with⟨g1,_⟩|⟨d',y,g1,g2,g3⟩
  ·rw[g1]at ed;cases ed
  ·rw[g1]at ed;cases ed;exact .inr ⟨_,y,rfl,by rw[<- g2];exact DGet.t h1 (s _ _ hb),q d y qd g3⟩
noncomputable def fII(f:Int->Int->Int)(x y:D)(Q:D->Prop):Prop:=match x,y with
|.int i,.int j=>Q (.int (f i j))
|_,_=>False
noncomputable def zd91(f:Int->Int->Int)(dp:DP)(dk de:DE):DS:=λE U=>dp U λi p u=>dk U λk=>fGet u k λx=>de U λy=>fII f x y λz=>fPut u k z λu2=>mutS U i p u2 E.nx
theorem zqv{f:Int->Int->Int}(hp:RfP K ta dp)(hk:RfE K ti dk)(he:RfE K te de):RfS K (zi91 ta ti te (zq81 K) (ipI f) zev) (zd91 f dp dk de):=by
 intro B F H Y U fps E Z r h k;refine hp r.fh r.rv h λi p u hu v F1 H1 e1 at1=>?_;have r1:=r.grow e1;refine hk r1.fh r1.rv hu λkd hkd kv F2 H2 e2 i2=>?_;have r2:=r1.grow e2;have at2:=at1.mono e2.h;obtain⟨fn,hr⟩:=at2.rt r2.rv;refine zn61 r2.fh hr i2 hkd λx xv hx ix=>he r2.fh r2.rv hx λy hy yv F3 H3 e3 i3=>?_;unfold fII at hy;split at hy
 ·cases ix.int_inv;cases i3.int_inv;refine⟨_,_,rfl,rfl,?_⟩;exact zrx (r2.grow e3) (at2.mono e3.h) (i2.mono e3.f) (.int _) hy λU2 fps2 H4 r4 n4=>k.nx r4 n4
 ·exact hy.elim
theorem zjw{F H:Hp}{p:Addr}(s:Same F H)(hn:H p=none):Ext F H F (upd H p o) :=
 ⟨zy2 hn _,λ_ _ z=>z,λb o z=>zy2 hn _ b o (s b o z),λ_ _ z=>z⟩
noncomputable def cDT:DC:=λU Q=>Q (.dt []) U
theorem zkg1:RfC K zs31 cDT:=by
 intro B F H Y U fps Qd Q r hd k;intro p hp;have fn:F p=none:=by
  cases e:F p with
 |none=>rfl
 |some o=>rw[r.fh p o e]at hp;cases hp
 refine k _ _ hd (.ref p) F _ fps [p] ⟨r.grow (zjw r.fh hp),.dt zj0 fn .nil,by simp,λb hb=>?_,λj s ej hs b hb hb2=>?_⟩
 ·simp at hb;subst hb;by_cases z:B.H0 b=none
  ·exact z
  ·exact absurd hp (r.al b z)
 ·simp at hb2;subst hb2;obtain⟨x,t,a1,a2,a3,a4,a5⟩:=r.rt j s ej hs;exact(a3.dom b hb).1 hp
noncomputable abbrev DN:=DSt->(T->Prop)->Prop
noncomputable def RfN(K:Fg)(te:TE)(dn:DN):Prop:=∀{F H:Hp}{Y:_2.St}{U:DSt}{Qd:T->Prop}{Q:VK},Same F H->RV K F H Y U->dn U Qd->(∀r,Qd r->∀v F' H' fp,Ext F H F' H'->Rt K F' H' v r fp->fp.Nodup->(∀a∈fp,H a=none)->Q v H')->te Y H Q
noncomputable def nF(df:DF):DN:=λU Q=>df U λds=>Q (.li ds)
theorem RfF.new(h:RfF K te df):RfN K te (nF df):=λs r d k=>h s r d λds q a xs F' H' e hn h1 h2 h3=>k _ q (.ref a) F' H' [a] e (.li h1 h2 h3) (by simp) λb hb=>by simp at hb;subst hb;exact hn
noncomputable def cN(dn:DN):DC:=λU Q=>dn U λr=>Q r U
theorem RfN.c{dn:DN}(h:RfN K te dn):RfC K te (cN dn):=by
 intro B F H Y U fps Qd Q r hd k;refine h r.fh r.rv hd λr2 q v F1 H1 fp e1 hr nd fr=>k _ _ q v F1 H1 fps fp ⟨r.grow e1,hr,nd,λa ha=>?_,λj s ej hs b hb hb2=>?_⟩
 ·by_cases z:B.H0 a=none
  ·exact z
  ·exact absurd (fr a ha) (r.al a z)
 ·obtain⟨x,t,a1,a2,a3,a4,a5⟩:=r.rt j s ej hs;exact(a3.dom b hb).1 (fr b hb2)
theorem RtAll.app{F H:Hp}:∀{xs ys:List V}{ts us:List T}{fp fq:List Addr},RtAll K F H xs ts fp->RtAll K F H ys us fq->RtAll K F H (xs++ys) (ts++us) (fp++fq)
|_,_,_,_,_,_,.nil,h=>h
|_,_,_,_,_,_,.cons h r,h'=>by rw[yD];exact .cons h (r.app h')
noncomputable def zce1(di:DF)(n:Nat)(ix:List Nat)(dg:DG)(dn:DN):DN:=λU Q=>di U λitems=>items.length<=sizeLine/\∃R:Nat->T->Prop,
 (∀i d,items[i]?=some d->dg d (cST n ix U) λU'=>dn U' λr=>R i r)/\∀rs:List T,rs.length=items.length->(∀(j:Nat) r,rs[j]?=some r->R j r)->Q (.ls rs)
theorem zi81{wi:TI}{di:DF}{dn:DN}(hi:RfJ K wi di)(hg:RfG K n g dg)(he:RfN K te dn):RfN K (zc81 wi n ix g zm81 te) (zce1 di n ix dg dn):=by
 intro F H Y U Qd Q s rv hd k;refine hi s rv hd λitems hx J F1 H1 e1 wj D hD=>?_;obtain⟨hz,R,hR,hQ⟩:=hx;have rv1:=zi51 n ix (rv.ext e1);have F1D:F1 D=none:=by
  cases q:F1 D with
 |none=>rfl
 |some o=>rw[e1.fh D o q]at hD;cases hD
 refine⟨λi m acc Y' H'=>m=items.length - i/\i<=items.length/\Y'.length=(compY n ix Y).length/\(∀j,n<=j->Y'.getD j none=(compY n ix Y).getD j none)/\∃(F':Hp)(rs:List T)(fpA:List Addr),Ext F1 H1 F' H'/\F' D=none/\H' D=some (.lst acc)/\rs.length=i/\(∀(j:Nat) r,rs[j]?=some r->R j r)/\RtAll K F' H' acc rs fpA/\fpA.Nodup/\(∀a∈fpA,H1 a=none/\a≠D),
  ⟨items.length,rfl,wW _,rfl,λ_ _=>rfl,F1,[],[],?_,F1D,zj0,rfl,λj o e=>by simp at e,.nil,.nil,λa ha=>by simp at ha⟩,?_⟩
 ·exact(zq8 (xs:=[]) e1.fh hD).1
 rintro i m acc Y' H' ⟨rfl,hi',hl,hk,F',rs,fpA,ex,fD,hDD,hrs,hRs,hall,ndA,frA⟩;obtain⟨go,stop,yld⟩:=wj F' H' ex;by_cases hlt:i < items.length
 ·refine .inr ⟨go i hlt,λacc' Y2 H2=>i+1<=items.length/\Y2.length=(compY n ix Y).length/\(∀j,n<=j->Y2.getD j none=(compY n ix Y).getD j none)/\∃(F':Hp)(rs:List T)(fpA:List Addr),Ext F1 H1 F' H2/\F' D=none/\H2 D=some (.lst acc')/\rs.length=i+1/\(∀(j:Nat) r,rs[j]?=some r->R j r)/\RtAll K F' H2 acc' rs fpA/\fpA.Nodup/\(∀a∈fpA,H1 a=none/\a≠D),λacc' Y2 H2 p=>⟨items.length - (i+1),by lia,rfl,p⟩,λx H2 y=>?_⟩;have hit:items[i]?=some items[i]:=u8 hlt;obtain⟨F2,ex2,ix2⟩:=yld i x H2 _ hit y;have rv2:RV K F2 H2 Y' (cST n ix U):=RV.caps (rv1.ext (ex.trans ex2)) hl hk;refine hg ex2.fh ix2 (hR i _ hit) λY2 U2 hd2 u2=>?_;have rv3:=u2.rv rv2;have kp:=u2.keep;have hl2:Y2.length=(compY n ix Y).length:=by rw[kp.1,hl]
  have hk2:∀j,n<=j->Y2.getD j none=(compY n ix Y).getD j none:=λj hj=>by rw[kp.2 j hj,hk j hj]
  show te Y2 H2 _;refine he ex2.fh rv3 hd2 λr hr v F5 H5 fp e5 i5 nd5 fr5=>?_;have e25:=ex2.trans e5;have hD2:H2 D=some (.lst acc):=ex2.h _ _ hDD;have hD5:H5 D=some (.lst acc):=e25.h _ _ hDD;have fD5:F5 D=none:=e25.nw D (by rw[hDD];simp) fD;have hlen:acc.length<=i:=by rw[hall.len,hrs];exact u3 _
  have e15:=ex.trans e25;have hall5:RtAll K F5 H5 acc rs fpA:=hall.frame e25.f λa ha=>by
   obtain⟨d1,d2⟩:=hall.dom a ha;cases q:H' a with
  |none=>exact absurd q d1
  |some o=>exact⟨e25.h a o q,e25.nw a d1 d2⟩
  have frN:∀a∈fp,H1 a=none/\a≠D:=λa ha=>⟨zo1 (ex.trans ex2) (fr5 a ha),λz=>by subst z;rw[fr5 a ha]at hD2;cases hD2⟩
  refine⟨hD5,by lia,hlt,hl2,hk2,F5,rs++[r],fpA++fp,⟨λb o hb=>?_,e15.f,λb o hb=>?_,e15.nw⟩,fD5,zj0,by simp[hrs],λj r' e=>?_,?_,?_,λa ha=>?_⟩
  ·have:b≠D:=λz=>by subst z;rw[hD]at hb;cases hb
   rw[zm0 this];exact e15.h b o hb
  ·have:b≠D:=λz=>by subst z;rw[fD5]at hb;cases hb
   rw[zm0 this];exact e15.fh b o hb
  ·rcases Nat.lt_trichotomy j rs.length with h|h|h
   ·rw[xD h]at e;exact hRs j r' e
   ·subst h;rw[xC (u3 _)]at e;simp at e;subst e;rw[hrs];exact hr
   ·rw[xC (yM h)]at e;cases q:j - rs.length with
   |zero=>lia
   |succ z=>rw[q]at e;simp at e
  ·have z1:RtAll K F5 (upd H5 D (.lst (acc++[v]))) acc rs fpA:=hall5.frame (λ_ _ z=>z) λa ha=>⟨zm0 (frA a ha).2,(hall5.dom a ha).2⟩
   have z2:Rt K F5 (upd H5 D (.lst (acc++[v]))) v r fp:=i5.frame (λ_ _ z=>z) λa ha=>⟨zm0 (frN a ha).2,(i5.dom a ha).2⟩
   have:=z1.app (RtAll.cons z2 .nil)
   rwa [wQ]at this
  ·refine wL.mpr ⟨ndA,nd5,λa ha b hb z=>?_⟩;subst z;have:=(hall.dom a ha).1;exact this (zo1 ex2 (fr5 a hb))
  ·rcases u6.mp ha with z|z
   ·exact frA a z
   ·exact frN a z
 ·have e:i=items.length:=by lia
  refine .inl ⟨by rw[e];exact stop,k _ (hQ rs (by lia) hRs) (.ref D) F' H' (D :: fpA) (e1.trans ex) (.ls hDD fD hall) (wG.mpr ⟨λz=>(frA D z).2 rfl,ndA⟩) λa ha=>?_⟩;rcases v6.mp ha with z|z
  ·rw[z];exact zo1 e1 hD
  ·exact zo1 e1 (frA a z).1
noncomputable def nSet(f:Str)(u r:T)(N:T->Prop):Prop:=match u with
|.ob C fs=>fs.length < 1000/\N (.ob C (putA f r fs))
|_=>False
theorem Res.grow{B:Bs}{F H F' H':Hp}{Y:_2.St}{U:DSt}{fps:Nat->List Addr}{v:V}{r:T}{fpr:List Addr}(h:Res K B F H Y U fps v r fpr)(e:Ext F H F' H'):Res K B F' H' Y U fps v r fpr :=
 ⟨h.rs.grow e,h.rt.ext e,h.nd,h.fr,h.dj⟩
theorem ze41{B:Bs}{F H:Hp}{r:T}{p:Pth}{fs:List (Str×V)}{ts:List (Str×T)}  
  (res:Res K B F H Y U fps y r fpr) (ha:AtS H Y U i p (.ref a) (.ob C ts)) (hH:H a=some (.ins C dx fs)) (hm:mutS U i p (.ob C (putA f r ts)) N):∃U2 fps2,RS K B F (upd H a (.ins C dx (putF f y fs))) Y U2 fps2/\N U2:=by
 obtain⟨fn,hr,nd,sub,back⟩:=res.rs.mut ha hm;obtain⟨s,hs,ho⟩:∃s,U[i]?=some s/\s.own=true:=by
  unfold mutS at hm;split at hm
  ·rename_i t q;exact⟨_,q,rfl⟩
  ·rename_i a t q;exact⟨_,q,rfl⟩
  ·exact hm.elim
 have dis:∀b∈fn,b ∉ fpr:=λb hb=>res.dj i s hs (zda ho) b (sub b hb);cases hr with
|ob g1 g2 g3 g4 g5 =>
  rename_i dx' fs' fp
  rw[hH]at g1;cases g1;have nd1:=wG.mp nd;have nd2:=wG.mp nd1.2;have na:a ∉ fp:=λz=>nd1.1 (v8 _ z);have nx:dx≠a:=λz=>nd1.1 (by rw[z];simp);have nxf:dx ∉ fp:=nd2.1;have dp':∀b∈fp,b ∉ fpr:=λb hb=>dis b (by simp[hb]);have ra:a ∉ fpr:=dis a (by simp);have rx:dx ∉ fpr:=dis dx (by simp);have hy:Rt K F (upd H a (.ins C dx (putF f y fs))) y r fpr:=res.rt.frame (λ_ _ z=>z) λb hb=>⟨zm0 λz=>by subst z;exact ra hb,(res.rt.dom b hb).2⟩
  have fr0:∀b∈fp,upd H a (.ins C dx (putF f y fs)) b=H b/\F b=none:=λb hb=>⟨zm0 λz=>by subst z;exact na hb,(g5.dom b hb).2⟩
  obtain⟨fq,hq,ndq,mq⟩:∃fq,RtFs K F (upd H a (.ins C dx (putF f y fs))) (putF f y fs) (putA f r ts) fq/\fq.Nodup/\∀b∈fq,b∈fp \/ b∈fpr:=by
   cases q:ts.lookup f with
  |none =>
    refine⟨fp++fpr,RtFs.add (λ_ _ z=>z) hy g5 q fr0,wL.mpr ⟨nd2.2,res.nd,λb hb c hc z=>?_⟩,λb hb=>u6.mp hb⟩;subst z;exact dp' b hb hc
  |some t0 =>
    obtain⟨x0,ex⟩:=(g5.keys f).2.1 t0 q;obtain⟨fA,fj,fB,e,hj,_,rep⟩:=g5.split ex q;subst e;obtain⟨ndA,ndJB,djA⟩:=wL.mp nd2.2;obtain⟨ndj,ndB,djB⟩:=wL.mp ndJB;refine⟨fA++(fpr++fB),rep (λ_ _ z=>z) (λb hb=>fr0 b (by rcases u6.mp hb with z|z <;> simp[z])) hy,wL.mpr ⟨ndA,wL.mpr ⟨res.nd,ndB,λb hb c hc z=>?_⟩,λb hb c hc z=>?_⟩,λb hb=>?_⟩
    ·subst z;exact dp' b (by simp[hc]) hb
    ·subst z;rcases u6.mp hc with z|z
     ·exact dp' b (by simp[hb]) z
     ·exact djA b hb b (by simp[z]) rfl
    ·rcases u6.mp hb with z|z
     ·exact .inl (by simp[z])
     ·rcases u6.mp z with z|z
      ·exact .inr z
      ·exact .inl (by simp[z])
  obtain⟨U2,fps2,r2,n2,_⟩:=back (F2:=F) (H2:=upd H a (.ins C dx (putF f y fs))) (fq:=a :: dx :: fq) (λb o hb hbo=>by rw[zm0 (λz=>hb (by simp[z]))];exact hbo) (λ_ _ z=>z) (λb o z=>by
    have:b≠a:=λq=>by subst q;rw[g3]at z;cases z
    rw[zm0 this];exact res.rs.fh b o z) (λb _ fb _=>fb) (λb hb=>by
    by_cases z:b=a
    ·rw[z,zj0];simp
    ·rw[zm0 z];exact hb) (λb hb hf=>by
    have:F b=none:=by
     rcases v6.mp hb with z|z
     ·rw[z];exact g3
     ·rcases v6.mp z with z|z
      ·rw[z];exact g4
      ·exact(g5.dom b z).2
    exact absurd this hf) (.ob zj0 (by rw[zm0 nx];exact g2) g3 g4 hq) (wG.mpr ⟨λz=>by
    rcases v6.mp z with y|y
    ·exact nx y.symm
    ·rcases mq a y with y|y
     ·exact na y
     ·exact ra y,wG.mpr ⟨λz=>by
    rcases mq dx z with y|y
    ·exact nxf y
    ·exact rx y,ndq⟩⟩) (λb hb=>by
    rcases v6.mp hb with z|z
    ·exact .inl (by simp[z])
    ·rcases v6.mp z with z|z
     ·exact .inl (by simp[z])
     ·rcases mq b z with z|z
      ·exact .inl (by simp[z])
      ·exact .inr ⟨res.fr b z,λj s' ej hs' hbj=>res.dj j s' ej hs' b hbj z⟩)
  exact⟨U2,fps2,r2,n2⟩
noncomputable def dFld(C:Addr)(f:Str)(dc:DC)(dp:DP):DS:=λE U=>dc U λr U1=>dp U1 λi p u=>nCls C u/\nSet f u r λu2=>mutS U1 i p u2 E.nx
theorem znb(c:Cls K C)(na:NoAttr K C f)(hc:RfC K tv dc)(hp:RfP K ta dp):RfS K (sFld K ta tv f) (dFld C f dc dp):=by
 intro B F H Y U fps E Z r h k;refine hc r h λr2 U1 q y F1 H1 fps1 fpr res=>hp res.rs.fh res.rs.rv q λi p u hu v F2 H2 e2 at2=>?_;have res2:=res.grow e2;obtain⟨fn,hr⟩:=at2.rt res2.rs.rv;cases hr with
|ob g1 g2 g3 g4 g5 =>
  obtain⟨hcl,hl,hm⟩:=hu;cases (show _=C from hcl);have len:=(g5.keys f).2.2;obtain⟨U2,fps2,r3,n3⟩:=ze41 res2 at2 g1 hm;exact⟨_,_,_,_,rfl,g1,c,na,by lia,k.nx r3 n3⟩
|fz _=>exact hu.1.elim
|li _ _ _=>exact hu.1.elim
|ls _ _ _=>exact hu.1.elim
|dk _ _ _=>exact hu.1.elim
|dt _ _ _=>exact hu.1.elim
|tp _ _ _=>exact hu.1.elim
noncomputable def nFII(f:Str)(fn:Int->Int->Int)(x:D)(u:T)(y:D)(N:T->Prop):Prop:=match u with
|.ob C fs=>fs.length < 1000/\fII fn x y λz=>N (.ob C (putA f (.fz z) fs))
|_=>False
noncomputable def zns(C:Addr)(f:Str)(fn:Int->Int->Int)(dp:DP)(de:DE):DS:=λE U=>dp U λi p u=>nCls C u/\nFld f u λt=>fzT t λx=>de U λy=>nFII f fn x u y λu2=>mutS U i p u2 E.nx
theorem zot{fn:Int->Int->Int}(c:Cls K C)(na:NoAttr K C f)(hp:RfP K ta dp)(he:RfE K tv de):RfS K (zwv K ta tv (λx y H Q=>∃i j,x=.int i/\y=.int j/\Q (.int (fn i j)) H) f) (zns C f fn dp de):=by
 intro B F H Y U fps E Z r h k;refine hp r.fh r.rv h λi p u hu v F1 H1 e1 at1=>?_;have r1:=r.grow e1;obtain⟨fq,hr⟩:=at1.rt r1.rv;cases hr with
|ob g1 g2 g3 g4 g5 =>
  obtain⟨hcl,t0,et,hd⟩:=hu;cases (show _=C from hcl);obtain⟨x0,ex⟩:=(g5.keys f).2.1 t0 et;obtain⟨fA,fj,fB,_,hj,_⟩:=g5.split ex et;obtain⟨x,hx,ix⟩:=zn21 hj hd;refine⟨_,_,_,_,x0,rfl,g1,c,na,ex,he r1.fh r1.rv hx λy hy yv F2 H2 e2 i2=>?_⟩;have g1':=e2.h _ _ g1;obtain⟨hl,hf⟩:=hy;unfold fII at hf;split at hf
  ·cases ix.int_inv;cases i2.int_inv;have r2:=r1.grow e2;have len:=(g5.keys f).2.2;obtain⟨U2,fps2,r3,n3⟩:=ze41 (y:=.int _) (r:=.fz (.int _)) (fpr:=[]) ⟨r2,.fz (.int _),.nil,λa ha=>by simp at ha,λ_ _ _ _ a _ ha=>by simp at ha⟩ (at1.mono e2.h) g1' hf;exact⟨_,_,rfl,rfl,_,_,g1',by lia,k.nx r3 n3⟩
  ·exact hf.elim
|fz _=>exact hu.1.elim
|li _ _ _=>exact hu.1.elim
|ls _ _ _=>exact hu.1.elim
|dk _ _ _=>exact hu.1.elim
|dt _ _ _=>exact hu.1.elim
|tp _ _ _=>exact hu.1.elim
noncomputable def zy81:List T->Option (List (List D))
|[]=>some []
|.li ds :: r=>(zy81 r).map (ds :: ·)
|_ :: _=>none
noncomputable def toD:T->Option D
|.fz d=>some d
|.li ds=>some (.list ds)
|.ls ts=>(zy81 ts).map λdss=>.list (dss.map xM)
|_=>none
theorem zdx{F H:Hp}(s:Same F H):∀{xs:List V}{ts:List T}{fp:List Addr}{dss:List (List D)},RtAll K F H xs ts fp->zy81 ts=some dss->fp.Nodup->∃F2,Same F F2/\Same F2 H/\(∀b,b ∉ fp->F2 b=F b)/\IsAll K F2 xs (dss.map xM)
|_,_,_,_,.nil,e,_=>by cases e;exact⟨F,λ_ _ z=>z,s,λ_ _=>rfl,.nil⟩
|_,_,_,_,.cons (fp:=fp) (fq:=fq) h r,e,nd=>by
  cases h with
 |li h1 h2 h3 =>
   rename_i a xs0 ds0
   unfold zy81 at e;obtain⟨dss',e1,rfl⟩:=wX.mp e;have nd':=wG.mp nd;obtain⟨F1,s1,s2,s3,s4⟩:=zdx s r e1 nd'.2;have fa:F1 a=none:=by rw[s3 a nd'.1];exact h2
   have sn:Same F1 (upd F1 a (.lst xs0)):=zy2 fa _;refine⟨upd F1 a (.lst xs0),s1.trans sn,λb o z=>?_,λb hb=>?_,.cons (.lst (SqL.of zj0) (h3.mono (s1.trans sn))) (s4.mono sn)⟩
   ·by_cases q:b=a
    ·subst q;rw[zj0]at z;cases z;exact h1
    ·rw[zm0 q]at z;exact s2 b o z
   ·have hb1:b≠a:=λz=>hb (by simp[z]);rw[zm0 hb1];exact s3 b λz=>hb (by simp[z])
 |_=>cases e
theorem zb71{F H:Hp}(s:Same F H){v:V}{t:T}{d:D}(h:Rt K F H v t fp)(e:toD t=some d)(nd:fp.Nodup):∃F2,Same F F2/\Same F2 H/\(∀b,b ∉ fp->F2 b=F b)/\Is K F2 v d:=by
 cases h with
|fz i=>cases e;exact⟨F,λ_ _ z=>z,s,λ_ _=>rfl,i⟩
|li h1 h2 h3 =>
  cases e
  rename_i a xs ds
  have sn:=zy2 (H:=F) h2 (.lst xs);refine⟨_,sn,λb o z=>?_,λb hb=>zm0 λq=>hb (by simp[q]),.lst (SqL.of zj0) (h3.mono sn)⟩;by_cases q:b=a
  ·subst q;rw[zj0]at z;cases z;exact h1
  ·rw[zm0 q]at z;exact s b o z
|ls h1 h2 h3 =>
  rename_i a xs ts fp
  unfold toD at e;obtain⟨dss,e1,rfl⟩:=wX.mp e;have nd':=wG.mp nd;obtain⟨F1,s1,s2,s3,s4⟩:=zdx s h3 e1 nd'.2;have fa:F1 a=none:=by rw[s3 a nd'.1];exact h2
  have sn:Same F1 (upd F1 a (.lst xs)):=zy2 fa _;refine⟨upd F1 a (.lst xs),s1.trans sn,λb o z=>?_,λb hb=>?_,.lst (SqL.of zj0) (s4.mono sn)⟩
  ·by_cases q:b=a
   ·subst q;rw[zj0]at z;cases z;exact h1
   ·rw[zm0 q]at z;exact s2 b o z
  ·have hb1:b≠a:=λz=>hb (by simp[z]);rw[zm0 hb1];exact s3 b λz=>hb (by simp[z])
|ob _ _ _ _ _=>cases e
|dk _ _ _=>cases e
|dt _ _ _=>cases e
|tp _ _ _=>cases e
noncomputable def getP:T->Pth->Option T
|t,[]=>some t
|.ls ts,.ix j :: p=>(ts[j]?).bind λt=>getP t p
|.tp ts,.ix j :: p=>(ts[j]?).bind λt=>getP t p
|.ob _ fs,.fl f :: p=>(fs.lookup f).bind λt=>getP t p
|_,_=>none
theorem zub1{F H:Hp}{p:Pth}:∀{x:V}{t u:T}{fp:List Addr},Rt K F H x t fp->getP t p=some u->∃v,At H x t p v u:=by
 induction p with
|nil=>intro x t u fp _ e;unfold getP at e;cases e;exact⟨x,.nil⟩
|cons q p ih =>
  intro x t u fp h e;cases h with
 |ls h1 h2 h3 =>
   cases q with
  |ix j =>
    unfold getP at e;obtain⟨t1,e1,e2⟩:=zY.mp e
    rename_i xs ts fp'
    have el:=h3.len;have hj:j < ts.length:=by
     rcases xF j ts.length with y|y
     ·exact y
     ·rw[w8 y]at e1;cases e1
    obtain⟨y,hy⟩:∃y,xs[j]?=some y:=⟨xs[j]'(by lia),u8 _⟩
    obtain⟨fA,fj,fB,_,hr,_⟩:=h3.split hy e1;obtain⟨v,hv⟩:=ih hr e2;exact⟨v,.ix h1 hy e1 hv⟩
  |fl f=>cases e
 |tp h1 h2 h3 =>
   cases q with
  |ix j =>
    unfold getP at e;obtain⟨t1,e1,e2⟩:=zY.mp e
    rename_i xs ts fp'
    have el:=h3.len;have hj:j < ts.length:=by
     rcases xF j ts.length with y|y
     ·exact y
     ·rw[w8 y]at e1;cases e1
    obtain⟨y,hy⟩:∃y,xs[j]?=some y:=⟨xs[j]'(by lia),u8 _⟩
    obtain⟨fA,fj,fB,_,hr,_⟩:=h3.split hy e1;obtain⟨v,hv⟩:=ih hr e2;exact⟨v,.tx h1 hy e1 hv⟩
  |fl f=>cases e
 |ob h1 h2 h3 h4 h5 =>
   cases q with
  |fl f =>
    unfold getP at e;obtain⟨t1,e1,e2⟩:=zY.mp e;obtain⟨y,hy⟩:=(h5.keys f).2.1 t1 e1;obtain⟨fA,fj,fB,_,hr,_⟩:=h5.split hy e1;obtain⟨v,hv⟩:=ih hr e2;exact⟨v,.fl h1 hy e1 hv⟩
  |ix j=>cases e
 |fz _=>cases q <;> cases e
 |li _ _ _=>cases q <;> cases e
 |dk _ _ _=>cases q <;> cases e
 |dt _ _ _=>cases q <;> cases e
noncomputable def fzS(U:DSt)(i:Nat)(p:Pth)(N:DSt->Prop):Prop:=match U[i]? with
|some (.ow t)=>∃u d,getP t p=some u/\toD u=some d/\N (U.set i (slot (setP t p (.fz d))))
|some (.sh _)=>N U
|_=>False
noncomputable def dFrz(i:Nat)(p:Pth)(d:DS):DS:=λE U=>fzS U i p λU'=>d E U'
theorem RS.frz{B:Bs}{F H:Hp}{Y:_2.St}{U:DSt}{fps:Nat->List Addr}{i:Nat}{p:Pth}{N:DSt->Prop}(r:RS K B F H Y U fps)(h:fzS U i p N):∃F2 U2 fps2,RS K B F2 H Y U2 fps2/\N U2:=by
 unfold fzS at h;split at h
 ·rename_i t q
  obtain⟨u,d,eg,ed,hN⟩:=h;obtain⟨x,t',a1,a2,a3,a4,a5⟩:=r.rt i _ q rfl;cases a2;obtain⟨v,hv⟩:=zub1 a3 eg;obtain⟨fn,t1,h1,h2,h3,h4,back⟩:=r.put q rfl ⟨_,_,x,q,rfl,a1,hv⟩;cases h1;obtain⟨F2,s1,s2,s3,s4⟩:=zb71 r.fh h2 ed h3;obtain⟨fps2,r2,_⟩:=back (F2:=F2) (H2:=H) (fq:=[]) (λ_ _ _ z=>z) s1 s2 (λb _ fb hb=>by rw[s3 b hb];exact fb) (λ_ z=>z) (λb hb _=>(r.fr i _ q rfl b (h4 b hb)).elim id λz=>absurd rfl (z.2 t)) (.fz s4) .nil (λb hb=>by simp at hb);have hw:(Sl.ow t).wth (setP t p (.fz d))=.ow (setP t p (.fz d)):=rfl;rw[hw]at r2
  -- a slot whose whole is frozen becomes a plain one
  cases hs:setP t p (.fz d)with
 |fz d' =>
   rw[hs]at r2 hN;obtain⟨x',t'',b1,b2,b3,b4,b5⟩:=r2.rt i _ (xI (by
    rcases xF i U.length with z|z
    ·exact z
    ·rw[w8 z]at q;cases q)) rfl
   cases b2;obtain⟨d2,hd2,hi⟩:=zn21 (Q:=λz=>z=d') b3 rfl;subst hd2
   ·have r3:=r2.setS (i:=i) hi;rw[zF]at r3;have eY:Y.set i (some x')=Y:=by
     apply zG;intro j;rw[xL];by_cases hij:i=j
     ·subst hij;have hlt:i < Y.length:=by
       rw[r.len];rcases xF i U.length with z|z
       ·exact z
       ·rw[w8 z]at q;cases q
      simp[hlt];have:=zff (F:=F) (H:=H) (U:=U) b1;rw[u8 hlt]at this;exact(wV.inj this).symm
     ·simp[hij]
    rw[eY]at r3;exact⟨F2,_,fps2,r3,hN⟩
 |li _=>rw[hs]at r2 hN;exact⟨F2,_,fps2,r2,hN⟩
 |ls _=>rw[hs]at r2 hN;exact⟨F2,_,fps2,r2,hN⟩
 |ob _ _=>rw[hs]at r2 hN;exact⟨F2,_,fps2,r2,hN⟩
 |dk _=>rw[hs]at r2 hN;exact⟨F2,_,fps2,r2,hN⟩
 |dt _=>rw[hs]at r2 hN;exact⟨F2,_,fps2,r2,hN⟩
 |tp _=>rw[hs]at r2 hN;exact⟨F2,_,fps2,r2,hN⟩
 ·exact⟨F,U,fps,r,h⟩
 ·exact h.elim
theorem zxr(i:Nat)(p:Pth)(h:RfS K t d):RfS K t (dFrz i p d):=by
 intro B F H Y U fps E Z r hd k;obtain⟨F2,U2,fps2,r2,h2⟩:=r.frz hd;exact h r2 h2 k
end
set_option genInjectivity true in
inductive Arg where
|d (d:D)|b (t:T)|o (t:T)
inductive ArgP where
|d (d:D)|b (i:Nat) (p:Pth) (t:T)|o (i:Nat) (p:Pth) (t:T)
noncomputable def ArgP.arg:ArgP->Arg
|.d x=>.d x
|.b _ _ x=>.b x
|.o _ _ x=>.o x
inductive ArgsR(K:Fg)(F H:Hp):List V->List Arg->List Addr->Option (Addr×List Addr)->Prop
|nil:ArgsR K F H [] [] [] none
|d {v:V} {d:D} {vs:List V} {as:List Arg} {bf:List Addr} {oo:Option (Addr×List Addr)}:Is K F v d->ArgsR K F H vs as bf oo->ArgsR K F H (v :: vs) (.d d :: as) bf oo
|b {v:V} {t:T} {fp:List Addr} {vs:List V} {as:List Arg} {bf:List Addr} {oo:Option (Addr×List Addr)}:Rt K F H v t fp->fp.Nodup->ArgsR K F H vs as bf oo->ArgsR K F H (v :: vs) (.b t :: as) (fp++bf) oo
|o {a:Addr} {t:T} {fp:List Addr} {vs:List V} {as:List Arg} {bf:List Addr}:Rt K F H (.ref a) t fp->fp.Nodup->ArgsR K F H vs as bf none->ArgsR K F H (.ref a :: vs) (.o t :: as) bf (some (a,fp))
noncomputable def ofp:Option (Addr×List Addr)->List Addr
|none=>[]
|some x=>x.2
structure Post(K:Fg)(F H:Hp)(oo:Option (Addr×List Addr))(F' H':Hp)(v:V)(r:T)(fpr:List Addr)(t':T)(fpo:List Addr):Prop where
 hh:∀b o,b ∉ ofp oo->H b=some o->H' b=some o
 ff:Same F F'
 fh:Same F' H'
 nw:∀b,H b≠none->F b=none->F' b=none
 al:∀b,H b≠none->H' b≠none
 rt:Rt K F' H' v r fpr
 nd:fpr.Nodup
 fr:∀a∈fpr,H a=none
 io:∀a fp,oo=some (a,fp)->Rt K F' H' (.ref a) t' fpo/\fpo.Nodup/\(∀b∈fpo,b∈fp \/ H b=none)/\∀b∈fpo,b ∉ fpr
noncomputable abbrev DSpT:=List Arg->(T->T->Prop)->Prop
noncomputable def spT(K:Fg)(p:DSpT):Sp:=λvs H Q _=>∃F as bf oo Qd,Same F H/\ArgsR K F H vs as bf oo/\(∀b∈ofp oo,b ∉ bf)/\p as Qd/\∀r t',Qd r t'->∀v F' H' fpr fpo,Post K F H oo F' H' v r fpr t' fpo->Q v H'
section
variable {K:Fg}{te ta ti tv:TE}{de da di dk:DE}{dc:DC}{tt:TT}{dt:DT}{t u tb:TS}{d e db:DS}{tA:TA}{dA:DF}{g:TG}{dg:DG}{n:Nat}{dp:DP}{w:World}
inductive ArgsP(K:Fg)(F H:Hp)(Y:_2.St)(U:DSt):List V->List ArgP->Prop
|nil:ArgsP K F H Y U [] []
|d {v:V} {d:D} {vs:List V} {as:List ArgP}:Is K F v d->ArgsP K F H Y U vs as->ArgsP K F H Y U (v :: vs) (.d d :: as)
|b {v:V} {i:Nat} {p:Pth} {t:T} {vs:List V} {as:List ArgP}:AtS H Y U i p v t->ArgsP K F H Y U vs as->ArgsP K F H Y U (v :: vs) (.b i p t :: as)
|o {v:V} {i:Nat} {p:Pth} {t:T} {vs:List V} {as:List ArgP}:AtS H Y U i p v t->ArgsP K F H Y U vs as->ArgsP K F H Y U (v :: vs) (.o i p t :: as)
noncomputable abbrev DAT:=DSt->(List ArgP->Prop)->Prop
noncomputable def RfAT(K:Fg)(ta:TA)(da:DAT):Prop:=∀{F H:Hp}{Y:_2.St}{U:DSt}{Qd:List ArgP->Prop}{Q:List V->Hp->Prop},Same F H->RV K F H Y U->da U Qd->(∀as,Qd as->∀vs F' H',Ext F H F' H'->ArgsP K F' H' Y U vs as->Q vs H')->ta Y H Q
variable {dA':DAT}
noncomputable def aNil:DAT:=λ_ Q=>Q []
noncomputable def aD(de:DE)(dr:DAT):DAT:=λU Q=>de U λx=>dr U λas=>Q (.d x :: as)
noncomputable def aB(dp:DP)(dr:DAT):DAT:=λU Q=>dp U λi p t=>dr U λas=>Q (.b i p t :: as)
noncomputable def aO(dp:DP)(dr:DAT):DAT:=λU Q=>dp U λi p t=>dr U λas=>Q (.o i p t :: as)
theorem zd3:RfAT K tNil aNil:=λs rv h k=>k _ h _ _ _ (Ext.refl s) .nil
theorem at_d(ha:RfE K ta da)(hr:RfAT K tA dA'):RfAT K (zw2 ta tA) (aD da dA'):=by
 intro F H Y U Qd Q s rv h k;refine ha s rv h λx hx v F1 H1 e1 i1=>hr e1.fh (rv.ext e1) hx λas has vs F2 H2 e2 i2=>?_;exact k _ has _ F2 H2 (e1.trans e2) (.d (i1.mono e2.f) i2)
theorem at_b(ha:RfP K ta dp)(hr:RfAT K tA dA'):RfAT K (zw2 ta tA) (aB dp dA'):=by
 intro F H Y U Qd Q s rv h k;refine ha s rv h λi p t hx v F1 H1 e1 i1=>hr e1.fh (rv.ext e1) hx λas has vs F2 H2 e2 i2=>?_;exact k _ has _ F2 H2 (e1.trans e2) (.b (i1.mono e2.h) i2)
theorem at_o(ha:RfP K ta dp)(hr:RfAT K tA dA'):RfAT K (zw2 ta tA) (aO dp dA'):=by
 intro F H Y U Qd Q s rv h k;refine ha s rv h λi p t hx v F1 H1 e1 i1=>hr e1.fh (rv.ext e1) hx λas has vs F2 H2 e2 i2=>?_;exact k _ has _ F2 H2 (e1.trans e2) (.o (i1.mono e2.h) i2)
noncomputable def noO:List ArgP->Prop
|[]=>True
|.o _ _ _ :: _=>False
|.d _ :: r=>noO r
|.b _ _ _ :: r=>noO r
noncomputable def noS(i:Nat):List ArgP->Prop
|[]=>True
|.b j _ _ :: r=>j≠i/\noS i r
|.d _ :: r=>noS i r
|.o _ _ _ :: r=>noS i r
noncomputable def zht:List ArgP->Option (Nat×Pth×T)
|[]=>none
|.o i p t :: _=>some (i,p,t)
|.d _ :: r=>zht r
|.b _ _ _ :: r=>zht r
noncomputable def oneO(i:Nat):List ArgP->Prop
|[]=>False
|.o _ _ _ :: r=>noO r/\noS i r
|.d _ :: r=>oneO i r
|.b j _ _ :: r=>j≠i/\oneO i r
noncomputable def zkx(U:DSt)(i:Nat):Prop:=match U[i]? with
|some (.ow _)=>True
|some (.io _ _)=>True
|_=>False
noncomputable def zdw:T->Prop
|.fz _=>False
|_=>True
theorem zdi{F H:Hp}{Y:_2.St}{U:DSt}{fps:Nat->List Addr}(rt:∀{i:Nat}{p:Pth}{v:V}{u:T},AtS H Y U i p v u->∃fn,Rt K F H v u fn/\fn.Nodup/\∀a∈fn,a∈fps i/\∃s,U[i]?=some s/\s.has=true):∀{vs:List V}{as:List ArgP},ArgsP K F H Y U vs as->noO as->∃bf,ArgsR K F H vs (as.map ArgP.arg) bf none/\∀i,noS i as->∀b∈bf,∃j,j≠i/\b∈fps j/\∃s,U[j]?=some s/\s.has=true
|_,_,.nil,_=>⟨[],.nil,λi _ b hb=>by simp at hb⟩
|_,_,.d h r,hn=>by
  obtain⟨bf,h1,h2⟩:=zdi rt r hn;exact⟨bf,.d h h1,h2⟩
|_,_,.b (i:=i') h r,hn=>by
  obtain⟨bf,h1,h2⟩:=zdi rt r hn;obtain⟨fn,g1,g2,g3⟩:=rt h;refine⟨fn++bf,.b g1 g2 h1,λi hi b hb=>?_⟩;rcases u6.mp hb with z|z
  ·exact⟨i',hi.1,(g3 b z).1,(g3 b z).2⟩
  ·exact h2 i hi.2 b z
|_,_,.o h r,hn=>hn.elim
theorem zzg{F H:Hp}{Y:_2.St}{U:DSt}{fps:Nat->List Addr}(rt:∀{i:Nat}{p:Pth}{v:V}{u:T},AtS H Y U i p v u->∃fn,Rt K F H v u fn/\fn.Nodup/\∀a∈fn,a∈fps i/\∃s,U[i]?=some s/\s.has=true){i:Nat}{p:Pth}{u:T}:∀{vs:List V}{as:List ArgP},ArgsP K F H Y U vs as->zht as=some (i,p,u)->oneO i as->zdw u ->
  ∃a,AtS H Y U i p (.ref a) u/\∀fn,Rt K F H (.ref a) u fn->fn.Nodup->∃bf,ArgsR K F H vs (as.map ArgP.arg) bf (some (a,fn))/\∀b∈bf,∃j,j≠i/\b∈fps j/\∃s,U[j]?=some s/\s.has=true
|_,_,.nil,e,_,_=>by cases e
|_,_,.d h r,e,hn,hf=>by
  obtain⟨a,h1,h2⟩:=zzg rt r e hn hf;refine⟨a,h1,λfn g1 g2=>?_⟩;obtain⟨bf,k1,k2⟩:=h2 fn g1 g2;exact⟨bf,.d h k1,k2⟩
|_,_,.b (i:=i') h r,e,hn,hf=>by
  obtain⟨a,h1,h2⟩:=zzg rt r e hn.2 hf;obtain⟨fb,g1,g2,g3⟩:=rt h;refine⟨a,h1,λfn k1 k2=>?_⟩;obtain⟨bf,m1,m2⟩:=h2 fn k1 k2;refine⟨fb++bf,.b g1 g2 m1,λb hb=>?_⟩;rcases u6.mp hb with z|z
  ·exact⟨i',hn.1,(g3 b z).1,(g3 b z).2⟩
  ·exact m2 b z
|_,_,.o h r,e,hn,hf=>by
  cases e;obtain⟨bf,m1,m2⟩:=zdi rt r hn.1;obtain⟨fn0,g1,_,_⟩:=rt h;cases g1 with
 |fz _=>exact hf.elim
 |li _ _ _=>exact⟨_,h,λfn k1 k2=>⟨bf,.o k1 k2 m1,m2 i hn.2⟩⟩
 |ls _ _ _=>exact⟨_,h,λfn k1 k2=>⟨bf,.o k1 k2 m1,m2 i hn.2⟩⟩
 |ob _ _ _ _ _=>exact⟨_,h,λfn k1 k2=>⟨bf,.o k1 k2 m1,m2 i hn.2⟩⟩
 |dk _ _ _=>exact⟨_,h,λfn k1 k2=>⟨bf,.o k1 k2 m1,m2 i hn.2⟩⟩
 |dt _ _ _=>exact⟨_,h,λfn k1 k2=>⟨bf,.o k1 k2 m1,m2 i hn.2⟩⟩
 |tp _ _ _=>exact⟨_,h,λfn k1 k2=>⟨bf,.o k1 k2 m1,m2 i hn.2⟩⟩
theorem RS.rtS{B:Bs}{F H:Hp}(r:RS K B F H Y U fps){p:Pth}{v:V}{u:T}(h:AtS H Y U i p v u):∃fn,Rt K F H v u fn/\fn.Nodup/\∀a∈fn,a∈fps i/\∃s,U[i]?=some s/\s.has=true:=by
 obtain⟨s,t,x,h1,h2,h3,h4⟩:=h;by_cases hs:s.has=true
 ·obtain⟨x',t',a1,a2,a3,a4,a5⟩:=r.rt i s h1 hs;rw[h3]at a1;cases a1;rw[h2]at a2;cases a2;obtain⟨fn,g1,g2,g3,_⟩:=zdb1 h4 a3 a5;exact⟨fn,g1,g3,λa ha=>⟨g2 a ha,s,h1,hs⟩⟩
 ·cases s with
 |sh d =>
   cases h2;obtain⟨y,b1,b2⟩:=r.sh i d h1;rw[h3]at b1;cases b1;cases h4;exact⟨[],.fz b2,.nil,λa ha=>by simp at ha⟩
 |un=>cases h2
 |ow _=>exact absurd rfl hs
 |bo _=>exact absurd rfl hs
 |io _ _=>exact absurd rfl hs
theorem znk{p:Pth}{u t0:T}{s:Sl}(hi:U[i]?=some s)(ho:s.own=true)(ht:s.tree=some t0)(h:mutS U i p u N):N (U.set i (s.wth (setP t0 p u))):=by
 unfold mutS at h;rw[hi]at h;cases s with
|ow t=>cases ht;exact h
|io a t=>cases ht;exact h
|un=>cases ho
|sh _=>cases ho
|bo _=>cases ho
noncomputable def zjy(p:DSpT)(U:DSt)(as:List ArgP)(Q:T->DSt->Prop):Prop:=match zht as with
|some (i,q,t)=>zkx U i/\oneO i as/\zdw t/\p (as.map ArgP.arg) λr t2=>mutS U i q t2 λU'=>Q r U'
|none=>noO as/\p (as.map ArgP.arg) λr _=>Q r U
theorem zds{B:Bs}{F H:Hp}{p:DSpT}{as:List ArgP}{Qd:T->DSt->Prop}{Q:VK}(r:RS K B F H Y U fps)(ha:ArgsP K F H Y U vs as)(hc:zjy p U as Qd)
  (k:∀r U',Qd r U'->∀v F' H' fps' fpr,Res K B F' H' Y U' fps' v r fpr->Q v H'):spT K p vs H Q E:=by
 unfold zjy at hc;split at hc
 ·rename_i i q t0 eo
  obtain⟨ho,h1,hf,hp⟩:=hc;obtain⟨s,hs,hso⟩:∃s,U[i]?=some s/\s.own=true:=by
   unfold zkx at ho;split at ho
   ·rename_i q;exact⟨_,q,rfl⟩
   ·rename_i q;exact⟨_,q,rfl⟩
   ·exact ho.elim
  obtain⟨a,hat,hargs⟩:=zzg (λh=>r.rtS h) ha eo h1 hf;obtain⟨fn,t1,g1,g2,g3,g4,back⟩:=r.put hs hso hat;obtain⟨bf,m1,m2⟩:=hargs fn g2 g3;refine⟨F,_,bf,some (a,fn),_,r.fh,m1,λb hb hbf=>?_,hp,λr2 t2 q2 v F' H' fpr fpo post=>?_⟩
  ·obtain⟨j,hj,hbj,sj,e1,hh⟩:=m2 b hbf;exact r.dj i j s sj (λz=>hj z.symm) hs e1 hso hh b (g4 b hb) hbj
  ·obtain⟨io1,io2,io3,io4⟩:=post.io a fn rfl;obtain⟨fps2,r2',e2,e3⟩:=back (F2:=F') (H2:=H') (u2:=t2) (fq:=fpo) post.hh post.ff post.fh (λb hb fb _=>post.nw b hb fb) post.al (λb hb f=>absurd (post.nw b (g2.dom b hb).1 (g2.dom b hb).2) f) io1 io2 (λb hb=>(io3 b hb).elim .inl λz=>.inr (r.newOk z));have qd:=znk hs hso g1 q2;refine k _ _ qd v F' H' fps2 fpr ⟨r2',post.rt,post.nd,λb hb=>(r.newOk (post.fr b hb)).1,λj s' ej hs' b hb hbr=>?_⟩;have fresh:=post.fr b hbr;by_cases hji:j=i
   ·subst hji;rcases e3 b hb with z|z
    ·obtain⟨x',t',a1,a2,a3,a4,a5⟩:=r.rt j s hs (zda hso);exact(a3.dom b z).1 fresh
    ·exact io4 b z hbr
   ·rw[e2 j hji]at hb;rw[xU (λz=>hji z.symm)]at ej;exact(r.newOk fresh).2 j s' ej hs' hb
 ·rename_i eo
  obtain⟨hn,hp⟩:=hc;obtain⟨bf,m1,_⟩:=zdi (λh=>r.rtS h) ha hn;refine⟨F,_,bf,none,_,r.fh,m1,λb hb=>by simp[ofp]at hb,hp,λr2 t2 q2 v F' H' fpr fpo post=>?_⟩;have ex:Ext F H F' H':=⟨λb o hb=>post.hh b o (by simp[ofp]) hb,post.ff,post.fh,post.nw⟩
  exact k _ _ q2 v F' H' fps fpr ⟨r.grow ex,post.rt,post.nd,λb hb=>(r.newOk (post.fr b hb)).1,λj s' ej hs' b hb hbr=>(r.newOk (post.fr b hbr)).2 j s' ej hs' hb⟩
noncomputable def zve1(p:DSpT)(da:DAT):DC:=λU Q=>da U λas=>zjy p U as Q
theorem zle{p:DSpT}(h:RfAT K tA dA'):RfC K (zl21 (spT K p) [] E tA) (zve1 p dA'):=by
 intro B F H Y U fps Qd Q r hd k;refine h r.fh r.rv hd λas has vs F1 H1 e1 i1=>?_;rw[wQ];exact zds (r.grow e1) i1 has k
noncomputable def noM(m:Str)(u:T):Prop:=match u with
|.ob _ fs=>fs.lookup m=none
|_=>False
noncomputable def zfe1(o:Bool)(C:Addr)(m:Str)(p:DSpT)(dp:DP)(da:DAT):DC:=λU Q=>dp U λi q u=>nCls C u/\noM m u/\da U λas=>zjy p U ((if o then .o i q u else .b i q u) :: as) Q
theorem zdh{F H:Hp}{v:V}{u:T}(hr:Rt K F H v u fn)(hc:nCls C u)(hm:noM m u):∃a dx fs,v=.ref a/\H a=some (.ins C dx fs)/\fs.lookup m=none:=by
 cases hr with
|ob g1 g2 g3 g4 g5 =>
  cases (show _=C from hc);exact⟨_,_,_,rfl,g1,(g5.keys m).1 hm⟩
|fz _=>exact hc.elim
|li _ _ _=>exact hc.elim
|ls _ _ _=>exact hc.elim
|dk _ _ _=>exact hc.elim
|dt _ _ _=>exact hc.elim
|tp _ _ _=>exact hc.elim
theorem zzr{p:DSpT}(o:Bool)(hp:RfP K ta dp)(h:RfAT K tA dA'):RfC K (zi21 C m (spT K p) [] E ta tA) (zfe1 o C m p dp dA'):=by
 intro B F H Y U fps Qd Q r hd k;refine hp r.fh r.rv hd λi q u hu v F1 H1 e1 at1=>?_;have r1:=r.grow e1;obtain⟨fn,hr⟩:=at1.rt r1.rv;obtain⟨a,dx,fs,rfl,h1,h2⟩:=zdh hr hu.1 hu.2.1;refine⟨a,dx,fs,rfl,h1,h2,h r1.fh r1.rv hu.2.2 λas has vs F2 H2 e2 i2=>?_⟩;rw[wQ];have at2:=at1.mono e2.h;cases o with
|true=>exact zds (r1.grow e2) (.o at2 i2) has k
|false=>exact zds (r1.grow e2) (.b at2 i2) has k
noncomputable def zj21(p:DSpT)(as:List ArgP)(Q:T->Prop):Prop:=noO as/\p (as.map ArgP.arg) λr _=>Q r
theorem AtS.rtV{F H:Hp}(r:RV K F H Y U){p:Pth}{v:V}{u:T}(h:AtS H Y U i p v u):∃fn,Rt K F H v u fn/\fn.Nodup:=by
 obtain⟨s,t,x,h1,h2,h3,h4⟩:=h;obtain⟨y,fp,e,hr,nd⟩:=(r.sl i s h1).rt h2;rw[h3]at e;cases e;obtain⟨fn,g1,_,g3,_⟩:=zdb1 h4 hr nd;exact⟨fn,g1,g3⟩
theorem zdm{F H:Hp}{Y:_2.St}{U:DSt}(r:RV K F H Y U):∀{vs:List V}{as:List ArgP},ArgsP K F H Y U vs as->noO as->∃bf,ArgsR K F H vs (as.map ArgP.arg) bf none
|_,_,.nil,_=>⟨[],.nil⟩
|_,_,.d h q,hn=>by
  obtain⟨bf,h1⟩:=zdm r q hn;exact⟨bf,.d h h1⟩
|_,_,.b h q,hn=>by
  obtain⟨bf,h1⟩:=zdm r q hn;obtain⟨fn,g1,g2⟩:=h.rtV r;exact⟨fn++bf,.b g1 g2 h1⟩
|_,_,.o h r,hn=>hn.elim
theorem znr{F H:Hp}{p:DSpT}{as:List ArgP}{Qd:T->Prop}{Q:VK}(s:Same F H)(r:RV K F H Y U)(ha:ArgsP K F H Y U vs as)(hc:zj21 p as Qd)
  (k:∀r,Qd r->∀v F' H' fp,Ext F H F' H'->Rt K F' H' v r fp->fp.Nodup->(∀a∈fp,H a=none)->Q v H'):spT K p vs H Q E:=by
 obtain⟨bf,m1⟩:=zdm r ha hc.1;refine⟨F,_,bf,none,_,s,m1,λb hb=>by simp[ofp]at hb,hc.2,λr2 t2 q2 v F' H' fpr fpo post=>?_⟩;exact k _ q2 v F' H' fpr ⟨λb o hb=>post.hh b o (by simp[ofp]) hb,post.ff,post.fh,post.nw⟩ post.rt post.nd post.fr
noncomputable def zod1(p:DSpT)(da:DAT):DN:=λU Q=>da U λas=>zj21 p as Q
noncomputable def zqb1(C:Addr)(m:Str)(p:DSpT)(dp:DP)(da:DAT):DN:=λU Q=>dp U λi q u=>nCls C u/\noM m u/\da U λas=>zj21 p (.b i q u :: as) Q
theorem zli{p:DSpT}(h:RfAT K tA dA'):RfN K (zl21 (spT K p) [] E tA) (zod1 p dA'):=by
 intro F H Y U Qd Q s rv hd k;refine h s rv hd λas has vs F1 H1 e1 i1=>?_;rw[wQ];exact znr e1.fh (rv.ext e1) i1 has λr q v F' H' fp e2 h1 h2 h3=>k r q v F' H' fp (e1.trans e2) h1 h2 λa ha=>zo1 e1 (h3 a ha)
theorem ztq{p:DSpT}(hp:RfP K ta dp)(h:RfAT K tA dA'):RfN K (zi21 C m (spT K p) [] E ta tA) (zqb1 C m p dp dA'):=by
 intro F H Y U Qd Q s rv hd k;refine hp s rv hd λi q u hu v F1 H1 e1 at1=>?_;have rv1:=rv.ext e1;obtain⟨fn,hr⟩:=at1.rt rv1;obtain⟨a,dx,fs,rfl,h1,h2⟩:=zdh hr hu.1 hu.2.1;refine⟨a,dx,fs,rfl,h1,h2,h e1.fh rv1 hu.2.2 λas has vs F2 H2 e2 i2=>?_⟩;rw[wQ];have e12:=e1.trans e2;exact znr e2.fh (rv.ext e12) (.b (at1.mono e2.h) i2) has λr q v F' H' fp e3 h1 h2 h3=>k r q v F' H' fp (e12.trans e3) h1 h2 λa ha=>zo1 e12 (h3 a ha)
noncomputable def eN(dn:DN):DE:=λU Q=>dn U λr=>fzT r Q
theorem RfN.ex{dn:DN}(h:RfN K te dn):RfE K te (eN dn):=λs rv hd k=>h s rv hd λr q v F' H' fp e1 h1 h2 h3=>by
 obtain⟨d,qd,i⟩:=zn21 h1 q;exact k d qd v F' H' e1 i
noncomputable def znd1(C:Addr)(p:DSpT)(da:DAT):DN:=λU Q=>da U λas=>noO as/\p (.o (.ob C []) :: as.map ArgP.arg) λr t2=>(match r with|.fz .none=>True|_=>False)/\Q t2
theorem zci{p:DSpT}(h:RfAT K tA dA'):RfN K (zza1 C (spT K p) [] E tA) (znd1 C p dA'):=by
 intro F H Y U Qd Q s rv hd k;refine h s rv hd λas has vs F1 H1 e1 i1=>?_;intro x dx hx hdx hne;obtain⟨bf,m1⟩:=zdm (rv.ext e1) i1 has.1;have hH:∀b,b≠x->b≠dx->upd (upd H1 dx (.own x)) x (.ins C dx []) b=H1 b:=λb h1 h2=>by rw[zm0 h1,zm0 h2]
 have s2:Same H1 (upd (upd H1 dx (.own x)) x (.ins C dx [])):=λb o z=>by
  rw[hH b (λq=>by subst q;rw[hx]at z;cases z) (λq=>by subst q;rw[hdx]at z;cases z)];exact z
 have fx:F1 x=none:=by
  cases q:F1 x with
 |none=>rfl
 |some o=>rw[e1.fh x o q]at hx;cases hx
 have fdx:F1 dx=none:=by
  cases q:F1 dx with
 |none=>rfl
 |some o=>rw[e1.fh dx o q]at hdx;cases hdx
 have m2:ArgsR K F1 (upd (upd H1 dx (.own x)) x (.ins C dx [])) vs (as.map ArgP.arg) bf none/\∀b∈bf,H1 b≠none:=by
  have key:∀{vs:List V}{as:List Arg}{bf:List Addr}{oo:Option (Addr×List Addr)},ArgsR K F1 H1 vs as bf oo->oo=none->ArgsR K F1 (upd (upd H1 dx (.own x)) x (.ins C dx [])) vs as bf none/\∀b∈bf,H1 b≠none:=λ{vs as bf oo} hh=>by
   induction hh with
  |nil=>intro _;exact⟨.nil,λb hb=>by simp at hb⟩
  |d h1 _ ih=>intro e;exact⟨.d h1 (ih e).1,(ih e).2⟩
  |b h1 h2 _ ih =>
    intro e;refine⟨.b (h1.frame (λ_ _ z=>z) λb hb=>⟨?_,(h1.dom b hb).2⟩) h2 (ih e).1,λb hb=>?_⟩
    ·exact hH b (λq=>by subst q;exact(h1.dom b hb).1 hx) (λq=>by subst q;exact(h1.dom b hb).1 hdx)
    ·rcases u6.mp hb with z|z
     ·exact(h1.dom b z).1
     ·exact(ih e).2 b z
  |o _ _ _ _=>intro e;cases e
  exact key m1 rfl
 refine⟨F1,_,bf,some (x,[x,dx]),_,e1.fh.trans s2,.o (.ob zj0 (by rw[zm0 hne,zj0]) fx fdx .nil) (by simp[Ne.symm hne]) (by rw[wQ];exact m2.1),λb hb hbf=>?_,has.2,λr t2 q2 v F' H' fpr fpo post=>?_⟩
 ·have:=m2.2 b hbf;simp[ofp]at hb;rcases hb with z|z
  ·exact this (by rw[z];exact hx)
  ·exact this (by rw[z];exact hdx)
 ·obtain⟨q0,q1⟩:=q2;obtain⟨io1,io2,io3,io4⟩:=post.io x [x,dx] rfl;refine⟨?_,k _ q1 (.ref x) F' H' fpo (e1.trans ⟨λb o z=>?_,post.ff,post.fh,λb hb fb=>post.nw b (λz=>?_) fb⟩) io1 io2 λb hb=>zo1 e1 ?_⟩
  ·split at q0
   ·cases post.rt with
   |fz i=>exact i.non_inv
   ·exact q0.elim
  ·refine post.hh b o (λw=>?_) (s2 b o z);simp[ofp]at w;rcases w with w|w
   ·rw[w,hx]at z;cases z
   ·rw[w,hdx]at z;cases z
  ·cases q:H1 b with
  |none=>exact hb q
  |some o=>rw[s2 b o q]at z;cases z
  ·rcases io3 b hb with z|z
   ·simp at z;rcases z with z|z
    ·rw[z];exact hx
    ·rw[z];exact hdx
   ·cases q:H1 b with
   |none=>rfl
   |some o=>rw[s2 b o q]at z;cases z
end
section
variable {P:Program}{w:World}{K:Fg}{mg:Str->Option Value}{base:Heap}
noncomputable def zr81(a:Addr):Arg->Sl
|.d x=>.sh x
|.b x=>.bo x
|.o x=>.io a x
noncomputable def zse(N:List Str)(a:Addr)(as:List Arg):DSt:=as.map (zr81 a)++v9 (N.length - as.length) .un
noncomputable def oIx:List Arg->Option Nat
|[]=>none
|.o _ :: _=>some 0
|.d _ :: r=>(oIx r).map (·+1)
|.b _ :: r=>(oIx r).map (·+1)
noncomputable def exA(as:List Arg)(a:Addr)(Qd:T->T->Prop)(r:T)(U:DSt):Prop:=match oIx as with
|none=>Qd r (.fz .none)
|some k=>∃t',U[k]?=some (.io a t')/\Qd r t'
noncomputable def zw41(as:List Arg)(a:Addr)(Qd:T->T->Prop):DEnds:={ nx:=exA as a Qd (.fz .none),rt:=exA as a Qd }
theorem zsf{F H:Hp}:∀{vs:List V}{as:List Arg}{bf:List Addr}{oo:Option (Addr×List Addr)},ArgsR K F H vs as bf oo->vs.length=as.length/\∃fl:Nat->List Addr,
  (∀(k:Nat) x,as[k]?=some (.d x)->∃v,vs[k]?=some v/\Is K F v x) /\
  (∀(k:Nat) x,as[k]?=some (.b x)->∃v,vs[k]?=some v/\Rt K F H v x (fl k)/\(fl k).Nodup/\∀b∈fl k,b∈bf) /\
  (∀(k:Nat) x,as[k]?=some (.o x)->∃a,vs[k]?=some (.ref a)/\oo=some (a,fl k)/\Rt K F H (.ref a) x (fl k)/\(fl k).Nodup/\oIx as=some k)/\(oo=none->oIx as=none)/\(∀a fp,oo=some (a,fp)->∃k x,as[k]?=some (.o x)/\fl k=fp/\oIx as=some k)
|_,_,_,_,.nil=>⟨rfl,λ_=>[],λk x e=>by simp at e,λk x e=>by simp at e,λk x e=>by simp at e,λ_=>rfl,λa fp e=>by cases e⟩
|_,_,_,_,.d h r=>by
  obtain⟨hl,fl,h1,h2,h3,h4,h5⟩:=zsf r;refine⟨by simp[hl],λk=>fl (k - 1),λk x e=>?_,λk x e=>?_,λk x e=>?_,λe=>?_,λa fp e=>?_⟩
  ·cases k with
  |zero=>simp at e;subst e;exact⟨_,rfl,h⟩
  |succ k=>obtain⟨v,g1,g2⟩:=h1 k x (by simpa using e);exact⟨v,by simpa using g1,g2⟩
  ·cases k with
  |zero=>simp at e
  |succ k=>obtain⟨v,g1,g2⟩:=h2 k x (by simpa using e);exact⟨v,by simpa using g1,g2⟩
  ·cases k with
  |zero=>simp at e
  |succ k=>obtain⟨v,g1,g2,g3,g4,g5⟩:=h3 k x (by simpa using e);exact⟨v,by simpa using g1,g2,g3,g4,by simp[oIx,g5]⟩
  ·simp[oIx,h4 e]
  ·obtain⟨k,x,g1,g2,g3⟩:=h5 a fp e;exact⟨k+1,x,by simpa using g1,g2,by simp[oIx,g3]⟩
|_,_,_,_,.b (fp:=fp) (bf:=bf) h nd r=>by
  obtain⟨hl,fl,h1,h2,h3,h4,h5⟩:=zsf r;refine⟨by simp[hl],λk=>if k=0 then fp else fl (k - 1),λk x e=>?_,λk x e=>?_,λk x e=>?_,λe=>?_,λa fp' e=>?_⟩
  ·cases k with
  |zero=>simp at e
  |succ k=>obtain⟨v,g1,g2⟩:=h1 k x (by simpa using e);exact⟨v,by simpa using g1,g2⟩
  ·cases k with
  |zero=>simp at e;subst e;exact⟨_,rfl,h,nd,λb hb=>by simp at hb ⊢;exact .inl hb⟩
  |succ k=>obtain⟨v,g1,g2,g3,g4⟩:=h2 k x (by simpa using e);exact⟨v,by simpa using g1,g2,g3,λb hb=>by have:=g4 b (by simpa using hb);simp[this]⟩
  ·cases k with
  |zero=>simp at e
  |succ k=>obtain⟨v,g1,g2,g3,g4,g5⟩:=h3 k x (by simpa using e);exact⟨v,by simpa using g1,g2,g3,g4,by simp[oIx,g5]⟩
  ·simp[oIx,h4 e]
  ·obtain⟨k,x,g1,g2,g3⟩:=h5 a fp' e;exact⟨k+1,x,by simpa using g1,by simpa using g2,by simp[oIx,g3]⟩
|_,_,_,_,.o (a:=a) (fp:=fp) h nd r=>by
  obtain⟨hl,fl,h1,h2,h3,h4,h5⟩:=zsf r;refine⟨by simp[hl],λk=>if k=0 then fp else fl (k - 1),λk x e=>?_,λk x e=>?_,λk x e=>?_,λe=>(by cases e),λa' fp' e=>?_⟩
  ·cases k with
  |zero=>simp at e
  |succ k=>obtain⟨v,g1,g2⟩:=h1 k x (by simpa using e);exact⟨v,by simpa using g1,g2⟩
  ·cases k with
  |zero=>simp at e
  |succ k=>obtain⟨v,g1,g2,g3,g4⟩:=h2 k x (by simpa using e);exact⟨v,by simpa using g1,g2,g3,λb hb=>g4 b (by simpa using hb)⟩
  ·cases k with
  |zero=>simp at e;subst e;exact⟨a,rfl,rfl,h,nd,rfl⟩
  |succ k =>
    obtain⟨v,g1,g2,g3,g4,g5⟩:=h3 k x (by simpa using e);cases g2
  ·cases e;exact⟨0,_,rfl,rfl,rfl⟩
theorem zj6{N:List Str}{k:Nat}{p:DSpT}
  (body:∀(f:Addr)(cdv:Value)(A:Around)(outer:List Env)(s:Shared)(H:Hp)(E:XK),Room k (A.deeper (envOfC qual (zh0 st) s.heap.objs.size f cdv))->∃t d,PSs (cxOf CX0 P w K mg base N qual (zh0 st) f cdv A outer s H E).nox (zu3 st) t/\RfS K t d/\∀as Qd a,p as Qd->d (zw41 as a Qd) (zse N a as)) :
  zuc P w K mg base qual st N k (spT K p):=by
 intro f cdv A outer s H vs Q E hr h;obtain⟨F,as,bf,oo,Qd,sf,ha,hd,hp,hq⟩:=h;obtain⟨t,d,h1,h2,h3⟩:=body f cdv A outer s H E hr;obtain⟨hl,fl,a1,a2,a3,a4,a5⟩:=zsf ha;obtain⟨a,haa⟩:∃a:Addr,∀a' fp,oo=some (a',fp)->a'=a:=by
  cases oo with
 |none=>exact⟨0,λa' fp e=>by cases e⟩
 |some x=>exact⟨x.1,λa' fp e=>by cases e;rfl⟩
 have slot:∀(i:Nat) sl,(zse N a as)[i]?=some sl->(sl=.un/\as.length<=i) \/ ∃g,as[i]?=some g/\sl=zr81 a g:=λi sl e=>by
  unfold zse at e;by_cases hi:i < as.length
  ·rw[xD (by simpa using hi),wD]at e;obtain⟨g,h1,h2⟩:=wX.mp e;exact .inr ⟨g,h1,h2.symm⟩
  ·rw[xC (by simpa using hi),xK]at e;split at e
   ·cases e;exact .inl ⟨rfl,by lia⟩
   ·cases e
 have val:∀(i:Nat) v,vs[i]?=some v->(_2.start N vs).getD i none=some v:=λi v e=>by
  have hi:i < vs.length:=by
   rcases xF i vs.length with z|z
   ·exact z
   ·rw[w8 z]at e;cases e
  unfold _2.start;rw[v7,xD (by simpa using hi),wD,e];rfl
 have rs:RS K ⟨F,H,ofp oo⟩ F H (_2.start N vs) (zse N a as) fl:=by
  refine⟨λb o _ z=>z,λ_ _ z=>z,sf,λb _ z=>z,λb z=>z,by simp[_2.start,zse,hl],λi x e=>?_,λi sl e hs=>?_,λi sl e ho b hb=>?_,λi j sl sl' hij e1 e2 o1 o2 b hb hb2=>?_⟩
  ·rcases slot i _ e with⟨z,_⟩|⟨g,e1,e2⟩
   ·cases z
   ·cases g with
   |d x'=>cases e2;obtain⟨v,g1,g2⟩:=a1 i x e1;exact⟨v,val i v g1,g2⟩
   |b _=>cases e2
   |o _=>cases e2
  ·rcases slot i _ e with⟨z,_⟩|⟨g,e1,e2⟩
   ·rw[z]at hs;cases hs
   ·cases g with
   |d x'=>rw[e2]at hs;cases hs
   |b x' =>
     obtain⟨v,g1,g2,g3,g4⟩:=a2 i x' e1;rw[e2];exact⟨v,x',val i v g1,rfl,g2,λa u z=>(by cases z),g3⟩
   |o x' =>
     obtain⟨a',g1,g2,g3,g4,g5⟩:=a3 i x' e1;have:=haa a' _ g2;subst this;rw[e2];exact⟨_,x',val i _ g1,rfl,g3,λa u z=>(by cases z;rfl),g4⟩
  ·rcases slot i _ e with⟨z,_⟩|⟨g,e1,e2⟩
   ·rw[z]at ho;cases ho
   ·cases g with
   |d x'=>rw[e2]at ho;cases ho
   |b x'=>rw[e2]at ho;cases ho
   |o x' =>
     obtain⟨a',g1,g2,g3,g4,g5⟩:=a3 i x' e1;refine .inr ⟨?_,λt z=>?_⟩
     ·show b∈ofp oo;rw[g2];exact hb
     ·rw[e2]at z;cases z
  ·rcases slot i _ e1 with⟨z,_⟩|⟨g,f1,f2⟩
   ·rw[z]at o1;cases o1
   ·cases g with
   |d x'=>rw[f2]at o1;cases o1
   |b x'=>rw[f2]at o1;cases o1
   |o x' =>
     obtain⟨a',g1,g2,g3,g4,g5⟩:=a3 i x' f1;rcases slot j _ e2 with⟨z,_⟩|⟨g',f1',f2'⟩
     ·rw[z]at o2;cases o2
     ·cases g' with
     |d x''=>rw[f2']at o2;cases o2
     |b x'' =>
       obtain⟨v,k1,k2,k3,k4⟩:=a2 j x'' f1';exact hd b (by rw[g2];exact hb) (k4 b hb2)
     |o x'' =>
       obtain⟨a'',k1,k2,k3,k4,k5⟩:=a3 j x'' f1';rw[g5]at k5;exact hij (wV.inj k5)
 have fin:∀{F' H':Hp}{Y':_2.St}{U':DSt}{fps':Nat->List Addr}{v:V}{r:T}{fpr:List Addr},Res K ⟨F,H,ofp oo⟩ F' H' Y' U' fps' v r fpr->exA as a Qd r U'->Q v H':=λ{F' H' Y' U' fps' v r fpr} res ex=>by
  unfold exA at ex;split at ex
  ·rename_i eo
   refine hq r (.fz .none) ex v F' H' fpr [] ⟨res.rs.hh,res.rs.ff,res.rs.fh,res.rs.nw,res.rs.al,res.rt,res.nd,res.fr,λa' fp e=>?_⟩;obtain⟨k,x,g1,g2,g3⟩:=a5 a' fp e;rw[eo]at g3;cases g3
  ·rename_i ko eo
   obtain⟨t',et,qd⟩:=ex;obtain⟨x',t'',b1,b2,b3,b4,b5⟩:=res.rs.rt ko _ et rfl;cases b2;have:=b4 a t' rfl;subst this;refine hq r t' qd v F' H' fpr (fps' ko) ⟨res.rs.hh,res.rs.ff,res.rs.fh,res.rs.nw,res.rs.al,res.rt,res.nd,res.fr,λa' fp e=>?_⟩;have ea:=haa a' fp e;subst ea;refine⟨b3,b5,λb hb=>?_,λb hb=>res.dj ko _ et rfl b hb⟩;rcases res.rs.fr ko _ et rfl b hb with z|⟨z,_⟩
   ·exact .inr z
   ·have:b∈ofp oo:=z;rw[e]at this;exact .inl this
 refine⟨t,h1,h2 rs (h3 as Qd a hp) ⟨λr q=>fin ⟨r,.fz .non,.nil,λa ha=>by simp at ha,λ_ _ _ _ a _ ha=>by simp at ha⟩ q,λ_ z=>z.elim,λ_ z=>z.elim,λres q=>fin res q⟩⟩
theorem zdo{F H:Hp}{as:List Arg}{bf:List Addr}{oo:Option (Addr×List Addr)}(h:ArgsR K F H vs as bf oo):vs.length=as.length:=(zsf h).1
theorem zof{p:DSpT}(h:∀as Qd,p as Qd->as.length=ps.length):∀vs H Q E,spT K p vs H Q E->vs.length=ps.length:=λvs H Q E z=>by
 obtain⟨F,as,bf,oo,Qd,_,ha,_,hp,_⟩:=z;rw[zdo ha];exact h as Qd hp
noncomputable def zph(N:List Str)(ds:List D):DSt:=ds.map Sl.sh++v9 (N.length - ds.length) .un
noncomputable def rD(Qd:D->Prop)(r:T)(_:DSt):Prop:=match r with
|.fz d=>Qd d
|.li ds=>Qd (.list ds)
|.ls ts=>∃d,toD (.ls ts)=some d/\Qd d
|_=>False
theorem zm31{Qd:D->Prop}{r:T}(h:rD Qd r U):∃d,toD r=some d/\Qd d:=by
 cases r with
|fz d=>exact⟨d,rfl,h⟩
|li ds=>exact⟨_,rfl,h⟩
|ls ts=>exact h
|ob _ _=>exact h.elim
|dk _=>exact h.elim
|dt _=>exact h.elim
|tp _=>exact h.elim
theorem zkp{F H:Hp}{N:List Str}{ds:List D}(s:Same F H)(h:IsAll K F vs ds):RS K ⟨F,H,[]⟩ F H (_2.start N vs) (zph N ds) (λ_=>[]):=by
 have el:=h.dlen;have no:∀(i:Nat) sl,(zph N ds)[i]?=some sl->sl.has=true->False:=λi sl e hs=>by
  unfold zph at e;by_cases hi:i < ds.length
  ·rw[xD (by simpa using hi),wD]at e;obtain⟨x,_,z⟩:=wX.mp e;subst z;cases hs
  ·rw[xC (by simpa using hi),xK]at e;split at e
   ·cases e;cases hs
   ·cases e
 refine⟨λb o _ z=>z,λ_ _ z=>z,s,λb _ z=>z,λb z=>z,by simp[_2.start,zph,el],λi x e=>?_,λi sl e hs=>(no i sl e hs).elim,λi sl e ho=>(no i sl e (zda ho)).elim,λi j sl sl' _ e _ o _=>(no i sl e (zda o)).elim⟩;unfold zph at e;unfold _2.start;by_cases hi:i < ds.length
 ·rw[xD (by simpa using hi),wD]at e;obtain⟨y,hx,z⟩:=wX.mp e;cases z;obtain⟨v,hv,iv⟩:=h.dget hx;refine⟨v,?_,iv⟩;rw[v7,xD (by simp;lia),wD,hv];rfl
 ·rw[xC (by simpa using hi),xK]at e;split at e <;> cases e
theorem zpd1{F0 H0 F H:Hp}{v:V}{r:T}{d:D}(res:Res K ⟨F0,H0,[]⟩ F H Y U fps v r fpr)(e:toD r=some d):∃F',Ext F0 H0 F' H/\Is K F' v d:=by
 obtain⟨F2,s1,s2,s3,s4⟩:=zb71 res.rs.fh res.rt e res.nd;refine⟨F2,⟨λb o z=>res.rs.hh b o (by simp) z,res.rs.ff.trans s1,s2,λb hb fb=>?_⟩,s4⟩;have:b ∉ fpr:=λz=>hb (res.fr b z);rw[s3 b this];exact res.rs.nw b hb fb
theorem zqf{N:List Str}{k:Nat}{p:DSp}
  (body:∀(f:Addr)(cdv:Value)(A:Around)(outer:List Env)(s:Shared)(H:Hp)(E:XK),Room k (A.deeper (envOfC qual (zh0 st) s.heap.objs.size f cdv))->∃t d,PSs (cxOf CX0 P w K mg base N qual (zh0 st) f cdv A outer s H E).nox (zu3 st) t/\RfS K t d/\∀ds Qd,p ds Qd->d { nx:=λ_=>Qd .none,rt:=rD Qd } (zph N ds)) :
  zuc P w K mg base qual st N k (spD K p):=by
 intro f cdv A outer s H vs Q E hr h;obtain⟨F,ds,Qd,sf,i,hp,hq⟩:=h;obtain⟨t,d,h1,h2,h3⟩:=body f cdv A outer s H E hr;refine⟨t,h1,h2 (zkp sf i) (h3 ds Qd hp) ⟨λr q=>hq _ q _ _ _ ⟨λb o z=>r.hh b o (by simp) z,r.ff,r.fh,r.nw⟩ .non,λ_ z=>z.elim,λ_ z=>z.elim,λres q=>?_⟩⟩;obtain⟨d',e1,e2⟩:=zm31 (U:=[]) q;obtain⟨F',ex,is⟩:=zpd1 res e1;exact hq _ e2 _ _ _ ex is
theorem zh71{F:Hp}{ds:List D}(h:IsAll K F vs ds):vs.length=ds.length:=h.dlen
theorem zft{p:DSp}(h:∀ds Qd,p ds Qd->ds.length=ps.length):∀vs H Q E,spD K p vs H Q E->vs.length=ps.length:=λvs H Q E z=>by
 obtain⟨F,ds,Qd,_,i,hp,_⟩:=z;rw[zh71 i];exact h ds Qd hp
theorem zmw{F:Hp}:∀ns:List Int,IsAll K F (ns.map V.int) (ns.map wK)
|[]=>.nil
|n :: r=>.cons (.int n) (zmw r)
theorem zvf1{N:List Str}{k:Nat}{fa:Addr}(M:Md K mg)(T:TopDef K "law" st)(hfa:mg "law"=some (.ref fa))(S:FnScope N ["script"] (zh0 st))(hb:zla "law" "law" st ["script"])
  (body:∀base:Heap,K.In base->base.Ns mainGlobals mg->∀(f:Addr)(cdv:Value)(A:Around)(outer:List Env)(s:Shared)(H:Hp)(E:XK),Room k (A.deeper (envOfC "law" (zh0 st) s.heap.objs.size f cdv)) ->
   ∃t d,PSs (cxOf CX0 P w K mg base N "law" (zh0 st) f cdv A outer s H E).nox (zu3 st) t/\RfS K t d/\∀(ns:List Int)(Qd:D->Prop),ns.length<=63->Qd (.bool true)->d { nx:=λ_=>Qd .none,rt:=rD Qd } (zph N [.list (ns.map .int)])) :
  ∃fd:FuncData,(∀(s:Shared)(v:Value),BindsTo s fd ⟨[v],[]⟩ [("script",v)])/\∀base:Heap,K.In base->base.Ns mainGlobals mg->FnOk P w K mg base CX0 (k+1) fa fd ["script"] (zz81 K):=by
 refine zed1 M T hfa S hb (λvs H Q E h=>by obtain⟨a,ns,rfl,_⟩:=h;rfl) λbase kb nb=>?_;intro f cdv A outer s H vs Q E hr h;obtain⟨a,ns,rfl,hS,hl,hq⟩:=h;obtain⟨t,d,h1,h2,h3⟩:=body base kb nb f cdv A outer s H E hr;refine⟨t,h1,h2 (zkp (F:=H) (λ_ _ z=>z) (.cons (.lst hS (zmw ns)) .nil)) (h3 ns (λd=>d=.bool true) hl rfl) ⟨λr q=>(by cases q),λ_ z=>z.elim,λ_ z=>z.elim,λres q=>?_⟩⟩;obtain⟨d',e1,e2⟩:=zm31 (U:=[]) q;obtain⟨F',ex,is⟩:=zpd1 res e1;subst e2;cases is;exact hq _
end
variable {E:DEnds}{U:DSt}{a b:DS}{de:DE}{dg:DG}{i:Int}{ix:List Nat}{n:Nat}
section
variable {K:Fg}{tA:TA}{dA:DF}
noncomputable def zj31:List D->(D->Prop)->Prop
|[.int i,.int j],Q=>Q (.int (if j < i then j else i))
|_,_=>False
theorem zec1:CB K (λxs H Q=>∃i j,xs=[V.int i,V.int j]/\Q (V.int (if j < i then j else i)) H) zj31:=by
 intro F H vs ds Qd Q s hv h k;unfold zj31 at h;split at h
 ·obtain⟨v,u,rfl,h1,h2⟩:=vw2 hv;cases h1.int;cases h2.int;exact⟨_,_,rfl,k _ h _ F H (Ext.refl s) (.int _)⟩
 ·exact h.elim
end
theorem e_dF(df:DF)(U:DSt)(Q:D->Prop):dF df U Q=( df U λds=>Q (.list ds)):=rfl
theorem e_dC(d:D)(x_0:DSt)(Q:D->Prop):dC d x_0 Q=( Q d):=rfl
theorem zlc1(f:D->D->(D->Prop)->Prop)(da db:DE)(U:DSt)(Q:D->Prop):dOp f da db U Q=( da U λx=>db U λy=>f x y Q):=rfl
theorem zzz(f:D->D->(List D->Prop)->Prop)(da db:DE)(U:DSt)(Q:List D->Prop):dOpF f da db U Q=( da U λx=>db U λy=>f x y Q):=rfl
theorem ziz(df:DF)(db:DE)(U:DSt)(Q:List D->Prop):dRep df db U Q=( df U λds=>db U λy=>fRep ds y Q):=rfl
theorem zgb1(f:D->(D->Prop)->Prop)(da:DE)(U:DSt)(Q:D->Prop):dUn f da U Q=( da U λx=>f x Q):=rfl
theorem zsq(da:DE)(U:DSt)(Q:D->Prop):zx91 da U Q=( da U λx=>fB x λb=>Q (.bool (!b))):=rfl
theorem zbs(da db:DE)(U:DSt)(Q:D->Prop):zkf1 da db U Q=( da U λx=>fB x λb=>if b=true then db U Q else Q (.bool false)):=rfl
theorem zar(de:DE)(U:DSt)(Q:Bool->Prop):zuz de U Q=( de U λd=>fB d Q):=rfl
theorem zky(de:DE)(U:DSt)(Q:Bool->Prop):dTru de U Q=( de U λd=>fTru d Q):=rfl
theorem zly(dt du:DT)(U:DSt)(Q:Bool->Prop):dAnd dt du U Q=( dt U λb=>if b=true then du U Q else Q false):=rfl
theorem zbc1(dt du:DT)(U:DSt)(Q:Bool->Prop):dOr dt du U Q=( dt U λb=>if b=true then Q true else du U Q):=rfl
theorem zzx(dt:DT)(U:DSt)(Q:Bool->Prop):dNot dt U Q=( dt U λb=>Q (!b)):=rfl
theorem zm11(dt:DT)(da db:DE)(U:DSt)(Q:D->Prop):dIfE dt da db U Q=( dt U λb=>if b=true then da U Q else db U Q):=rfl
theorem zzj(f g:D->D->(D->Prop)->Prop)(da db dc:DE)(U:DSt)(Q:D->Prop):zxy f g da db dc U Q=( da U λx=>db U λy=>f x y λu=>fB u λb=>if b=true then dc U λz=>g y z Q else Q (.bool false)):=rfl
theorem zvy(x_0:DSt)(Q:List D->Prop):dNil x_0 Q=( Q []):=rfl
theorem zqq(da:DE)(dr:DF)(U:DSt)(Q:List D->Prop):zic da dr U Q=( da U λx=>dr U λxs=>Q (x :: xs)):=rfl
theorem zlx(dA:DF)(U:DSt)(Q:D->Prop):dTup dA U Q=( dA U λxs=>xs.length<=sizeLine/\Q (.tuple xs)):=rfl
theorem zey(dA:DF)(U:DSt)(Q:List D->Prop):dLst dA U Q=( dA U λxs=>xs.length<=sizeLine/\Q xs):=rfl
theorem zzs(p:DSp)(dA:DF)(U:DSt)(Q:D->Prop):zrd1 p dA U Q=( dA U λds=>p ds Q):=rfl
theorem zck(p:DSp)(dA:DF)(U:DSt)(Q:D->Prop):zk71 p dA U Q=( dA U λds=>p ds λd=>zhu d=true/\Q d):=rfl
theorem zwb1(f:List D->(D->Prop)->Prop)(dA:DF)(U:DSt)(Q:D->Prop):dCB f dA U Q=( dA U λds=>f ds Q):=rfl
theorem zta1(f:List D->(List D->Prop)->Prop)(dA:DF)(U:DSt)(Q:List D->Prop):dCF f dA U Q=( dA U λds=>f ds Q):=rfl
theorem zia1(T:String)(da:DE)(U:DSt)(Q:D->Prop):dIs T da U Q=( da U λd=>(∀kvs,d≠.dict kvs)/\Q (.bool (isT T d))):=rfl
theorem zbh(x_0:DSt)(Q:Option Int->Prop):zxw x_0 Q=( Q none):=rfl
theorem zws(de:DE)(U:DSt)(Q:Option Int->Prop):zze1 de U Q=( de U λd=>match d with
|.int i=>Q (some i)
|_=>False):=rfl
theorem zya1(de:DE)(dl dh:DO)(U:DSt)(Q:D->Prop):dSl de dl dh U Q=( de U λd=>dl U λlo=>dh U λhi=>fSl d lo hi Q):=rfl
theorem zqz(de:DE)(dl dh dk:DO)(U:DSt)(Q:List D->Prop):dSl3 de dl dh dk U Q=( de U λd=>dl U λlo=>dh U λhi=>dk U λst=>match d with
|.list ds=>st≠some 0/\Q (zam ds lo hi st)
|_=>False):=rfl
theorem zqc1(de:DE)(U:DSt)(Q:List D->Prop):dIt de U Q=( de U λd=>zf11 d Q):=rfl
theorem zop(dA:DF)(U:DSt)(Q:List D->Prop):zde1 dA U Q=( dA U λds=>match ds with
|[.int j]=>-(2 ^ 62)<=j/\j < 2 ^ 62/\Q (rngD 0 j.toNat)
|_=>False):=rfl
theorem zcz(dA:DF)(U:DSt)(Q:List D->Prop):dZip dA U Q=( dA U λds=>fZip ds Q):=rfl
theorem zyo(dA:DF)(U:DSt)(Q:List D->Prop):zt81 dA U Q=( dA U λds=>match ds with
|[.list a]=>Q (zqt a)
|_=>False):=rfl
theorem e_gN(i:Nat)(d:D)(U:DSt)(G:DSt->Prop):gN i d U G=( G (U.set i (.sh d))):=rfl
theorem znp(ds:List D)(U:DSt)(G:DSt->Prop):zw81 ds U G=( match ds with
|[]=>G U
|_=>False):=rfl
theorem zrl(g:DG)(gs:DGs)(ds:List D)(U:DSt)(G:DSt->Prop):zeo g gs ds U G=( match ds with
|d :: r=>g d U λU'=>gs r U' G
|[]=>False):=rfl
theorem e_gT(n:Nat)(gs:DGs)(d:D)(U:DSt)(G:DSt->Prop):gT n gs d U G=( match d with
|.tuple ds=>ds.length=n/\gs ds U G
|_=>False):=rfl
theorem zyq(x_0:DSt)(Q:Bool->Prop):zu51 x_0 Q=( Q true):=rfl
theorem zc21(C:Addr)(f:Str)(dp:DP)(U:DSt)(Q:Nat->Pth->T->Prop):pFld C f dp U Q=( dp U λi p u=>nCls C u/\nFld f u λt=>Q i (p++[.fl f]) t):=rfl
theorem zad1(dp:DP)(di:DE)(U:DSt)(Q:Nat->Pth->T->Prop):pIx dp di U Q=( dp U λi p u=>di U λk=>nIx u k λj t=>Q i (p++[.ix j]) t):=rfl
theorem zwc1(dp:DP)(U:DSt)(Q:D->Prop):dPV dp U Q=( dp U λ_ _ u=>vwT u Q):=rfl
theorem zqa1(dp:DP)(U:DSt)(Q:D->Prop):dPE dp U Q=( dp U λ_ _ u=>fzT u Q):=rfl
theorem e_cE(de:DE)(U:DSt)(Q:T->DSt->Prop):cE de U Q=( de U λd=>Q (.fz d) U):=rfl
theorem e_cF(df:DF)(U:DSt)(Q:T->DSt->Prop):cF df U Q=( df U λds=>Q (.li ds) U):=rfl
theorem zoo(E:DEnds)(U:DSt):ztz E U=( E.nx U):=rfl
theorem ztx(de:DE)(dg:DG)(E:DEnds)(U:DSt):dAsg de dg E U=( de U λd=>dg d U E.nx):=rfl
theorem zgy(i:Nat)(dc:DC)(E:DEnds)(U:DSt):dSet i dc E U=( dc U λr U'=>E.nx (U'.set i (slot r))):=rfl
theorem zmq(dc:DC)(E:DEnds)(U:DSt):zmd1 dc E U=( dc U λ_ U'=>E.nx U'):=rfl
theorem zwx(dc:DC)(E:DEnds)(U:DSt):dRet dc E U=( dc U E.rt):=rfl
theorem zvp(E:DEnds)(U:DSt):zxe1 E U=( E.ct U):=rfl
theorem zrs(x_0:DEnds)(x_1:DSt):zte1 x_0 x_1=( False):=rfl
theorem zj91(dt:DT)(d e:DS)(E:DEnds)(U:DSt):dIf dt d e E U=( dt U λb=>if b=true then d E U else e E U):=rfl
theorem zbd1(ty:String)(f:FM)(dp:DP)(dA:DF)(U:DSt)(Q:T->DSt->Prop):cBM ty f dp dA U Q=( dp U λi p u=>tyN ty u/\dA U λds=>f u ds λu2 d=>mutS U i p u2 λU'=>Q (.fz d) U'):=rfl
theorem zo01(ty:String)(f:FM)(dp:DP)(U:DSt)(Q:T->DSt->Prop):cBM0 ty f dp U Q=( dp U λi p u=>tyN ty u/\f u [] λu2 d=>mutS U i p u2 λU'=>Q (.fz d) U'):=rfl
theorem zsx(dp:DP)(dk de:DE)(E:DEnds)(U:DSt):dPut dp dk de E U=( de U λd=>dp U λi p u=>dk U λk=>fPut u k d λu2=>mutS U i p u2 E.nx):=rfl
theorem zgp(f:Int->Int->Int)(dp:DP)(dk de:DE)(E:DEnds)(U:DSt):zd91 f dp dk de E U=( dp U λi p u=>dk U λk=>fGet u k λx=>de U λy=>fII f x y λz=>fPut u k z λu2=>mutS U i p u2 E.nx):=rfl
theorem zvc1(U:DSt)(Q:T->DSt->Prop):cDT U Q=( Q (.dt []) U):=rfl
theorem e_nF(df:DF)(U:DSt)(Q:T->Prop):nF df U Q=( df U λds=>Q (.li ds)):=rfl
theorem e_cN(dn:DN)(U:DSt)(Q:T->DSt->Prop):cN dn U Q=( dn U λr=>Q r U):=rfl
theorem zdz(C:Addr)(f:Str)(dc:DC)(dp:DP)(E:DEnds)(U:DSt):dFld C f dc dp E U=( dc U λr U1=>dp U1 λi p u=>nCls C u/\nSet f u r λu2=>mutS U1 i p u2 E.nx):=rfl
theorem zfh(C:Addr)(f:Str)(fn:Int->Int->Int)(dp:DP)(de:DE)(E:DEnds)(U:DSt):zns C f fn dp de E U=( dp U λi p u=>nCls C u/\nFld f u λt=>fzT t λx=>de U λy=>nFII f fn x u y λu2=>mutS U i p u2 E.nx):=rfl
theorem zx11(i:Nat)(p:Pth)(d:DS)(E:DEnds)(U:DSt):dFrz i p d E U=( fzS U i p λU'=>d E U'):=rfl
theorem za01(x_0:DSt)(Q:List ArgP->Prop):aNil x_0 Q=( Q []):=rfl
theorem e_aD(de:DE)(dr:DAT)(U:DSt)(Q:List ArgP->Prop):aD de dr U Q=( de U λx=>dr U λas=>Q (.d x :: as)):=rfl
theorem e_aB(dp:DP)(dr:DAT)(U:DSt)(Q:List ArgP->Prop):aB dp dr U Q=( dp U λi p t=>dr U λas=>Q (.b i p t :: as)):=rfl
theorem e_aO(dp:DP)(dr:DAT)(U:DSt)(Q:List ArgP->Prop):aO dp dr U Q=( dp U λi p t=>dr U λas=>Q (.o i p t :: as)):=rfl
theorem zbt(p:DSpT)(da:DAT)(U:DSt)(Q:T->DSt->Prop):zve1 p da U Q=( da U λas=>zjy p U as Q):=rfl
theorem zks(o:Bool)(C:Addr)(m:Str)(p:DSpT)(dp:DP)(da:DAT)(U:DSt)(Q:T->DSt->Prop):zfe1 o C m p dp da U Q=( dp U λi q u=>nCls C u/\noM m u/\da U λas=>zjy p U ((if o then .o i q u else .b i q u) :: as) Q):=rfl
theorem zzp(p:DSpT)(da:DAT)(U:DSt)(Q:T->Prop):zod1 p da U Q=( da U λas=>zj21 p as Q):=rfl
theorem zto(C:Addr)(m:Str)(p:DSpT)(dp:DP)(da:DAT)(U:DSt)(Q:T->Prop):zqb1 C m p dp da U Q=( dp U λi q u=>nCls C u/\noM m u/\da U λas=>zj21 p (.b i q u :: as) Q):=rfl
theorem e_eN(dn:DN)(U:DSt)(Q:D->Prop):eN dn U Q=( dn U λr=>fzT r Q):=rfl
theorem zpp(C:Addr)(p:DSpT)(da:DAT)(U:DSt)(Q:T->Prop):znd1 C p da U Q=( da U λas=>noO as/\p (.o (.ob C []) :: as.map ArgP.arg) λr t2=>(match r with|.fz .none=>True|_=>False)/\Q t2):=rfl
theorem zvz(i:Nat)(U:DSt)(Q:D->Prop):dVar i U Q=pAt U i λt=>fzT t Q:=rfl
theorem zwp(i:Nat)(U:DSt)(Q:D->Prop):zsg i U Q=pAt U i λt=>vwT t Q:=rfl
theorem zy01(i:Nat)(U:DSt)(Q:Nat->Pth->T->Prop):pVar i U Q=pAt U i λt=>Q i [] t:=rfl
theorem zz11(s:Sl)(U:DSt)(N:T->Prop):pAt (s :: U) 0 N=slT s N:=rfl
theorem zv11(i:Nat)(s:Sl)(U:DSt)(N:T->Prop):pAt (s :: U) (i+1) N=pAt U i N:=rfl
theorem zr11(U:DSt)(i:Nat)(p:Pth)(u:T)(N:DSt->Prop):mutS U i p u N=(match U[i]? with
|some (.ow t)=>N (U.set i (.ow (setP t p u)))
|some (.io a t)=>N (U.set i (.io a (setP t p u)))
|_=>False):=rfl
theorem zeb1(U:DSt)(i:Nat)(p:Pth)(N:DSt->Prop):fzS U i p N=(match U[i]? with
|some (.ow t)=>∃u d,getP t p=some u/\toD u=some d/\N (U.set i (slot (setP t p (.fz d))))
|some (.sh _)=>N U
|_=>False):=rfl
theorem zfr(U:DSt)(i:Nat):zkx U i=(match U[i]? with
|some (.ow _)=>True
|some (.io _ _)=>True
|_=>False):=rfl
theorem zrv(t u:T):setP t [] u=u:=by cases t <;> rfl
theorem zd41(ds:List D):tyN "list" (.li ds)=True:=by simp[tyN]
theorem zz41(ds:List T):tyN "list" (.ls ds)=True:=by simp[tyN]
theorem zk51(ds:List (Key×D)):tyN "dict" (.dk ds)=True:=by simp[tyN]
theorem zh61(ds:List (List Key×D)):tyN "dict" (.dt ds)=True:=by simp[tyN]
theorem zab1(Qd:D->Prop)(d:D)(U:DSt):rD Qd (.fz d) U=Qd d:=rfl
theorem zja1(Qd:D->Prop)(d:List D)(U:DSt):rD Qd (.li d) U=Qd (.list d):=rfl
theorem zpc1(Qd:D->Prop)(d:List T)(U:DSt):rD Qd (.ls d) U=∃e,toD (.ls d)=some e/\Qd e:=rfl
theorem zqp(p:DSpT)(U:DSt)(as:List ArgP)(Q:T->DSt->Prop):zjy p U as Q=(match zht as with
|some (i,q,t)=>zkx U i/\oneO i as/\zdw t/\p (as.map ArgP.arg) λr t2=>mutS U i q t2 λU'=>Q r U'
|none=>noO as/\p (as.map ArgP.arg) λr _=>Q r U):=rfl
theorem zmo(p:DSpT)(as:List ArgP)(Q:T->Prop):zj21 p as Q=(noO as/\p (as.map ArgP.arg) λr _=>Q r):=rfl
noncomputable def zf41(items:List D)(n:Nat)(ix:List Nat)(dg:DG)(dn:DN)(U:DSt)(Q:T->Prop):Prop:=items.length<=sizeLine/\∃R:Nat->T->Prop,
 (∀i d,items[i]?=some d->dg d (cST n ix U) λU'=>dn U' λr=>R i r)/\∀rs:List T,rs.length=items.length->(∀(j:Nat) r,rs[j]?=some r->R j r)->Q (.ls rs)
theorem zuq(di:DF)(n:Nat)(ix:List Nat)(dg:DG)(dn:DN)(U:DSt)(Q:T->Prop):zce1 di n ix dg dn U Q=di U λitems=>zf41 items n ix dg dn U Q:=rfl
theorem zka1{α:Type}{xs:List α}{enc:α->D}(f:α->T){dn:DN}{Q:T->Prop}(hz:xs.length<=sizeLine)
  (h:∀x∈xs,dg (enc x) (cST n ix U) λU'=>dn U' λr=>r=f x) (q:Q (.ls (xs.map f))):zf41 (xs.map enc) n ix dg dn U Q:=by
 refine⟨by rw[u4];exact hz,λi r=>∀x,xs[i]?=some x->r=f x,λi d e=>?_,λrs hl hR=>?_⟩
 ·rw[wD]at e;obtain⟨x,hx,rfl⟩:=wX.mp e;have e1:(λr=>∀y,xs[i]?=some y->r=f y)=λr=>r=f x:=by funext r;rw[hx];simp
  show dg (enc x) (cST n ix U) λU'=>dn U' λr=>∀y,xs[i]?=some y->r=f y;rw[e1];exact h x (wT hx)
 ·rw[u4]at hl;have:rs=xs.map f:=by
   apply zG;intro i;rw[wD];by_cases hi:i < rs.length
   ·have e1:rs[i]?=some rs[i]:=u8 hi;have e2:xs[i]?=some (xs[i]'(by lia)):=u8 _;rw[e1,e2,hR i _ e1 _ e2];rfl
   ·rw[w8 (by lia),w8 (by lia)];rfl
  rw[this];exact q
noncomputable def zj51(items:List D)(n:Nat)(ix:List Nat)(dg:DG)(dt:DT)(de:DE)(U:DSt)(Q:List D->Prop):Prop:=items.length<=sizeLine/\∃R:Nat->Option D->Prop,
 (∀i d,items[i]?=some d->dg d (cST n ix U) λU'=>dt U' λb=>if b=true then de U' λr=>R i (some r)else R i none) /\
 ∀os:List (Option D),os.length=items.length->(∀(j:Nat) o,os[j]?=some o->R j o)->Q (os.filterMap id)
theorem zny(di:DF)(n:Nat)(ix:List Nat)(dg:DG)(dt:DT)(de:DE)(U:DSt)(Q:List D->Prop):zcf1 di n ix dg dt de U Q=di U λitems=>zj51 items n ix dg dt de U Q:=rfl
noncomputable def ForB(items:List D)(dg:DG)(db:DS)(E:DEnds)(U:DSt):Prop:=∃W:Nat->DSt->Prop,W 0 U /\
 (∀i d U',items[i]?=some d->W i U'->dg d U' λU2=>db { E with nx:=W (i+1),ct:=W (i+1),bk:=E.nx } U2)/\∀U',W items.length U'->E.nx U'
theorem zzc1(di:DF)(dg:DG)(db:DS)(E:DEnds)(U:DSt):dFor di dg db E U=di U λitems=>ForB items dg db E U:=rfl
theorem zr1{b:DS}{U:DSt}(J:DSt->Prop)(h:a { E with nx:=J } U)(hj:∀U',J U'->b E U'):dSeq a b E U:=⟨J,h,hj⟩
theorem zf0{U:DSt}(h:∀J:DSt->Prop,(∀U',b E U'->J U')->a { E with nx:=J } U):dSeq a b E U:=⟨b E,h (b E) λ_ z=>z,λ_ z=>z⟩
theorem zre1{α:Type}{f:α->Option D}:∀{xs:List α}{os:List (Option D)},os.length=xs.length->(∀(j:Nat) o x,os[j]?=some o->xs[j]?=some x->o=f x)->os.filterMap id=xs.filterMap f
|[],[],_,_=>rfl
|x :: xs,o :: os,hl,h=>by
  have e:o=f x:=h 0 o x rfl rfl;have ih:=zre1 (f:=f) (xs:=xs) (os:=os) (by simpa using hl) λj o' x' h1 h2=>h (j+1) o' x' (by simpa using h1) (by simpa using h2);rw[xT,xT,e,ih];rfl
theorem za31{α:Type}{xs:List α}{enc:α->D}(f:α->Option D){dt:DT}{Q:List D->Prop}(hz:xs.length<=sizeLine)
  (h:∀x∈xs,dg (enc x) (cST n ix U) λU'=>dt U' λb=>if b=true then de U' λr=>some r=f x else none=f x) (q:Q (xs.filterMap f)):zj51 (xs.map enc) n ix dg dt de U Q:=by
 refine⟨by rw[u4];exact hz,λi o=>∀x,xs[i]?=some x->o=f x,λi d e=>?_,λos hl hR=>?_⟩
 ·rw[wD]at e;obtain⟨x,hx,rfl⟩:=wX.mp e;have:=h x (wT hx);have e1:(λr=>∀y,xs[i]?=some y->some r=f y)=λr=>some r=f x:=by
   funext r;rw[hx];simp
  have e2:(∀y,xs[i]?=some y->(none:Option D)=f y)=(none=f x):=by rw[hx];simp
  show dg (enc x) (cST n ix U) λU'=>dt U' λb=>if b=true then de U' λr=>∀y,xs[i]?=some y->some r=f y else ∀y,xs[i]?=some y->(none:Option D)=f y
  rw[e1,e2];exact this
 ·rw[u4]at hl;rw[zre1 hl λj o x h1 h2=>hR j o h1 x h2];exact q
theorem zq11{α:Type}{xs:List α}{enc:α->D}(g:α->D){Q:List D->Prop}(hz:xs.length<=sizeLine)
  (h:∀x∈xs,dg (enc x) (cST n ix U) λU'=>de U' λr=>r=g x) (q:Q (xs.map g)):zj51 (xs.map enc) n ix dg zu51 de U Q:=by
 refine za31 (λx=>some (g x)) hz (λx hx=>?_) ?_
 ·have:=h x hx;have e:(λr=>some r=some (g x))=λr=>r=g x:=by funext r;simp
  show dg (enc x) (cST n ix U) λU'=>if true=true then de U' λr=>some r=some (g x)else none=some (g x)
  rw[e];simp only[if_true];exact this
 ·rw[show xs.filterMap (λx=>some (g x))=xs.map g from congrFun List.filterMap_eq_map' xs];exact q
theorem zkb{α:Type}{xs:List α}{enc:α->D}(W:Nat->DSt->Prop){db:DS}(h0:W 0 U)
  (hs:∀(i:Nat) x U',xs[i]?=some x->W i U'->dg (enc x) U' λU2=>db { E with nx:=W (i+1),ct:=W (i+1),bk:=E.nx } U2) (he:∀U',W xs.length U'->E.nx U'):ForB (xs.map enc) dg db E U:=by
 refine⟨W,h0,λi d U' e w=>?_,λU' w=>he U' (by rw[u4]at w;exact w)⟩;rw[wD]at e;obtain⟨x,hx,rfl⟩:=wX.mp e;exact hs i x U' hx w
theorem two{c:Prop}[Decidable c]{A B:Prop}(h1:c->A)(h2:¬c->B):if c then A else B:=by
 by_cases h:c
 ·rw[if_pos h];exact h1 h
 ·rw[if_neg h];exact h2 h
noncomputable def cutG{α:Type}(xs:List α)(lo hi:Option Int):List α:=(xs.drop (HT.sIx xs.length 0 lo)).take (HT.sIx xs.length xs.length hi - HT.sIx xs.length 0 lo)
theorem zm01{α:Type}(f:α->D)(xs:List α)(lo hi:Option Int):cutD (xs.map f) lo hi=(cutG xs lo hi).map f:=by
 unfold cutD cutG;rw[u4,List.map_take,List.map_drop]
theorem zko{α β:Type}(f:α->D)(g:β->D)(xs:List α)(ys:List β):zipD (xs.map f) (ys.map g)=(xs.zip ys).map λp=>.tuple [f p.1,g p.2]:=by
 unfold zipD;rw[List.zipWith_map,List.zip_eq_zipWith,List.map_zipWith]
theorem zym{α:Type}(f:α->D)(xs:List α):zqt (xs.map f)=(xs.mapIdx λi x=>(i,x)).map λp=>.tuple [.int (p.1:Nat),f p.2]:=by
 unfold zqt;apply zG;intro i;rw[zE,wD,wD,zE];cases xs[i]? <;> rfl
theorem zjf{α:Type}{xs:List α}{x:α}(h0:0<=i)(h:xs[i.toNat]?=some x):atI xs i=some x:=by
 have e:((i.toNat:Nat):Int)=i:=by lia
 have:=zi41 (xs:=xs) (j:=i.toNat) (v:=x) h
 rwa [e]at this
theorem zdg1{α:Type}{xs:List α}(h0:0<=i)(h1:i < (xs.length:Int)):∃x,xs[i.toNat]?=some x/\atI xs i=some x:=by
 have h:i.toNat < xs.length:=by lia
 exact⟨xs[i.toNat],u8 h,zjf h0 (u8 h)⟩
section
variable (K:Fg)
noncomputable def RfH(te:TE)(de:DE):Prop:=∀{F H:Hp}{Y:_2.St}{U:DSt}{Qd:D->Prop}{Q:VK},Same F H->RV K F H Y U->de U Qd->(∀d,Qd d->∀v F' H',Ext F H F' H'->Is K H' v d->Q v H')->te Y H Q
noncomputable def RfAH(ta:TA)(da:DF):Prop:=∀{F H:Hp}{Y:_2.St}{U:DSt}{Qd:List D->Prop}{Q:List V->Hp->Prop},Same F H->RV K F H Y U->da U Qd->(∀ds,Qd ds->∀vs F' H',Ext F H F' H'->IsAll K H' vs ds->Q vs H')->ta Y H Q
end
section
variable {K:Fg}{te ta tb:TE}{de da db:DE}{tA:TA}{dA:DF}
theorem RfV.h(h:RfV K te de):RfH K te de:=λs r d k=>h s r d λx q v F' H' e i=>k x q v F' H' e (i.is e.fh)
theorem zxn:RfAH K tNil dNil:=λs rv h k=>k _ h _ _ _ (Ext.refl s) .nil
theorem zaz{F H:Hp}{p:Addr}{o:HO}(s:Same F H)(hn:H p=none):Ext F H F (upd H p o) :=
 ⟨zy2 hn _,λ_ _ z=>z,λb o z=>zy2 hn _ b o (s b o z),λ_ _ z=>z⟩
theorem zwn(h:RfAH K tA dA):RfH K (zet tA) (dF (dLst dA)):=by
 intro F H Y U Qd Q s rv hd k;refine h s rv hd λxs hx vs F1 H1 e1 i1=>⟨by rw[i1.dlen];exact hx.1,λp hp=>?_⟩
 exact k _ hx.2 _ _ _ (e1.trans (zaz e1.fh hp)) (.lst (SqL.of zj0) (i1.mono (zy2 hp _)))
noncomputable def R2H(K:Fg)(r:R2)(f:D->D->(D->Prop)->Prop):Prop:=∀{F H:Hp}{x y:V}{d e:D}{Qd:D->Prop}{Q:VK},Same F H->Is K H x d->Is K H y e->f d e Qd->(∀z,Qd z->∀v F' H',Ext F H F' H'->Is K F' v z->Q v H')->r x y H Q
theorem zm1{r:R2}{f:D->D->(D->Prop)->Prop}(hr:R2H K r f)(ha:RfH K ta da)(hb:RfH K tb db):RfE K (tOp r ta tb) (dOp f da db):=by
 intro F H Y U Qd Q s rv h k;refine ha s rv h λx hx v F1 H1 e1 i1=>hb e1.fh (rv.ext e1) hx λy hy u F2 H2 e2 i2=>?_;exact hr e2.fh (i1.mono e2.h) i2 hy λz hz w F3 H3 e3 i3=>k z hz w F3 H3 ((e1.trans e2).trans e3) i3
theorem q_eq:R2H K (rEqU K) fEq:=by
 intro F H x y d e Qd Q s hx hy h k;unfold fEq at h;split at h
 ·cases hx.int_inv;cases hy.int_inv;refine .inl ⟨rfl,k _ h _ F H (Ext.refl s) ?_⟩;rw[zoi];exact .bl _
 ·cases hx.str_inv;cases hy.str_inv;refine .inl ⟨rfl,k _ h _ F H (Ext.refl s) ?_⟩;rw[zpi];exact .bl _
 ·cases hx.bl_inv;cases hy.bl_inv;refine .inl ⟨rfl,k _ h _ F H (Ext.refl s) ?_⟩;rw[zcp];exact .bl _
 ·exact .inr ⟨_,_,hx,hy,h.1,h.2.1,k _ h.2.2 _ F H (Ext.refl s) (.bl _)⟩
theorem q_ne:R2H K (rNeU K) fNe:=by
 intro F H x y d e Qd Q s hx hy h k;unfold fNe at h;split at h
 ·cases hx.int_inv;cases hy.int_inv;refine .inl ⟨rfl,k _ h _ F H (Ext.refl s) ?_⟩;rw[zoi];exact .bl _
 ·cases hx.str_inv;cases hy.str_inv;refine .inl ⟨rfl,k _ h _ F H (Ext.refl s) ?_⟩;rw[zpi];exact .bl _
 ·cases hx.bl_inv;cases hy.bl_inv;refine .inl ⟨rfl,k _ h _ F H (Ext.refl s) ?_⟩;rw[zcp];exact .bl _
 ·exact .inr ⟨_,_,hx,hy,h.1,h.2.1,k _ h.2.2 _ F H (Ext.refl s) (.bl _)⟩
end
theorem zp01(i:Int):isT "int" (.int i)=true:=rfl
theorem zq61(i:Int):isT "bool" (.int i)=false:=by simp[isT,tyD]
theorem znx(i:List D):isT "list" (.list i)=true:=rfl
theorem zl01(i:List D):isT "tuple" (.tuple i)=true:=rfl
theorem zmy(i:Str):isT "str" (.str i)=true:=rfl
theorem zn71(i:Int):(∀kvs,wK i≠.dict kvs)=True:=by simp
theorem zvv(i:List D):(∀kvs,xM i≠.dict kvs)=True:=by simp
theorem ze51(i:List D):(∀kvs,PyData.tuple i≠.dict kvs)=True:=by simp
theorem za41(i:Str):(∀kvs,PyData.str i≠.dict kvs)=True:=by simp
theorem zwd1(i:Bool):(∀kvs,PyData.bool i≠.dict kvs)=True:=by simp
theorem zl31:(∀kvs,PyData.none≠.dict kvs)=True:=by simp
theorem eqv_refl{d:D}(h:Fit n d):xE d d=true:=h.eqv
theorem zio{α:Type}{xs:List α}{f:α->D}(h:∀x∈xs,Fit n (f x)):Fit (n+1) (.list (xs.map f)):=Fit.lst λd hd=>by
 obtain⟨x,hx,rfl⟩:=wU.mp hd;exact h x hx
theorem zy41(ds:List D):xE (.list ds) (.list [])=ds.isEmpty:=by cases ds <;> simp[xE,PyData.eqvAll]
end _4
namespace _3
open PySem PySem.Spec PyProof.Rows _2
section
variable {X:Cx}
theorem zib{C:Addr}{m:Str}{k:Nat}{ps:List Str}{sp:Sp}{o:Expr}{ta:TE}{apos pos:Pos}{pl:Sem Bool}(d:zsb X.prog X.w X.K X.mg X.base C m k ps sp)(hr:Room k X.A)(he:PE X o ta)
  (ht:eval (.Call (.Attribute o m apos) [] [] pos) X.env=(do
   let ov <- eval o X.env
   standAt apos.atName
   let (f,first) <- holding [ov] (getMethod ov m pl)
   callWith pos f first (backTo pos (starEach [] X.env)) (backToKw pos (keywordEach [] X.env))):=by rfl) :
  PE X (.Call (.Attribute o m apos) [] [] pos) (zi21 C m sp [] E0 ta tNil):=by
 obtain⟨f,fd,c,M,F,b⟩:=d;exact zay he c M F hr b .nil zr31 ht
end
end _3
namespace _4
open PySem PySem.Spec PyProof.Rows _2 _3
section
variable {K:Fg}{te ta ti tv tk tb:TE}{de da di dk db:DE}{dc:DC}{tA:TA}{dA:DF}
theorem zgw(x:Int):Builtin.bitXor x 1=x+1 - 2 * (x % 2):=by
 rw[PyProof.Rows.bitXor_and,PyProof.Rows.bitAnd_m1]
end
end _4
namespace _3
open PySem PySem.Spec PyProof.Rows _2
structure TopDefN(K:Fg)(x:Str)(st:Stmt):Prop where
 ex:∃(f T:Addr)(oc:Value)(od:Option Addr)(kV doc pm:Value)(an:Option Addr)(cdv ct:Value)(osl:Array (Option Value))(o:Obj)(n:Nat),PySem.W.nsIn K mainGlobals x=some (some (.ref f)) /\
  K.lookup f=some ⟨oc,od,.func (PySem.W.fnOf x x (zxb st) (zu3 st) (zh0 st) (.ref T) kV doc pm an cdv ct),osl⟩/\PySem.W.codeIn K cdv x=true/\PySem.W.keepIn K (.ref f)=true/\K.lookup T=some o/\o.data=.seq #[.none] n
theorem zlp{K:Fg}{x:Str}{st:Stmt}{f T:Addr}{oc:Value}{od an:Option Addr}{osl:Array (Option Value)}{kV doc pm cdv ct:Value}{o:Obj}{n:Nat}(a:PySem.W.nsIn K mainGlobals x=some (some (.ref f)))
  (l:K.lookup f=some ⟨oc,od,.func (PySem.W.fnOf x x (zxb st) (zu3 st) (zh0 st) (.ref T) kV doc pm an cdv ct),osl⟩) (c:PySem.W.codeIn K cdv x=true) (k:PySem.W.keepIn K (.ref f)=true) (lt:K.lookup T=some o) (hd:o.data=.seq #[.none] n):TopDefN K x st :=
 ⟨f,T,oc,od,kV,doc,pm,an,cdv,ct,osl,o,n,a,l,c,k,lt,hd⟩
end _3
namespace _5
open PySem PySem.Spec PyProof.Rows _2 _3 _4
theorem ar1{α:Type}{us:List α}(h:us.length=1):∃a,us=[a]:=by
 rcases us with _|⟨a,_|⟨b,us⟩⟩
 ·cases h
 ·exact⟨a,rfl⟩
 ·cases h
theorem ars{α:Type}{n:Nat}{us:List α}(h:us.length=n+1):∃a r,us=a :: r/\r.length=n:=by
 rcases us with _|⟨a,us⟩
 ·cases h
 ·exact⟨a,us,rfl,Nat.succ.inj h⟩
theorem ar2{α:Type}{us:List α}(h:us.length=2):∃a b,us=[a,b]:=by
 obtain⟨a,r,rfl,k⟩:=ars h;obtain⟨b,rfl⟩:=ar1 k;exact⟨a,b,rfl⟩
theorem ar3{α:Type}{us:List α}(h:us.length=3):∃a b c,us=[a,b,c]:=by
 obtain⟨a,r,rfl,k⟩:=ars h;obtain⟨b,c,rfl⟩:=ar2 k;exact⟨a,b,c,rfl⟩
theorem ar4{α:Type}{us:List α}(h:us.length=4):∃a b c d,us=[a,b,c,d]:=by
 obtain⟨a,r,rfl,k⟩:=ars h;obtain⟨b,c,d,rfl⟩:=ar3 k;exact⟨a,b,c,d,rfl⟩
theorem ar5{α:Type}{us:List α}(h:us.length=5):∃a b c d e,us=[a,b,c,d,e]:=by
 obtain⟨a,r,rfl,k⟩:=ars h;obtain⟨b,c,d,e,rfl⟩:=ar4 k;exact⟨a,b,c,d,e,rfl⟩
section
variable {P:Program}{w:World}{K:Fg}{mg:Str->Option Value}{base:Heap}{m:Str}{k:Nat}{ta:TE}{tA:TA}{dn:DN}{dA:DF}
noncomputable abbrev Tab:=List (Addr×DSpT)
theorem zt71{F H:Hp}:∀{vs:List V}{ds:List D},IsAll K F vs ds->ArgsR K F H vs (ds.map .d) [] none
|_,_,.nil=>.nil
|_,_,.cons h r=>.d h (zt71 r)
theorem tab3{C1 C2 C3:Addr}{p1 p2 p3:DSpT}(h1:∃ps,zsb P w K mg base C1 m k ps (spT K p1))(h2:∃ps,zsb P w K mg base C2 m k ps (spT K p2))(h3:∃ps,zsb P w K mg base C3 m k ps (spT K p3)) :
  ∀C p,(C,p)∈[(C1,p1),(C2,p2),(C3,p3)]->∃ps,zsb P w K mg base C m k ps (spT K p):=λC p h=>by
 rcases v6.mp h with e|h
 ·cases e;exact h1
 rcases v6.mp h with e|h
 ·cases e;exact h2
 rcases v6.mp h with e|h
 ·cases e;exact h3
 ·simp at h
end
section
variable {P:Program}{w:World}{K:Fg}{mg:Str->Option Value}{base:Heap}{m:Str}{k:Nat}{ta tk tx:TE}{tA:TA}{dp:DP}{dk dx:DE}{dA:DF}
noncomputable def zk21(u:T)(k x:D)(Q:D->Prop):Prop:=match u with
|.dk kvs=>∃key,keyD k=some key/\Q ((getA kvs key).getD x)
|.dt kvs=>∃key,keyT k=some key/\Q ((getA kvs key).getD x)
|_=>False
noncomputable def zsa1(dp:DP)(dk dx:DE):DE:=λU Q=>dp U λ_ _ u=>tyN "dict" u/\dk U λk=>dx U λx=>zk21 u k x Q
theorem zcs(dp:DP)(dk dx:DE)(U:DSt)(Q:D->Prop):zsa1 dp dk dx U Q=(dp U λ_ _ u=>tyN "dict" u/\dk U λk=>dx U λx=>zk21 u k x Q):=rfl
theorem zo71{F H:Hp}{v kv xv:V}{u:T}{fn:List Addr}{k x:D}{Qd:D->Prop}{Q:VK}(s:Same F H)(hr:Rt K F H v u fn)(hk:Is K F kv k)(hx:Is K F xv x)(hf:zk21 u k x Qd)(q:∀d y,Qd d->Is K F y d->Q y H):zw01 v [kv,xv] H Q:=by
 cases hr with
|dk h1 h2 h3 =>
  obtain⟨key,ek,qd⟩:=hf;have:=zyu hk ek;subst this;rcases h3.get (k:=key)with⟨g1,g2⟩|⟨d',y,g1,g2,g3⟩
  ·rw[g1]at qd;exact⟨_,_,_,none,rfl,rfl,by rw[<- g2];exact DGet.k h1,q _ _ qd hx⟩
  ·rw[g1]at qd;exact⟨_,_,_,some y,rfl,rfl,by rw[<- g2];exact DGet.k h1,q _ _ qd g3⟩
|dt h1 h2 h3 =>
  obtain⟨key,ek,qd⟩:=hf;obtain⟨kb,rfl,hb⟩:=znm hk ek;rcases h3.get (k:=key)with⟨g1,g2⟩|⟨d',y,g1,g2,g3⟩
  ·rw[g1]at qd;exact⟨_,_,_,none,rfl,rfl,by rw[<- g2];exact DGet.t h1 (s _ _ hb),q _ _ qd hx⟩
  ·rw[g1]at qd;exact⟨_,_,_,some y,rfl,rfl,by rw[<- g2];exact DGet.t h1 (s _ _ hb),q _ _ qd g3⟩
|fz _=>exact hf.elim
|li _ _ _=>exact hf.elim
|ls _ _ _=>exact hf.elim
|ob _ _ _ _ _=>exact hf.elim
|tp _ _ _=>exact hf.elim
theorem zu31(hp:RfP K ta dp)(hk:RfE K tk dk)(hx:RfE K tx dx):RfE K (tBMU K "dict" zw01 ta (zw2 tk (zw2 tx tNil))) (zsa1 dp dk dx):=by
 intro F H Y U Qd Q s rv hd kk;refine hp s rv hd λi p u hu v F1 H1 e1 at1=>?_;have rv1:=rv.ext e1;obtain⟨fn,hr⟩:=at1.rt rv1;refine⟨zc61 hr hu.1,hk e1.fh rv1 hu.2 λkd hkd kv F2 H2 e2 i2=>hx e2.fh (rv1.ext e2) hkd λxd hxd xv F3 H3 e3 i3=>?_⟩;have e13:=(e1.trans e2).trans e3;exact zo71 e3.fh ((hr.ext e2).ext e3) (i2.mono e3.f) i3 hxd λd y qd iy=>kk d qd y F3 H3 e13 iy
noncomputable def zi01(m:Str)(tab:Tab)(dp:DP)(dA:DF):DN:=λU Q=>dp U λ_ _ u=>match u with
|.ob C fs=>noM m (.ob C fs)/\∃p,(C,p)∈tab/\dA U λds=>p (.b (.ob C fs) :: ds.map .d) λr _=>Q r
|_=>False
theorem zbk(m:Str)(tab:Tab)(dp:DP)(dA:DF)(U:DSt)(Q:T->Prop):zi01 m tab dp dA U Q=(dp U λ_ _ u=>match u with
|.ob C fs=>noM m (.ob C fs)/\∃p,(C,p)∈tab/\dA U λds=>p (.b (.ob C fs) :: ds.map .d) λr _=>Q r
|_=>False):=rfl
theorem zrr{tab:Tab}(ht:∀C p,(C,p)∈tab->∃ps,zsb P w K mg base C m k ps (spT K p))(h1:RfP K ta dp)(h2:RfA K tA dA):RfN K (zd71 P w K mg base m k ta tA) (zi01 m tab dp dA):=by
 intro F H Y U Qd Q s rv hd kk;refine h1 s rv hd λi q u hu v F1 H1 e1 at1=>?_;have rv1:=rv.ext e1;obtain⟨fn,r1,nd1⟩:=at1.rtV rv1;cases r1 with
|ob g1 g2 g3 g4 g5 =>
  rename_i a C dx' kvs fs fp'
  obtain⟨nm,p,hp,hq⟩:=hu;obtain⟨ps,md⟩:=ht C p hp;refine⟨a,C,dx',kvs,ps,_,rfl,g1,(g5.keys m).1 nm,md,h2 e1.fh rv1 hq λds hds vs F2 H2 e2 i2=>?_⟩;have r2:Rt K F2 H2 (.ref a) (.ob C fs) (a :: dx' :: fp'):=(Rt.ob g1 g2 g3 g4 g5).ext e2;have e12:=e1.trans e2;refine⟨F2,_,_,none,_,e2.fh,.b r2 nd1 (zt71 i2),(λb hb=>by simp[ofp]at hb),hds,λr2 t2 q2 v F' H' fpr fpo post=>?_⟩;exact kk _ q2 v F' H' fpr (e12.trans ⟨λb o hb=>post.hh b o (by simp[ofp]) hb,post.ff,post.fh,post.nw⟩) post.rt post.nd λb hb=>zo1 e12 (post.fr b hb)
|fz _=>exact hu.elim
|li _ _ _=>exact hu.elim
|ls _ _ _=>exact hu.elim
|dk _ _ _=>exact hu.elim
|dt _ _ _=>exact hu.elim
|tp _ _ _=>exact hu.elim
end
noncomputable abbrev nB(a b:String):Prop:=(wY a==wY b)=false
noncomputable abbrev nE(a b:String):Prop:=(wY a=wY b)=False
theorem nN{a b:String}(h:nB a b):nE a b:=eq_false (beq_eq_false_iff_ne.mp h)
theorem zp5:nB "wide" "since":=by decide +kernel
theorem zt5:nB "wide" "other":=by decide +kernel
theorem zf8:nB "wide" "turn":=by decide +kernel
theorem zd9:nB "since" "wide":=by decide +kernel
theorem zr9:nB "other" "wide":=by decide +kernel
theorem zq5:nB "other" "turn":=by decide +kernel
theorem zma:nB "turn" "wide":=by decide +kernel
theorem zq9:nB "turn" "other":=by decide +kernel
theorem zt4:nB "width_at" "wide":=by decide +kernel
theorem zw3:nB "width_at" "since":=by decide +kernel
theorem zd4:nB "width_at" "other":=by decide +kernel
theorem zo5:nB "width_at" "turn":=by decide +kernel
theorem zi9:nE "wide" "since":=nN zp5
theorem zt8:nE "wide" "other":=nN zt5
theorem zsa:nE "wide" "turn":=nN zf8
theorem zl9:nE "other" "turn":=nN zq5
theorem zr4:nB "rooms" "lying":=by decide +kernel
theorem zi4:nB "rooms" "pipes":=by decide +kernel
theorem zj4:nB "rooms" "gates":=by decide +kernel
theorem zl3:nB "rooms" "moment":=by decide +kernel
theorem zq2:nB "rooms" "entered":=by decide +kernel
theorem zs3:nB "rooms" "coming":=by decide +kernel
theorem zx7:nB "lying" "rooms":=by decide +kernel
theorem zl4:nB "lying" "pipes":=by decide +kernel
theorem zn4:nB "lying" "gates":=by decide +kernel
theorem zk3:nB "lying" "moment":=by decide +kernel
theorem zl2:nB "lying" "entered":=by decide +kernel
theorem zn3:nB "lying" "coming":=by decide +kernel
theorem zy7:nB "pipes" "rooms":=by decide +kernel
theorem zk4:nB "pipes" "lying":=by decide +kernel
theorem zp4:nB "pipes" "gates":=by decide +kernel
theorem ze3:nB "pipes" "moment":=by decide +kernel
theorem zi2:nB "pipes" "entered":=by decide +kernel
theorem zo3:nB "pipes" "coming":=by decide +kernel
theorem zg8:nB "gates" "rooms":=by decide +kernel
theorem zq4:nB "gates" "lying":=by decide +kernel
theorem zz7:nB "gates" "pipes":=by decide +kernel
theorem zg3:nB "gates" "moment":=by decide +kernel
theorem zk2:nB "gates" "entered":=by decide +kernel
theorem zq3:nB "gates" "coming":=by decide +kernel
theorem zk6:nB "moment" "rooms":=by decide +kernel
theorem zi3:nB "moment" "lying":=by decide +kernel
theorem zg6:nB "moment" "pipes":=by decide +kernel
theorem za6:nB "moment" "gates":=by decide +kernel
theorem zy1:nB "moment" "entered":=by decide +kernel
theorem zj2:nB "moment" "coming":=by decide +kernel
theorem za5:nB "entered" "rooms":=by decide +kernel
theorem zr2:nB "entered" "lying":=by decide +kernel
theorem zg5:nB "entered" "pipes":=by decide +kernel
theorem zf5:nB "entered" "gates":=by decide +kernel
theorem zb2:nB "entered" "moment":=by decide +kernel
theorem zz1:nB "entered" "coming":=by decide +kernel
theorem ze6:nB "coming" "rooms":=by decide +kernel
theorem zr3:nB "coming" "lying":=by decide +kernel
theorem zn6:nB "coming" "pipes":=by decide +kernel
theorem zd6:nB "coming" "gates":=by decide +kernel
theorem zh2:nB "coming" "moment":=by decide +kernel
theorem zc2:nB "coming" "entered":=by decide +kernel
theorem zra:nB "now" "rooms":=by decide +kernel
theorem zbb:nB "now" "lying":=by decide +kernel
theorem zeb:nB "now" "pipes":=by decide +kernel
theorem zva:nB "now" "gates":=by decide +kernel
theorem zu8:nB "now" "moment":=by decide +kernel
theorem zq7:nB "now" "entered":=by decide +kernel
theorem zm9:nB "now" "coming":=by decide +kernel
theorem zr7:nB "holds" "rooms":=by decide +kernel
theorem zk8:nB "holds" "lying":=by decide +kernel
theorem za8:nB "holds" "pipes":=by decide +kernel
theorem zm7:nB "holds" "gates":=by decide +kernel
theorem zw6:nB "holds" "moment":=by decide +kernel
theorem zn5:nB "holds" "entered":=by decide +kernel
theorem zi6:nB "holds" "coming":=by decide +kernel
theorem zx2:nB "under_way" "rooms":=by decide +kernel
theorem zv2:nB "under_way" "lying":=by decide +kernel
theorem za3:nB "under_way" "pipes":=by decide +kernel
theorem zb3:nB "under_way" "gates":=by decide +kernel
theorem zm2:nB "under_way" "moment":=by decide +kernel
theorem zd2:nB "under_way" "entered":=by decide +kernel
theorem zo2:nB "under_way" "coming":=by decide +kernel
theorem zd5:nB "room_in" "rooms":=by decide +kernel
theorem zi5:nB "room_in" "lying":=by decide +kernel
theorem zb5:nB "room_in" "pipes":=by decide +kernel
theorem zk5:nB "room_in" "gates":=by decide +kernel
theorem zz3:nB "room_in" "moment":=by decide +kernel
theorem zz2:nB "room_in" "entered":=by decide +kernel
theorem zx3:nB "room_in" "coming":=by decide +kernel
theorem zh9:nB "full" "rooms":=by decide +kernel
theorem ze9:nB "full" "lying":=by decide +kernel
theorem zg9:nB "full" "pipes":=by decide +kernel
theorem zp9:nB "full" "gates":=by decide +kernel
theorem zh8:nB "full" "moment":=by decide +kernel
theorem zl6:nB "full" "entered":=by decide +kernel
theorem zu7:nB "full" "coming":=by decide +kernel
theorem zwa:nB "let" "rooms":=by decide +kernel
theorem zna:nB "let" "lying":=by decide +kernel
theorem zqa:nB "let" "pipes":=by decide +kernel
theorem zoa:nB "let" "gates":=by decide +kernel
theorem zf9:nB "let" "moment":=by decide +kernel
theorem zl7:nB "let" "entered":=by decide +kernel
theorem za9:nB "let" "coming":=by decide +kernel
theorem ze8:nB "go_on" "rooms":=by decide +kernel
theorem zh7:nB "go_on" "lying":=by decide +kernel
theorem zn7:nB "go_on" "pipes":=by decide +kernel
theorem zc8:nB "go_on" "gates":=by decide +kernel
theorem zz5:nB "go_on" "moment":=by decide +kernel
theorem zv4:nB "go_on" "entered":=by decide +kernel
theorem zm6:nB "go_on" "coming":=by decide +kernel
theorem zt7:nE "rooms" "lying":=nN zr4
theorem zd8:nE "rooms" "pipes":=nN zi4
theorem zw7:nE "rooms" "gates":=nN zj4
theorem zb6:nE "rooms" "moment":=nN zl3
theorem zu4:nE "rooms" "entered":=nN zq2
theorem zs6:nE "rooms" "coming":=nN zs3
theorem zj8:nE "lying" "pipes":=nN zl4
theorem zp7:nE "lying" "gates":=nN zn4
theorem zp6:nE "lying" "moment":=nN zk3
theorem zm5:nE "lying" "entered":=nN zl2
theorem zt6:nE "lying" "coming":=nN zn3
theorem zo7:nE "pipes" "lying":=nN zk4
theorem zj7:nE "pipes" "gates":=nN zp4
theorem zx6:nE "pipes" "moment":=nN ze3
theorem zy4:nE "pipes" "entered":=nN zi2
theorem zr6:nE "pipes" "coming":=nN zo3
theorem zi7:nE "gates" "lying":=nN zq4
theorem zq6:nE "gates" "moment":=nN zg3
theorem zh5:nE "gates" "entered":=nN zk2
theorem zh6:nE "gates" "coming":=nN zq3
theorem zv6:nE "moment" "lying":=nN zi3
theorem zb4:nE "moment" "entered":=nN zy1
theorem ze5:nE "moment" "coming":=nN zj2
theorem zj5:nE "entered" "lying":=nN zr2
theorem zy3:nE "entered" "moment":=nN zb2
theorem zv3:nE "entered" "coming":=nN zz1
theorem zy5:nE "coming" "lying":=nN zr3
theorem zx4:nE "coming" "moment":=nN zh2
theorem za4:nE "coming" "entered":=nN zc2
end _5
namespace _3
open PySem PySem.Spec PyProof.Rows _2
variable {ep:Nat}{es:Array DictEntry}{it:Addr}{od:Obj}{te:TE}
section
variable {s:Shared}{w:World}{prog:Program}{E:Value->Shared->Prop}{A:Around}
theorem zuy{d:Addr}{Q:Value->Shared->Prop}(go:s.heap.get? d=some od)(gc:od.cls=.type "dict")(gs:(d == sysModules)=false)
  (h:Q (.ref s.heap.objs.size) { s with heap:=s.heap.push { cls:=.type "dict_items",data:=.fields #[.ref d] } }):wpAny (model prog w) A (call (.builtin "dict.items") [.ref d]) Q E s:=by
 refine wpAny_call_entry ğl ⟨od,go,gc⟩ PySem.F.entry_dict_items ?_ (PySem.F.args_dict_items_1 _);unfold Builtin.«dict.items» Builtin.Dict.noArgs;refine wpAny_bind (wpAny_bind (wpAny_notOrdered_dict ⟨od,go,gc⟩ (wpAny_pure ?_)));unfold Builtin.Dict.showsAll;refine wpAny_bind ?_;rw[gs,if_neg wF];exact wpAny_pure (wpAny_bind (wpAny_newObj_type (wpAny_pure ⟨_,rfl,h⟩)))
noncomputable abbrev itF(d:Addr)(i n ep:Nat)(x k v:Value):Array Value:=#[x,.bool false,.ref d,.int i 0,.int n 0,.int ep 0,k,v]
theorem owns:Builtin.Dict_items.ownsTuple "dict_itemiterator"=true:=by decide
theorem zh01{v d:Addr}{Q:Value->Shared->Prop}(gv:s.heap.IsItemsView v d)(go:s.heap.get? d=some od)(gd:od.data=.dict es ep)
  (q:Q (.ref s.heap.objs.size) { s with heap:=s.heap.push { cls:=.type "dict_itemiterator",data:=.fields (itF d 0 es.size ep .none .none .none) } }):wpAny (model prog w) A (pyIter (.ref v)) Q E s:=by
 refine wpAny_pyIter_slot gv.typeIs F.slot_dict_items_iter (wpAny_call_entry F.slot_dict_items_iter gv.typeIs F.entry_dict_items_iter ?_ (F.args_dict_items_iter_1 _));obtain⟨vo,v1,v2,v3⟩:=gv;unfold Builtin.«dict_items.__iter__» Builtin.Dict_items.dictOf Builtin.Dict_items.newIterator;refine wpAny_bind (wpAny_pure (wpAny_bind (wpAny_bind (wpAny_field v1 v3 (x:=.ref d) rfl (wpAny_pure ?_)))));refine wpAny_bind (wpAny_bind (wpAny_dictEntries go gd (wpAny_bind (wpAny_dictEpoch go gd ?_))));simp only[owns,if_true];refine wpAny_newObj_type (hd:=?_) (wpAny_pure ⟨_,rfl, "dict_itemiterator",_,⟨_,wI _ rfl,rfl⟩,F.slot_dict_itemiterator_next.lookup,?_⟩)
 ·simpa[rawInt,Builtin.Dict_items.ownedTupleFields,itF]using q
 ·simp[sizeOk,Builtin.Dict_items.ownedTupleFields,sizeLine_eq]
theorem zjj{d:Addr}{i:Nat}{k0 v0:Value}{Q:Option Value->Shared->Prop}(calm:A.handled=none)(gi:IsItemIter s.heap it d i es.size ep k0 v0)(go:s.heap.get? d=some od)(gd:od.data=.dict es ep)
  (q1:∀(lt:i < es.size)(h':Heap),IsItemIterOut h' it d (i+1) es.size ep es[i].key es[i].val s.heap.objs.size->h'.get? s.heap.objs.size=some { cls:=.type "tuple",data:=.seq #[es[i].key,es[i].val] } ->
   (∀b o,b≠it->s.heap.get? b=some o->h'.get? b=some o)->Q (some (.ref s.heap.objs.size)) { s with heap:=h' })
  (q2:es.size<=i->∀h':Heap,Heap.ExtBut it s.heap h'->Q none { s with heap:=h' }):wpAny (model prog w) A (pyNext (.ref it)) Q E s:=by
 have ty:s.TypeIs (.ref it) "dict_itemiterator":=⟨_,gi,rfl⟩
 unfold pyNext;refine wpAny_bind (wpAny_attempt (wpAny_callSpecial?_slot (name:=wY "__next__") ty F.slot_dict_itemiterator_next (wpAny_call_entry F.slot_dict_itemiterator_next ty F.entry_dict_itemiterator_next ?_ (F.args_dict_itemiterator_next_1 _))));refine wpAny_bind (wpAny_pure (wpAny_bind (wpAny_bind (wpAny_bind (wpAny_typeNameOfWhole_itemiter ty (wpAny_pure (wpAny_bind (wpAny_fieldsOf gi rfl ?_))))))));simp only[owns,if_true];refine(show wpAny _ _ (if(u7 d == xG)=true then pure none else _) _ _ _ from ?_);rw[if_neg (show ¬(u7 d == xG)=true from nofun)];refine wpAny_bind (wpAny_pure (wpAny_bind (wpAny_dictEntries go gd ?_)));rw[if_neg (by simp)];refine wpAny_bind (wpAny_pure (wpAny_bind (wpAny_dictEpoch go gd ?_)));rw[if_neg (by simp)];refine wpAny_pure ?_;rcases xF i es.size with lt|ge
 ·simp only[uaA lt,wH,if_neg (Int.not_lt.mpr (uaB i))];refine wpAny_bind (wpAny_bind (wpAny_typeNameOfWhole_itemiter ty (wpAny_pure (wpAny_bind (wpAny_isOneOf_itemiter ty ?_)))));have il:it < s.heap.objs.size:=u9 gi;refine wpAny_bind (show wpAny _ _ (setField (.ref it) 3 (rawInt ((i:Int)+1))) _ _ _ from wpAny_setField_rec gi (by simp) λa1 e1 c1=>?_);have c1:Heap.SameBut it s.heap a1:=c1;have e1:IsItemIter a1 it d (i+1) es.size ep k0 v0:=by
   simpa[IsItemIter,rawInt]using e1
  have ty1:Shared.TypeIs { s with heap:=a1 } (.ref it) "dict_itemiterator":=⟨_,e1,rfl⟩
  refine wpAny_bind (wpAny_holding (wpAny_bind (wpAny_isOneOf_itemiter ty1 (wpAny_bind (wpAny_isOneOf_itemiter ty1 (show wpAny _ _ (Builtin.Dict_items.pairFromOwner (.ref it) 6 es[i].key es[i].val) _ _ _ from ?_))))));unfold Builtin.Dict_items.pairFromOwner Builtin.Dict_items.ownedTupleIsFree;refine wpAny_bind (wpAny_newTuple ?_);obtain⟨a2,za2⟩:∃a2,a2=a1.push { cls:=.type "tuple",data:=.seq #[es[i].key,es[i].val] }:=⟨_,rfl⟩
  have e2:IsItemIter a2 it d (i+1) es.size ep k0 v0:=by rw[za2];exact u5 _ e1
  have t2:a2.get? s.heap.objs.size=some { cls:=.type "tuple",data:=.seq #[es[i].key,es[i].val] }:=by rw[za2,<- c1.1];exact wI _ rfl
  have p2:∀b o,b≠it->s.heap.get? b=some o->a2.get? b=some o:=λb o n z=>by rw[za2];exact u5 _ (c1.extBut b o n z)
  rw[show a1.objs.size=s.heap.objs.size from c1.1];refine wpAny_bind (show wpAny _ _ _ _ _ { s with heap:=a1.push { cls:=.type "tuple",data:=.seq #[es[i].key,es[i].val] } }from ?_);rw[<- za2];clear za2 e1 ty1 c1;refine wpAny_bind (wpAny_field e2 rfl (x:=.none) rfl (wpAny_pure ?_));simp only[if_true];refine wpAny_bind (wpAny_field e2 rfl (x:=k0) rfl (wpAny_bind (wpAny_field e2 rfl (x:=v0) rfl (wpAny_bind (wpAny_setField_rec e2 (by simp) λa3 e3 c3=>?_)))));have e3:IsItemIter a3 it d (i+1) es.size ep es[i].key v0:=e3;refine wpAny_bind (wpAny_setField_rec e3 (by simp) λa4 e4 c4=>?_);have e4:IsItemIter a4 it d (i+1) es.size ep es[i].key es[i].val:=e4;refine wpAny_bind (wpAny_setField_rec e4 (by simp) λa5 e5 c5=>?_);have e5:IsItemIterOut a5 it d (i+1) es.size ep es[i].key es[i].val s.heap.objs.size:=e5;refine wpAny_bind (wpAny_setField_rec e5 (by simp) λa6 e6 c6=>?_);have e6:IsItemIterOut a6 it d (i+1) es.size ep es[i].key es[i].val s.heap.objs.size:=e6;have keep:∀b o,b≠it->a2.get? b=some o->a6.get? b=some o:=λb o n z=>c6.extBut b o n (c5.extBut b o n (c4.extBut b o n (c3.extBut b o n z)));exact wpAny_bind (wpAny_letGo (wpAny_pure (wpAny_pure ⟨_,rfl,wpAny_pure (q1 lt a6 e6 (keep _ _ (y6 il) t2) λb o n z=>keep b o n (p2 b o n z))⟩)))
 ·simp only[Array.getElem?_eq_none ge,wH,if_neg (Int.not_lt.mpr (uaB i))];refine wpAny_bind (wpAny_bind (wpAny_typeNameOfWhole_itemiter ty (wpAny_pure (wpAny_bind (show wpAny _ _ (setField (.ref it) 2 .none) _ _ _ from wpAny_setField gi rfl (by simp) ?_)))));refine wpAny_bind (show wpAny _ _ (newExc (.type "StopIteration") []) _ _ _ from ?_);simp only[newExc,newTuple];refine wpAny_bind (wpAny_newObj_type (hd:=by size_fits) (wpAny_bind (m:=firstArgMember _ _) (wpAny_of_eq (a:=xG) (by rfl) (wpAny_newObj_type (hd:=by size_fits) ?_))));simp only[raiseNew];refine wpAny_bind (wpAny_handled ?_);rw[show A.in1.handled=none from calm];refine wpAny_bind (wpAny_pure (wpAny_throw ?_));refine wpAny_bind (wpAny_isInstance (b:=true) (T := "StopIteration") ⟨_,wI _ rfl,rfl⟩ isSubtype_stop (wpAny_pure (q2 ge _ ?_)));exact((Heap.SameBut.update ..).extBut.push _).push _
end
section
variable {X:Cx}{pins:List (Addr×Obj)}{Y:_2.St}{H:Hp}{s:Shared}{a:Addr}{u:HO}{o:Obj}
theorem zt91(I:_2.Inv X pins Y H s)(mu:Mut (H a))(e:H a=some u)(ho:s.heap.get? a=some o):_2.Inv X pins Y (upd H a (.frz o u)) s:=by
 have nown:∀c y,H c=some (.own y)->c≠a:=λc y r z=>by subst z;rw[r]at mu;exact mu
 have ntup:∀c xs,H c=some (.tup xs)->c≠a:=λc xs r z=>by subst z;rw[r]at mu;exact mu
 refine I.write (s:=s) (t':=s.toks) (h':=s.heap) (e:=a) mu (.inl rfl) (λ_ _ _ q=>q) ⟨o,ho⟩ ⟨ho,?_⟩;exact(I.hok a u e).stay (λ_ _ _ q=>q) (λc r=>by rw[zm0 (nown c a r)];exact r) λc xs r=>by rw[zm0 (ntup c xs r)];exact r
theorem thaw(I:_2.Inv X pins Y H s)(e:H a=some (.frz o u))(h0:∀ob v,X.H₀ a≠some (.frz ob v)):_2.Inv X pins Y (upd H a u) s:=by
 have ne:∀b,H b=none->b≠a:=λb n z=>by subst z;rw[e]at n;cases n
 have nt:∀b xs,H b=some (.tup xs)->b≠a:=λb xs n z=>by subst z;rw[e]at n;cases n
 have no:∀b y,H b=some (.own y)->b≠a:=λb y n z=>by subst z;rw[e]at n;cases n
 refine⟨I.ok,I.os,I.bare,⟨I.base.keep,I.base.slot,λb ob q n hx=>?_,I.base.there,λb xs q=>?_,λb ob v q=>?_,λb ps q=>?_⟩,I.loc,I.cell,by rw[zm0 (ne _ I.free)];exact I.free,λx c q=>by rw[zm0 (ne _ (I.freeC x c q))];exact I.freeC x c q,λp hp=>?_,λb v q=>?_,I.len⟩
 ·have:=I.base.free b ob q n hx;rw[zm0 (ne b this)];exact this
 ·have:=I.base.tups b xs q;rw[zm0 (nt b xs this)];exact this
 ·have:=I.base.frzs b ob v q;have hb:b≠a:=λz=>by subst z;exact h0 ob v q
  rw[zm0 hb];exact this
 ·obtain⟨m,hm⟩:=I.base.tbls b ps q;exact⟨m,by rw[zm0 (λz=>by subst z;rw[e]at hm;cases hm)];exact hm⟩
 ·obtain⟨p1,p2,p3⟩:=I.pin p hp;exact⟨p1,by rw[zm0 (ne _ p2)];exact p2,p3⟩
 ·by_cases hb:b=a
  ·subst hb;rw[zj0]at q;cases q;exact(I.hok b _ e).2.stay (λ_ _ _ q=>q) (λc r=>by rw[zm0 (no c b r)];exact r) λc xs r=>by rw[zm0 (nt c xs r)];exact r
  ·rw[zm0 hb]at q;exact(I.hok b v q).stay (λ_ _ _ q=>q) (λc r=>by rw[zm0 (no c b r)];exact r) λc xs r=>by rw[zm0 (nt c xs r)];exact r
end
noncomputable def Itd(a:Addr)(o:Obj)(kvs:List (List Key×V)):It:=⟨λi H=>H a=some (.frz o (.dT kvs))/\i < kvs.length,
 λi H x H'=>∃k v b p,kvs[i]?=some (k,v)/\H b=some (.tup (k.map kV))/\H p=none/\x=.ref p/\H'=upd H p (.tup [.ref b,v]),λi H=>H a=some (.frz o (.dT kvs))/\kvs.length<=i⟩
theorem zxa1{H:Hp}:∀{kvs:List (List Key×V)}{xs:List (List Key×Addr×Value)}{i:Nat}{k:List Key}{v:V},KT H kvs xs->kvs[i]?=some (k,v)->∃b u,xs[i]?=some (k,b,u)/\H b=some (.tup (k.map kV))/\RelV v u:=by
 intro kvs xs i k v h
 induction h generalizing i with
|nil=>intro e;simp at e
|@cons p q ps qs hq t ih =>
  intro e;cases i with
 |zero =>
   simp at e;subst e;obtain⟨q1,q2,q3⟩:=q;obtain⟨h1,h2,h3⟩:=hq;dsimp only at h1 h2 h3;subst h1;exact⟨q2,q3,rfl,h2,h3⟩
 |succ i=>simp at e ⊢;exact ih e
theorem zpo{P:Program}{w:World}{K:Fg}{elts:List Expr}{c:_}{pos:Pos}{a:Addr}{o:Obj}{kvs:List (List Key×V)}(hd:o.data=.dict es ep) :
  Turn P w K (.Tuple elts c pos) (Itd a o kvs) [it] it (λi h=>∃ok ov,IsItemIter h it a i es.size ep ok ov) where
 mem:=by simp
 obj:=λi h S b hb=>by
  obtain⟨ok,ov,he⟩:=S;simp at hb;subst hb;exact⟨_,he,λv q=>by cases q⟩
 keep:=λi h h' S k=>by
  obtain⟨ok,ov,he⟩:=S;exact⟨ok,ov,k _ (by simp) _ he⟩
 item:=by
  intro X hP hw hK hc i pins s Y H E I hf S hg;subst hP hw hK;obtain⟨ok,ov,he⟩:=S;obtain⟨hq,hlt⟩:=hg;obtain⟨ho,hdt⟩:=(show ObjOk X.prog X.w H s.heap a (.frz o (.dT kvs))from I.hok a _ hq)
  obtain⟨z,_,xs,r,o',es',ep',h1,h2,h3,h4,h5⟩:=hdt;rw[ho]at h1;cases h1;rw[hd]at h3;cases h3;have hx:kvs[i]?=some (kvs[i].1,kvs[i].2):=by rw[u8 hlt]
  obtain⟨kb,u,g1,g2,g3⟩:=zxa1 r hx;have hes:i < es.size:=by
   rw[<- xJ,h4,u4];exact(wR.mp g1).1
  have hent:es[i]=entryOfKey (tupleKind (zu2 X.prog X.w)) (kvs[i].1,kb,u):=by
   have e1:es.toList[i]?=some (entryOfKey (tupleKind (zu2 X.prog X.w)) (kvs[i].1,kb,u)):=by rw[h4,wD,g1];rfl
   rw[zA,uaA hes]at e1;exact wV.inj e1
  have ek:es[i].key=.ref kb:=by rw[hent];rfl
  have ev:es[i].val=u:=by rw[hent];rfl
  refine zjj (I.ok.hd hc) he ho hd (λ_ h' ho' ht hk=>?_) λge=>absurd hes (Nat.not_lt.mpr ge);rw[ek,ev]at ho' ht;have iL:it < s.heap.objs.size:=u9 he;have hfr:=I.hok.fresh (u3 s.heap.objs.size);have I1:_2.Inv X pins Y (upd H s.heap.objs.size (.tup [.ref kb,kvs[i].2])) { s with heap:=s.heap.push { cls:=.type "tuple",data:=.seq #[.ref kb,u] },toks:=s.toks } :=
   I.laid (t':=s.toks) (o:=.tup [.ref kb,kvs[i].2]) (λb ob q=>u5 _ q) (u3 _) ⟨by show 2<=sizeLine;rw[sizeLine_eq];decide,[.ref kb,u],.cons rfl (.cons g3 .nil),IsTup.new _ _⟩
  have fi:=hf it (by simp);have fi1:FpOk X pins (upd H s.heap.objs.size (.tup [.ref kb,kvs[i].2])) it:=⟨by rw[zm0 (wN iL)];exact fi.1,fi.2⟩
  have I2:_2.Inv X pins Y (upd H s.heap.objs.size (.tup [.ref kb,kvs[i].2])) { s with heap:=h',toks:=s.toks } :=
   zax (a:=it) (c:=it) (s:={ s with heap:=s.heap.push { cls:=.type "tuple",data:=.seq #[.ref kb,u] },toks:=s.toks }) I1 (λb o nb1 nb2 q=>by
    by_cases z:b=s.heap.objs.size
    ·subst z;have q':(s.heap.push { cls:=.type "tuple",data:=.seq #[.ref kb,u] }).get? s.heap.objs.size=some o:=q;rw[wI _ rfl]at q';cases q';exact ht
    ·exact hk b o nb1 (zfx q z)) fi1 fi1
  refine⟨.ref s.heap.objs.size,rfl,wpAny_letOwnedTupleGo_items ho' λh2' he2 hs2=>?_⟩;exact⟨.ref s.heap.objs.size,_,zw4 (tk:=s.toks) I2 fi1 hs2,rfl,⟨_,_,kb,s.heap.objs.size,hx,g2,hfr,rfl,rfl⟩,⟨_,_,he2⟩,λb hb=>by simp at hb;subst hb;exact fi1.1⟩
 done:=by
  intro X hP hw hK hc i pins s Y H E I hf S hg;subst hP hw hK;obtain⟨ok,ov,he⟩:=S;obtain⟨hq,hge⟩:=hg;obtain⟨ho,hdt⟩:=(show ObjOk X.prog X.w H s.heap a (.frz o (.dT kvs))from I.hok a _ hq)
  obtain⟨z,_,xs,r,o',es',ep',h1,h2,h3,h4,h5⟩:=hdt;rw[ho]at h1;cases h1;rw[hd]at h3;cases h3;have hl:kvs.length=xs.length:=r.length;have hz:es.size=xs.length:=by rw[<- xJ,h4,u4]
  exact zjj (I.ok.hd hc) he ho hd (λlt=>absurd lt (by lia)) λ_ h' eb=>⟨rfl,zqu (tk:=s.toks) I (hf it (by simp)) eb⟩
 self:=λ_ _ _ _ _ S h=>PySem.W.kcp_self S.choose_spec.choose_spec h
section
variable {X:Cx}{elts:List Expr}
noncomputable def zga1(v:V)(H:Hp)(R:It->Hp->Prop):Prop:=∃a kvs,v=.ref a/\H a=some (.dT kvs)/\∀o,R (Itd a o kvs) (upd H a (.frz o (.dT kvs)))
noncomputable def zg81(te:TE):TI:=λY H R=>te Y H λv H1=>zga1 v H1 R
theorem zc11{c:_}{tpos:Pos}{o:Expr}{apos cpos:Pos}(ho:PE X o te)(hbase:attributeBase o "items" X.env (eval o X.env)=eval o X.env:=by rfl)(hline:(apos.endLine == cpos.line)=true:=by rfl) :
  PI X (.Tuple elts c tpos) (.Call (.Attribute o "items" apos) [] [] cpos) (zg81 te):=by
 intro pins s Y H R I h;refine wpAny_Call_method0_late hbase hline (thn (ho pins s Y H _ I h) λv s1 hz=>?_);obtain⟨x,H1,I1,r1,a,kvs,ex,e,q⟩:=hz;subst ex;obtain rfl:v=u7 a:=r1;obtain⟨t1,t2,hm⟩:=ztb1 I1 (.inr ⟨kvs,.inl e⟩);obtain⟨z,_,xs,r,od,es,ep,h1,h2,h3,h4,h5⟩:=(show ObjOk X.prog X.w H1 s1.heap a (.dT kvs)from I1.hok a _ e)
 refine⟨"dict", "dict.items",ğd,ğl,PySem.F.type_dict_items,t1,t2,Calls.callWith_builtin rfl (PySem.evalArgs_none (zuy h1 h2.1 hm ?_))⟩;have aL:a < s1.heap.objs.size:=u9 h1;have ha2:(s1.heap.push { cls:=.type "dict_items",data:=.fields #[.ref a] }).get? a=some od:=u5 _ h1;refine zh01 (d:=a) (es:=es) (ep:=ep) ⟨_,wI _ rfl,rfl,rfl⟩ ha2 h3 ?_;have k2:∀b u,s1.heap.get? b=some u->((s1.heap.push { cls:=.type "dict_items",data:=.fields #[.ref a] }).push { cls:=.type "dict_itemiterator",data:=.fields #[.none,.bool false,.ref a,.int 0 0,.int es.size 0,.int ep 0,.none,.none] }).get? b=some u:=λb u q=>u5 _ (u5 _ q);have I2:=I1.kept (t':=s1.toks) k2;have I3:=zt91 I2 (a:=a) (by rw[e];trivial) e (k2 _ _ h1);refine⟨_,[_],_,_,_,rfl,I3,zpo (es:=es) (ep:=ep) h3,⟨.none,.none,wI _ rfl⟩,λb hb=>?_,q od⟩;simp only[zD]at hb;have hb':s1.heap.objs.size<=b:=by rw[hb];simp[Heap.push]
 exact I1.fpOk hb' (by rw[zm0 (λz=>by rw[z]at hb';exact absurd aL (Nat.not_lt.mpr hb'))];exact I1.hok.fresh hb')
noncomputable def zmf1(te:TE):TE:=λY H Q=>te Y H λv H'=>∃a o u,(∀ob y,H a≠some (.frz ob y))/\H' a=some (.frz o u)/\Q v (upd H' a u)
theorem zk81{e:Expr}(h:PE X e te):PE X e (zmf1 te):=by
 intro pins s Y H Q I q;refine thn (h pins s Y H _ I q) λv s1 hz=>?_;obtain⟨x,H1,I1,r1,a,o,u,e2,e3,q1⟩:=hz;exact⟨x,_,thaw I1 e3 λob y z=>e2 ob y (I.base.frzs a ob y z),r1,q1⟩
end
end _3
namespace _4
open PySem PySem.Spec PyProof.Rows _2 _3
section
variable {K:Fg}{ta:TE}{dp:DP}
noncomputable def kD:Key->D
|.inl i=>.int i
|.inr x=>.str x
theorem zrp{F:Hp}:∀(k:List Key),IsAll K F (k.map kV) (k.map kD)
|[]=>.nil
|.inl i :: r=>.cons (.int i) (zrp r)
|.inr x :: r=>.cons (.str x) (zrp r)
theorem KvIs.at{κ:Type}{F:Hp}:∀{r:List (κ×V)}{t:List (κ×D)}{i:Nat}{k:κ}{v:V},KvIs K F r t->r[i]?=some (k,v)->∃d,t[i]?=some (k,d)/\Is K F v d:=by
 intro r t i k v h
 induction h generalizing i with
|nil=>intro e;simp at e
|cons h1 h2 ih =>
  intro e;cases i with
 |zero=>simp at e;obtain⟨rfl,rfl⟩:=e;exact⟨_,rfl,h1⟩
 |succ i=>simp at e ⊢;exact ih e
noncomputable def plD(kvs:List (List Key×D)):List D:=kvs.map λkv=>.tuple (kv.1.map kD++[kv.2])
noncomputable def zvs(u:T)(Q:List D->Prop):Prop:=match u with
|.dt kvs=>kvs.length<=1000/\(∀kv∈kvs,kv.1≠[]/\kv.1.length<=1000)/\Q (plD kvs)
|_=>False
noncomputable def zov(dp:DP):DF:=λU Q=>dp U λ_ _ u=>zvs u Q
theorem zou(hp:RfP K ta dp):RfF K (zmf1 (zc81 (zg81 ta) 2 [] (gTup K 2 (zv81 (zih 0) (zv81 (zih 1) gNil))) zm81 (tOp (zct K) (tVar 0) (zb91 (zw2 (tVar 1) tNil))))) (zov dp):=by
 intro F H Y U Qd Q s rv h k;refine hp s rv h λi p u hu v F1 H1 e1 at1=>?_;obtain⟨fn,hr⟩:=at1.rt (rv.ext e1);cases hr with
|fz _=>exact hu.elim
|li _ _ _=>exact hu.elim
|ls _ _ _=>exact hu.elim
|ob _ _ _ _ _=>exact hu.elim
|tp _ _ _=>exact hu.elim
|dk _ _ _=>exact hu.elim
|@dt a kvs' kvs h1 h2 h3 =>
  obtain⟨hz,hks,hQ⟩:=hu;have hlen:=h3.len;refine⟨a,kvs',rfl,h1,λo D hD=>?_⟩;have nDa:D≠a:=λz=>by subst z;rw[zj0]at hD;cases hD
  have hD1:H1 D=none:=by rw[zm0 nDa]at hD;exact hD
  have F1D:F1 D=none:=by
   cases q:F1 D with
  |none=>rfl
  |some o=>rw[e1.fh D o q]at hD1;cases hD1
  refine⟨λi m acc Y' H'=>m=kvs.length - i/\i<=kvs.length/\Y'.length=2/\∃F':Hp,Ext F1 H1 F' (upd H' a (.dT kvs'))/\H' a=some (.frz o (.dT kvs'))/\F' D=none/\H' D=some (.lst acc)/\acc.length=i/\IsAll K F' acc (plD (kvs.take i)),⟨kvs.length,rfl,wW _,by simp[compY],F1,?_,by rw[zm0 (Ne.symm nDa),zj0],F1D,zj0,rfl,.nil⟩,?_⟩
  ·refine⟨λb ob hb=>?_,λ_ _ z=>z,λb ob hb=>?_,λ_ _ z=>z⟩
   ·by_cases ba:b=a
    ·subst ba;rw[zj0,<- h1];exact hb
    ·have bD:b≠D:=λz=>by subst z;rw[hD1]at hb;cases hb
     rw[zm0 ba,zm0 bD,zm0 ba];exact hb
   ·have ba:b≠a:=λz=>by subst z;rw[h2]at hb;cases hb
    have bD:b≠D:=λz=>by subst z;rw[F1D]at hb;cases hb
    rw[zm0 ba,zm0 bD,zm0 ba];exact e1.fh b ob hb
  rintro i m acc Y' H' ⟨rfl,hi',hl,F',ex,ha,fD,hDD,hacc,hall⟩;have fa:F' a=none:=ex.nw a (by rw[h1];simp) h2;have fh':Same F' H':=λb ob hb=>by
   have ba:b≠a:=λz=>by subst z;rw[fa]at hb;cases hb
   have:=ex.fh b ob hb;rw[zm0 ba]at this;exact this
  by_cases hlt:i < kvs.length
  ·refine .inr ⟨⟨ha,by lia⟩,λacc' Y2 H2=>i+1<=kvs.length/\Y2.length=2/\∃F':Hp,Ext F1 H1 F' (upd H2 a (.dT kvs'))/\H2 a=some (.frz o (.dT kvs'))/\F' D=none/\H2 D=some (.lst acc')/\acc'.length=i+1/\IsAll K F' acc' (plD (kvs.take (i+1))),λacc' Y2 H2 q=>⟨kvs.length - (i+1),by lia,rfl,q⟩,λx H2 y=>?_⟩;obtain⟨ky,v,b,p,g1,g2,g3,rfl,rfl⟩:=y;obtain⟨d,g4,g5⟩:=h3.at g1;obtain⟨kn,kz⟩:=hks _ (wT g4);have pb:b≠p:=λz=>by subst z;rw[g3]at g2;cases g2
   have pD:D≠p:=λz=>by subst z;rw[g3]at hDD;cases hDD
   have pa:a≠p:=λz=>by subst z;rw[g3]at ha;cases ha
   refine⟨p,[.ref b,v],rfl,SqT.of (H:=upd H' p (.tup [.ref b,v])) zj0,rfl,.ref b,[v],rfl,v,[],rfl,rfl,?_⟩;dsimp only[zm81];rw[if_pos rfl];obtain⟨s0,s1,rfl⟩:∃s0 s1,Y'=[s0,s1]:=by
    match Y',hl with
   |[s0,s1],_=>exact⟨s0,s1,rfl⟩
   refine⟨.ref b,rfl,v,rfl,by rw[sizeLine_eq];simp,λq hq=>?_⟩;have qp:q≠p:=λz=>by subst z;rw[zj0]at hq;cases hq
   have hq':H' q=none:=by rw[zm0 qp]at hq;exact hq
   have qb:b≠q:=λz=>by subst z;rw[hq']at g2;cases g2
   refine .inl (.inr (.inr (.inr ⟨b,q,ky.map kV,[v],rfl,rfl,SqT.of (by rw[zm0 qb,zm0 pb];exact g2),SqT.of zj0,?_,?_,λz=>(by cases z),λ_ l hl'=>?_⟩)))
   ·intro z;exact kn (List.map_eq_nil_iff.mp z)
   ·rw[u4,sizeLine_eq];simp;dsimp only at kz;lia
   have lq:l≠q:=λz=>by subst z;rw[zj0]at hl';cases hl'
   have lp:l≠p:=λz=>by subst z;rw[zm0 lq,zj0]at hl';cases hl'
   have hl0:H' l=none:=by rw[zm0 lq,zm0 lp]at hl';exact hl'
   have old:∀c ob,H' c=some ob->c≠p/\c≠q/\c≠l:=λc ob hc=>⟨(λz=>by subst z;rw[g3]at hc;cases hc),(λz=>by subst z;rw[hq']at hc;cases hc),(λz=>by subst z;rw[hl0]at hc;cases hc)⟩
   have kp:∀c ob,H' c=some ob->upd (upd (upd H' p (.tup [.ref b,v])) q (.tup [v])) l (.tup (ky.map kV++[v])) c=some ob:=λc ob hc=>by
    obtain⟨c1,c2,c3⟩:=old c ob hc;rw[zm0 c3,zm0 c2,zm0 c1];exact hc
   have lD:l≠D:=Ne.symm (old D _ hDD).2.2;have la:l≠a:=Ne.symm (old a _ ha).2.2;have s3:Same F' (upd (upd H' p (.tup [.ref b,v])) q (.tup [v])):=λc ob hc=>by
    obtain⟨c1,c2,c3⟩:=old c ob (fh' c ob hc);rw[zm0 c2,zm0 c1];exact fh' c ob hc
   obtain⟨ex4,is4⟩:=zjg (K:=K) (ds:=ky.map kD++[d]) s3 hl' ((zrp ky).dapp (.cons (g5.mono ex.f) .nil));have F'l:F' l=none:=by
    cases z:F' l with
   |none=>rfl
   |some ob=>rw[fh' l ob z]at hl0;cases hl0
   refine⟨kp D _ hDD,by rw[hacc,sizeLine_eq];lia,hlt,by simp,upd F' l (.tup (ky.map kV++[v])),⟨λc ob hc=>?_,ex.f.trans ex4.f,λc ob hc=>?_,λc hc fc=>?_⟩,?_,?_,zj0,by simp[hacc],?_⟩
   ·by_cases ca:c=a
    ·subst ca;rw[zj0,<- h1];exact hc
    ·have:=ex.h c ob hc;rw[zm0 ca]at this;have cD:c≠D:=λz=>by subst z;rw[hD1]at hc;cases hc
     rw[zm0 ca,zm0 cD];exact kp c ob this
   ·by_cases cl:c=l
    ·subst cl;rw[zj0]at hc;cases hc;rw[zm0 la,zm0 lD,zj0]
    ·rw[zm0 cl]at hc;have ca:c≠a:=λz=>by subst z;rw[fa]at hc;cases hc
     have cD:c≠D:=λz=>by subst z;rw[fD]at hc;cases hc
     rw[zm0 ca,zm0 cD];exact kp c ob (fh' c ob hc)
   ·have cl:c≠l:=λz=>by
     subst z;cases q1:H1 c with
    |none=>exact hc q1
    |some ob =>
      have:=ex.h c ob q1;rw[zm0 la,hl0]at this;cases this
    rw[zm0 cl];exact ex.nw c hc fc
   ·rw[zm0 (Ne.symm nDa)];exact kp a _ ha
   ·rw[zm0 (Ne.symm lD)];exact fD
   ·have et:plD (kvs.take (i+1))=plD (kvs.take i)++[.tuple (ky.map kD++[d])]:=by
     unfold plD;rw[List.take_succ,g4,yF];rfl
    rw[et];exact(hall.mono ex4.f).dapp (.cons is4 .nil)
  ·have ei:i=kvs.length:=by lia
   refine .inl ⟨⟨ha,by lia⟩,a,o,_,λob y z=>?_,ha,k _ hQ D acc F' _ (e1.trans ex) (zo1 e1 hD1) (by rw[zm0 nDa];exact hDD) fD (by rw[ei,zH]at hall;exact hall)⟩;rw[e1.h a _ z]at h1;cases h1
theorem zug(dp:DP)(U:DSt)(Q:List D->Prop):zov dp U Q=(dp U λ_ _ u=>zvs u Q):=rfl
theorem zyg(kvs:List (List Key×D))(Q:List D->Prop):zvs (.dt kvs) Q=(kvs.length<=1000/\(∀kv∈kvs,kv.1≠[]/\kv.1.length<=1000)/\Q (plD kvs)):=rfl
end
end _4
namespace _3
open PySem PySem.Spec PyProof.Rows _2
variable {vs:List Value}
section
variable {s:Shared}{w:World}{prog:Program}{E:Value->Shared->Prop}{A:Around}
theorem zjz{a:Addr}{n:Nat}{P:Fin->Shared->Prop}(go:s.heap.get? a=some (seqObj "list" vs.toArray n))(few:vs.toArray.size < 2)
  (h:P (.done (.ret .none)) { s with heap:=sortedHeap s.heap a vs ((vs.toArray.zip vs.toArray).map (·.2)) }):wpAny (model prog w) A (Builtin.«list.sort» ⟨[.ref a],[]⟩) P E s:=by
 have al:a < s.heap.objs.size:=u9 go;obtain⟨e1,g1⟩:∃e1,(s.heap.update a (Obj.mapSeq λ_=>#[])).get? a=some (seqObj "list" #[] e1):=⟨_,get?_update_seq go λ_=>#[]⟩
 rw[list_sort_plain];refine wpAny_bind (listItems_at go rfl (wpAny_bind (listUpdate_at go rfl (wpAny_bind (seqEpoch_at g1 rfl (wpAny_bind (wpAny_newTuple (wpAny_bind (wpAny_newList (wpAny_holding ?_))))))))));have g6:(((s.heap.update a (Obj.mapSeq λ_=>#[])).push (seqObj "tuple" vs.toArray 0)).push (seqObj "list" #[] 0)).get? a=some (seqObj "list" #[] e1):=u5 _ (u5 _ g1);refine(show wpAny (model prog w) A _ P E { s with heap:=((s.heap.update a (Obj.mapSeq λ_=>#[])).push (seqObj "tuple" vs.toArray 0)).push (seqObj "list" #[] 0) }from ?_);dsimp only;rw[if_pos few,if_pos few];refine wpAny_bind (wpAny_pure ?_);rw[StateT.run_pure];refine wpAny_bind (wpAny_pure ?_);dsimp only;refine wpAny_bind (seqEpoch_at g6 rfl (wpAny_bind (listUpdate_at (hsz2:=?_) g6 rfl ?_)))
 ·rw[if_neg (by simp)];exact wpAny_pure h
 ·have z2:(arrOf (SortSt.mk' general' (vs.toArray.zip vs.toArray) #[] 7 none))=vs.toArray.zip vs.toArray:=rfl;rw[z2];have:((vs.toArray.zip vs.toArray).map λx=>x.2).size<=2:=by simp;simp at few;lia
  refine wP this ?_;rw[sizeLine_eq];lia
theorem zes{l:Addr}{Q:Value->Shared->Prop}(gl:s.heap.IsList l vs.toArray)(few:vs.toArray.size < 2)
  (h:Q (.ref (s.heap.objs.size+1)) { s with heap:=sortedAll s.heap vs ((vs.toArray.zip vs.toArray).map (·.2)) }):wpAny (model prog w) A (call (.builtin "sorted") [.ref l]) Q E s:=by
 refine Calls.call_function_entry kind_sorted plain_sorted entry_sorted (args_sorted1 _) ?_;unfold Builtin.«sorted»;have z:((s.heap.push (seqObj "list" #[] 0)).update s.heap.objs.size (Obj.mapSeq (·++vs.toArray))).objs.size=s.heap.objs.size+1:=by rw[Heap.size_update,size_push']
 have g:(((s.heap.push (seqObj "list" #[] 0)).update s.heap.objs.size (Obj.mapSeq (·++vs.toArray))).push (seqObj "list" vs.toArray 0)).get? (s.heap.objs.size+1)=some (seqObj "list" vs.toArray 0):=by
  rw[<- z];exact wI _ rfl
 refine wpAny_bind (m:=checkCount "sorted" 1 1 _) (wpAny_pure (wpAny_bind (collect_list gl ?_)));refine wpAny_bind (wpAny_newList (show wpAny _ _ _ _ _ { s with heap:=((s.heap.push (seqObj "list" #[] 0)).update s.heap.objs.size (Obj.mapSeq (·++vs.toArray))).push (seqObj "list" vs.toArray 0) }from ?_));rw[z];refine wpAny_bind (wpAny_holding (wpAny_call_entry slot_list_sort ⟨_,g,rfl⟩ entry_list_sort (zjz g few ⟨_,rfl,?_⟩) (args_list_sort _)));exact wpAny_pure ⟨_,rfl,h⟩
end
variable {kvs:List (List Key×V)}{xs:List (List Key×Addr×Value)}
section
variable {s:Shared}{w:World}{prog:Program}{E:Value->Shared->Prop}{A:Around}{Ky:Type}[DecidableEq Ky]{knd:HeapKind prog w Ky}
theorem ze21{d b:Addr}{od:Obj}{es:Array DictEntry}{ep:Nat}{xs:List (Ky×Addr×Value)}{k:Ky}{x:Value}{Q:Value->Shared->Prop}(ru:knd.room A.in1)(hk:knd.is s.heap k b)(gs:(d == sysModules)=false)
  (go:s.heap.get? d=some od) (gx:od.ExactDict) (gd:od.data=.dict es ep) (ge:es.toList=xs.map (entryOfKey knd)) (gi:∀x∈xs,knd.is s.heap x.1 x.2.1) (gn:(xs.map (·.1)).Nodup) (gz:xs.length<=sizeLine)
  (q1:∀(j:Nat)(p:Addr×Value),xs[j]?=some (k,p)->∀t,Q p.2 { s with heap:=s.heap.update d (Obj.mapDictKeys (·.eraseIdxIfInBounds j)),toks:=t })
  (q2:(∀(j:Nat)(p:Addr×Value),xs[j]?≠some (k,p))->∀t,Q x { s with toks:=t }):wpAny (model prog w) A (call (.builtin "dict.pop") [.ref d,.ref b,x]) Q E s:=by
 have ty:s.TypeIs (.ref d) "dict":=⟨od,go,gx.1⟩
 have sz:es.size=xs.length:=size_of_entries ge;refine wpAny_call_entry ğo ty PySem.F.entry_dict_pop ?_ (PySem.F.args_dict_pop_3 _ _ _);unfold Builtin.«dict.pop» Builtin.Dict.keyAndDefault;refine wpAny_bind (wpAny_bind (wpAny_notOrdered_dict ty (show wpAny _ _ (pure (d,u7 b,some x)) _ _ _ from wpAny_pure ?_)));have np:(keyPart (u7 b)).isSome=false:=rfl;simp only[np,xV,if_false];refine wpAny_bind (wpAny_dictEntries go gd (wpAny_bind (wpAny_pure ?_)));by_cases em:es.isEmpty=true
 ·rw[if_pos em];have xe:xs=[]:=by
   have:es.size=0:=by simpa using em
   exact zX.mp (by lia)
  refine wpAny_bind (wpAny_rule (wpAny_bind (wpAny_pure ?_)));rw[if_pos uaC];exact wpAny_bind (wpAny_missedRemoval_other gs (wpAny_bind (wpAny_rule (wpAny_pure ⟨x,rfl,q2 (by rw[xe];intro j p;simp) s.toks⟩))))
 ·rw[if_neg em];unfold Builtin.Dict.takeOut;refine wpAny_bind (wpAny_holding (wpAny_bind (knd.pyHash ru hk (wpAny_bind (wpAny_dictFind_heap (s:={ s with toks:=s.toks+knd.draws k }) ru hk go gd ge gi gn (λno=>wpAny_pure ?_) λj p hj=>?_)))))
  ·rw[if_pos uaC];exact wpAny_bind (wpAny_missedRemoval_other gs (wpAny_bind (wpAny_rule (wpAny_pure ⟨x,rfl,q2 no _⟩))))
  ·refine wpAny_bind (wpAny_dictEntries (s:={ s with toks:=s.toks+knd.draws k }) go gd ?_);rw[entry_at ge j,hj];refine wpAny_bind (wpAny_updateDictKeys (hz:=by lia) (hf:=by rw[uaD];split <;> simp <;> lia) (s:={ s with toks:=s.toks+knd.draws k }) go gd (wpAny_pure ?_));rw[if_neg (by simp)];exact wpAny_bind (wpAny_letGo (wpAny_pure ⟨p.2,rfl,q1 j p hj _⟩))
end
theorem znh{α β:Type}(f:α->β):∀(l:List α)(j:Nat),(l.map f).eraseIdx j=(l.eraseIdx j).map f
|[],_=>rfl
|_ :: _,0=>rfl
|x :: r,j+1=>by rw[wM,zZ,zZ,wM,znh f r j]
theorem ze71{H:Hp}{k:List Key}(r:KT H kvs xs)(h:∀(j:Nat)(p:Addr×Value),xs[j]?≠some (k,p)):valV kvs k=none:=by
 have:=r.val k;rw[atKey_none_of_get h]at this;cases e:valV kvs k with
|none=>rfl
|some v=>rw[e]at this;exact this.elim
theorem zr51{H:Hp}{k:List Key}{j:Nat}{p:Addr×Value}(r:KT H kvs xs)(hn:(xs.map (·.1)).Nodup)(h:xs[j]?=some (k,p)):∃v,valV kvs k=some v/\RelV v p.2:=by
 have:=r.val k;rw[atKey_of_get hn h]at this;cases e:valV kvs k with
|none=>rw[e]at this;exact this.elim
|some v=>rw[e]at this;exact⟨v,rfl,this⟩
theorem zv21{H:Hp}{k:List Key}:∀{kvs:List (List Key×V)}{xs:List (List Key×Addr×Value)}{j:Nat}{p:Addr×Value},KT H kvs xs->(xs.map (·.1)).Nodup->xs[j]?=some (k,p)->KT H (zqj kvs k) (xs.eraseIdx j):=by
 intro kvs xs j p r
 induction r generalizing j with
|nil=>intro _ h;simp at h
|@cons a b as bs hq t ih =>
  intro hn h;rw[wM]at hn;have hn':=wG.mp hn;unfold zqj at ih ⊢;cases j with
 |zero =>
   simp at h;subst h;have e1:a.1=k:=hq.1;rw[yG (by simp[e1]),List.eraseIdx_zero,List.tail_cons];have all:∀{l:List (List Key×V)}{m:List (List Key×Addr×Value)},KT H l m->k ∉ m.map (·.1)->l.filter (λkv=>decide (kv.1≠k))=l:=by
    intro l m q
    induction q with
   |nil=>intro _;rfl
   |cons hq' t' ih' =>
     intro nk;simp at nk;rw[xW (by simp;rw[hq'.1];exact λz=>nk.1 z.symm),ih' (by simpa using nk.2)]
   rw[all t hn'.1];exact t
 |succ j =>
   simp at h;have ne:a.1≠k:=λz=>by
    have:b.1∈bs.map (·.1):=by
     rw[<- hq.1,z];exact List.mem_map_of_mem (f:=(·.1)) (wT h)
    exact hn'.1 this
   rw[xW (by simp[ne]),zZ];exact .cons hq (ih hn'.2 h)
noncomputable def zle1:V->List V->Hp->VK->Prop:=λx vs H Q=>∃a b kvs k z,x=.ref a/\vs=[.ref b,z]/\H a=some (.dT kvs)/\H b=some (.tup (k.map kV))/\(∀v,valV kvs k=some v->Q v (upd H a (.dT (zqj kvs k))))/\(valV kvs k=none->Q z H)
theorem zy61{X:Cx}(hu:X.A.units+64 < cLine):MtM X "dict.pop" zle1:=by
 intro pins s Y H x xs v us Q I rx rv h;obtain⟨a,b,kvs,k,z,rfl,rfl,e,eb,q1,q2⟩:=h;obtain⟨u,r,rfl,ru,rr⟩:=zl61 rv;obtain rfl:v=u7 a:=rx;cases (show u=u7 b from ru);obtain⟨hz,hd,ys,rel,o,es,ep,h1,h2,h3,h4,h5,h6⟩:=zdf1 I.hok e;have hl:ys.length<=sizeLine:=by rw[<- Paired.length rel];exact hz
 refine ze21 (tupleKind_room_in1 (by lia)) (ztn I.hok eb) hd h1 h2 h3 h4 h5 h6 hl (λj p hj t=>?_) λno t=>⟨z,H,I.kept (t':=t) λ_ _ q=>q,rr,q2 (ze71 rel no)⟩
 obtain⟨v,hv,rv'⟩:=zr51 rel h6 hj;have sb:Heap.SameBut a s.heap (s.heap.update a (Obj.mapDictKeys (·.eraseIdxIfInBounds j))):=Heap.SameBut.update ..;have gq:=zS (Obj.mapDictKeys (·.eraseIdxIfInBounds j)) h1 (Obj.isFreed_of_dict (Obj.data_mapDictKeys h3 _));refine⟨v,upd H a (.dT (zqj kvs k)),zkq (t':=t) (ob:=.dT (zqj kvs k)) I (by rw[e];exact True.intro) sb ⟨_,gq⟩ ⟨wP (zoy kvs k) hz,hd,ys.eraseIdx j,(zv21 rel h6 hj).keeps λc zs ec=>?_,_,_,ep+1,gq,h2.mapDictKeys _,Obj.data_mapDictKeys h3 _,?_,?_⟩,rv',q1 v hv⟩
 ·rw[zm0 (zs91 ec e (λz=>nomatch z))];exact ec
 ·have jl:j < es.size:=by rw[size_of_entries h4];exact(wR.mp hj).1
  rw[uaD,dif_pos jl,Array.toList_eraseIdx,h4,znh]
 ·rw[<- znh];exact List.Nodup.sublist (List.eraseIdx_sublist _ _) h6
end _3
namespace _4
open PySem PySem.Spec PyProof.Rows _2 _3
section
variable {K:Fg}{ta tb ti tk tx:TE}{dp dq:DP}{dk dy dz:DE}
noncomputable def zgb{κ:Type}[DecidableEq κ](kvs:List (κ×D))(k:κ):List (κ×D):=kvs.filter λkv=>decide (kv.1≠k)
theorem KvIs.drop{κ:Type}[DecidableEq κ]{F:Hp}{k:κ}:∀{r:List (κ×V)}{s:List (κ×D)},KvIs K F r s->KvIs K F (zqj r k) (zgb s k)
|_,_,.nil=>.nil
|_,_,.cons (k:=k') (r:=r) (s:=s) h t=>by
  unfold zqj zgb;by_cases e:k'=k
  ·rw[yG (by simp[e]),yG (by simp[e])];exact t.drop
  ·rw[xW (by simp[e]),xW (by simp[e])];exact .cons h t.drop
noncomputable def zjb1(u:T)(y z:D)(N:D->T->Prop):Prop:=match u with
|.dt kvs=>∃key,keyT y=some key/\N ((getA kvs key).getD z) (.dt (zgb kvs key))
|_=>False
noncomputable def sepP(i:Nat)(p:Pth)(j:Nat)(q:Pth):Prop:=j=i/\∃g h,p=[.fl g]/\q=[.fl h]/\g≠h
noncomputable def zkm(f:Int->Int->Int)(dp:DP)(dk:DE)(dq:DP)(dy dz:DE):DS:=λE U=>dp U λi p u=>dk U λk=>fGet u k λx=>dq U λj q t=>tyN "dict" t/\dy U λy=>dz U λz=>zjb1 t y z λc t2 =>
 fII f x c λn=>fPut u k n λu2=>sepP i p j q/\mutS U j q t2 λU1=>mutS U1 i p u2 E.nx
theorem zfc{f g:Str}{u:T}(n:g≠f):∀(ts:List (Str×T)),(putA f u ts).lookup g=ts.lookup g
|[]=>by
  have hb:(g == f)=false:=beq_eq_false_iff_ne.mpr n;show w6 g [(f,u)]=_;simp[w6,hb]
|(h,t) :: r=>by
  have hb:(g == f)=false:=beq_eq_false_iff_ne.mpr n;by_cases e:h=f
  ·subst e;rw[show putA h u ((h,t) :: r)=(h,u) :: r from if_pos rfl];simp[w6,hb]
  ·rw[show putA f u ((h,t) :: r)=(h,t) :: putA f u r from if_neg e];simp only[w6];rw[zfc n r]
theorem zqd1{H:Hp}{x v:V}{t u:T}{g:Str}(h:At H x t [.fl g] v u):∃a C dx fs ts,x=.ref a/\t=.ob C ts/\H a=some (.ins C dx fs)/\fs.lookup g=some v/\ts.lookup g=some u:=by
 cases h with
|fl h1 h2 h3 h4 =>
  cases h4;exact⟨_,_,_,_,_,rfl,rfl,h1,h2,h3⟩
theorem zuu{u:T}{k d:D}{N M:T->Prop}(h:fPut u k d N)(m:∀u2,N u2->M u2):fPut u k d M:=by
 unfold fPut at h ⊢;split at h
 ·split at h
  ·obtain⟨j,e,n⟩:=h;exact⟨j,e,m _ n⟩
  ·exact h.elim
 ·obtain⟨key,e,l,n⟩:=h;exact⟨key,e,l,m _ n⟩
 ·obtain⟨key,e,l,n⟩:=h;exact⟨key,e,l,m _ n⟩
 ·exact h.elim
theorem zgx{u:T}{k d:D}{N:T->Prop}(h:fPut u k d N):∃u2,N u2:=by
 unfold fPut at h;split at h
 ·split at h
  ·obtain⟨j,e,n⟩:=h;exact⟨_,n⟩
  ·exact h.elim
 ·obtain⟨key,e,l,n⟩:=h;exact⟨_,n⟩
 ·obtain⟨key,e,l,n⟩:=h;exact⟨_,n⟩
 ·exact h.elim
theorem zrq{κ:Type}[DecidableEq κ]{k:κ}:∀{r:List (κ×V)},valV r k=none->zqj r k=r:=by
 intro r h;unfold zqj;rw[List.filter_eq_self];intro x hx;unfold valV at h;have:=List.find?_eq_none.mp (Option.map_eq_none_iff.mp h) x hx
 simpa using this
theorem zku{f:Int->Int->Int}(hp:RfP K ta dp)(hk:RfE K ti dk)(hq:RfP K tb dq)(hy:RfE K tk dy)(hz:RfE K tx dz) :
  RfS K (zi91 ta ti (tBMU K "dict" zle1 tb (zw2 tk (zw2 tx tNil))) (zq81 K) (ipI f) zev) (zkm f dp dk dq dy dz):=by
 intro B F H Y U fps E Z r h k;refine hp r.fh r.rv h λi p u hu v F1 H1 e1 at1=>?_;have r1:=r.grow e1;refine hk r1.fh r1.rv hu λkd hkd kv F2 H2 e2 i2=>?_;have r2:=r1.grow e2;have at2:=at1.mono e2.h;obtain⟨fn,hr⟩:=at2.rt r2.rv;refine zn61 r2.fh hr i2 hkd λx xv hx ix=>hq r2.fh r2.rv hx λj q t ht w F3 H3 e3 at3=>?_;have r3:=r2.grow e3;obtain⟨fn3,hr3⟩:=at3.rt r3.rv;refine⟨zc61 hr3 ht.1,hy r3.fh r3.rv ht.2 λyd hyd yv F4 H4 e4 i4=>hz (r3.grow e4).fh (r3.grow e4).rv hyd λzd hzd zv F5 H5 e5 i5=>?_⟩;have e35:=e3.trans (e4.trans e5);have r5:RS K B F5 H5 Y U fps:=(r3.grow e4).grow e5;have at5:=at3.mono (e4.h.trans e5.h);have at25:=at2.mono e35.h;obtain⟨fn5,hr5⟩:=at5.rt r5.rv;cases hr5 with
|dt g1 g2 g3 =>
  rename_i b kvs ds
  obtain⟨key,ek,hN⟩:=hzd;obtain⟨kb,rfl,hb⟩:=znm (i4.mono e5.f) ek;have put:∀(nv:V)(nd:D),Is K F5 nv nd->(fPut u kd nd λu2=>sepP i p j q/\mutS U j q (.dt (zgb ds key)) λU1=>mutS U1 i p u2 E.nx) ->
    zev v kv nv (upd H5 b (.dT (zqj kvs key))) λH8=>Z.nx Y H8:=by
   intro nv nd inv hf;obtain⟨_,⟨rfl,g,h',rfl,rfl,ne⟩,_⟩:=zgx hf;have one:∀U1,(∀N:DSt->Prop,mutS U j [.fl h'] (.dt (zgb ds key)) N=N U1)->(∃s,U1[j]?=some s/\s.tree=(match U[j]? with
    |some s=>s.tree.map λt=>setP t [.fl h'] (.dt (zgb ds key))
    |none=>none))->zev v kv nv (upd H5 b (.dT (zqj kvs key))) λH8=>Z.nx Y H8:=by
    intro U1 em es;obtain⟨U2,fps2,r6,n6,_⟩:=r5.one (o2:=.dT (zqj kvs key)) (N:=λU'=>U'=U1) at5 (u2:=.dt (zgb ds key)) (by rw[em]) g1 (λfn' hr'=>by cases hr';rfl) (λfa=>.dt zj0 fa g3.drop);subst n6;obtain⟨s0,t0,x0,a1,a2,a3,a4⟩:=at25;obtain⟨s5,t5,x5,b1,b2,b3,b4⟩:=at5;rw[a1]at b1;cases b1;rw[a2]at b2;cases b2;rw[a3]at b3;cases b3;obtain⟨aa,C,dx,fs,ts,rfl,rfl,c1,c2,c3⟩:=zqd1 a4;obtain⟨_,_,_,_,_,z1,z2,d1,d2,d3⟩:=zqd1 b4;cases z1;cases z2;rw[c1]at d1;cases d1;obtain⟨s6,es1,es2⟩:=es;rw[a1]at es2;simp only[a2,Option.map_some]at es2;have et:setP (.ob C ts) [.fl h'] (.dt (zgb ds key))=.ob C (putA h' (.dt (zgb ds key)) ts):=by
     simp only[setP,d3]
    have at6:AtS (upd H5 b (.dT (zqj kvs key))) Y U2 j [.fl g] v u:=⟨s6,_,_,es1,es2,a3,by
     rw[et];exact .fl (by rw[zm0 (zs91 c1 g1 (λz=>nomatch z))];exact c1) c2 (by rw[zfc ne];exact c3) .nil⟩
    exact zrx r6 at6 (i2.mono e35.f) inv (zuu hf λu2 hu2=>by have:=hu2.2;rw[em]at this;exact this) λU3 fps3 H8 r8 n8=>k.nx r8 n8
   obtain⟨s0,t0,x0,a1,a2,a3,a4⟩:=at5;have hl:j < U.length:=(wR.mp a1).1;obtain⟨u2,_,hm⟩:=zgx hf;cases s0 with
  |ow t1=>exact one (U.set j (.ow (setP t1 [.fl h'] (.dt (zgb ds key))))) (λN=>by simp only[mutS,a1]) ⟨_,xI hl,by rw[a1];rfl⟩
  |io a' t1=>exact one (U.set j (.io a' (setP t1 [.fl h'] (.dt (zgb ds key))))) (λN=>by simp only[mutS,a1]) ⟨_,xI hl,by rw[a1];rfl⟩
  |un=>simp only[mutS,a1]at hm
  |sh d=>simp only[mutS,a1]at hm
  |bo t1=>simp only[mutS,a1]at hm
  have go:∀(cv:V)(c:D),Is K F5 cv c->(fII f x c λn=>fPut u kd n λu2=>sepP i p j q/\mutS U j q (.dt (zgb ds key)) λU1=>mutS U1 i p u2 E.nx) ->
    (ipI f) xv cv (upd H5 b (.dT (zqj kvs key))) λz H7=>zev v kv z H7 λH8=>Z.nx Y H8:=by
   intro cv c ic hf;unfold fII at hf;split at hf
   ·cases ix.int_inv;cases ic.int_inv;exact⟨_,_,rfl,rfl,put _ _ (.int _) hf⟩
   ·exact hf.elim
  refine⟨b,kb,kvs,key,zv,rfl,rfl,g1,r5.fh _ _ hb,λcv hcv=>?_,λhno=>?_⟩
  ·rcases g3.get (k:=key)with⟨q1,q2⟩|⟨d',y',q1,q2,q3⟩
   ·rw[q2]at hcv;cases hcv
   ·rw[q2]at hcv;cases hcv;rw[q1]at hN;exact go _ _ q3 hN
  ·rcases g3.get (k:=key)with⟨q1,q2⟩|⟨d',y',q1,q2,q3⟩
   ·rw[q1]at hN;have:=go _ _ i5 hN;rw[zrq q2]at this;have eH:upd H5 b (.dT kvs)=H5:=by
     funext c;by_cases z:c=b
     ·subst z;rw[zj0,g1]
     ·rw[zm0 z]
    rw[eH]at this;exact this
   ·rw[q2]at hno;cases hno
|fz _=>exact hzd.elim
|li _ _ _=>exact hzd.elim
|ls _ _ _=>exact hzd.elim
|ob _ _ _ _ _=>exact hzd.elim
|tp _ _ _=>exact hzd.elim
|dk _ _ _=>exact hzd.elim
theorem zhh(f:Int->Int->Int)(dp:DP)(dk:DE)(dq:DP)(dy dz:DE)(E:DEnds)(U:DSt):zkm f dp dk dq dy dz E U=(dp U λi p u=>dk U λk=>fGet u k λx=>dq U λj q t=>tyN "dict" t/\dy U λy=>dz U λz=>zjb1 t y z λc t2 =>
 fII f x c λn=>fPut u k n λu2=>sepP i p j q/\mutS U j q t2 λU1=>mutS U1 i p u2 E.nx):=rfl
theorem zor(kvs:List (List Key×D))(y z:D)(N:D->T->Prop):zjb1 (.dt kvs) y z N=∃key,keyT y=some key/\N ((getA kvs key).getD z) (.dt (zgb kvs key)):=rfl
end
end _4
namespace _5
noncomputable def xr(s:Nat):Nat:=if s % 2=0 then s+1 else s - 1
noncomputable def hd(E:List Nat)(s:Nat):Nat:=E.getD s 0
noncomputable def tl(E:List Nat)(s:Nat):Nat:=hd E (xr s)
noncomputable def lf(L:List Int)(s:Nat):Int:=L.getD s 0
open PySem PySem.Spec PyProof.Rows _2 _3 _4
noncomputable def sm(m:Nat)(g:Nat->Int):Int:=((w9 m).map g).sum
theorem zig(m:Nat)(g:Nat->Int):sm (m+1) g=sm m g+g m:=by
 unfold sm;rw[List.range_succ,yF,List.sum_append];simp
theorem zya{m:Nat}{g h:Nat->Int}(e:∀k,k < m->g k=h k):sm m g=sm m h:=by
 unfold sm;rw[yP λk hk=>e k (x9.mp hk)]
theorem zlz(g h:Nat->Int):∀m,sm m (λk=>g k+h k)=sm m g+sm m h
|0=>rfl
|m+1=>by rw[zig,zig,zig,zlz g h m];lia
theorem zem:∀m,sm m (λ_=>0)=0
|0=>rfl
|m+1=>by rw[zig,zem m];rfl
theorem zp31{j:Nat}(d:Int):∀{m:Nat},j < m->sm m (λk=>if k=j then d else 0)=d
|0,h=>by lia
|m+1,h=>by
  rw[zig];by_cases z:m=j
  ·subst z;rw[if_pos rfl,zya (h:=λ_=>0) λk hk=>if_neg (by lia),zem];lia
  ·rw[zp31 d (m:=m) (by lia),if_neg z];lia
noncomputable def trm(u v:Nat)(x:Int)(w:Nat):Int:=(if v=w then x else 0) - (if u=w then x else 0)
noncomputable def bl(m:Nat)(eu ev:Nat->Nat)(x:Nat->Int)(w:Nat):Int:=sm m λk=>trm (eu k) (ev k) (x k) w
noncomputable abbrev Pr:=Nat×Nat
noncomputable def pU(P:List Pr)(k:Nat):Nat:=((P[k]?).map λa=>a.1).getD 0
noncomputable def pV(P:List Pr)(k:Nat):Nat:=((P[k]?).map λa=>a.2).getD 0
noncomputable def fx(f:List Int)(k:Nat):Int:=(f[k]?).getD 0
noncomputable def nb(P:List Pr)(f:List Int)(w:Nat):Int:=bl P.length (pU P) (pV P) (fx f) w
theorem zh3{κ:Type}[DecidableEq κ](p:κ×D)(r:List (κ×D))(k:κ):getA (p :: r) k=if p.1=k then some p.2 else getA r k:=by
 unfold getA;rw[yE];by_cases e:p.1=k
 ·simp[e]
 ·simp[e]
theorem zkl{κ:Type}[DecidableEq κ](k k':κ)(d:D):∀l:List (κ×D),getA (l++[(k,d)]) k'=match getA l k' with|some x=>some x|none=>if k=k' then some d else none
|[]=>by
  rw[xR,zh3];rfl
|p :: r=>by
  rw[yQ,zh3,zh3,zkl k k' d r];by_cases e:p.1=k'
  ·rw[if_pos e,if_pos e]
  ·rw[if_neg e,if_neg e]
theorem zdq{κ:Type}[DecidableEq κ](k:κ):∀l:List (κ×D),(l.any λkv=>decide (kv.1=k))=(getA l k).isSome
|[]=>rfl
|p :: r=>by
  rw[yO,zh3,zdq k r];by_cases e:p.1=k
  ·simp[e]
  ·simp[e]
theorem zdl{κ:Type}[DecidableEq κ](k k':κ)(d:D):∀l:List (κ×D),getA (l.map λkv=>if kv.1=k then(kv.1,d)else kv) k'=if k=k' then(getA l k').map (λ_=>d)else getA l k'
|[]=>by simp[getA]
|p :: r=>by
  rw[wM,zh3,zh3,zdl k k' d r];by_cases e1:p.1=k
  ·rw[if_pos e1];by_cases e2:k=k'
   ·rw[if_pos (e1.trans e2),if_pos e2,if_pos (e1.trans e2)];rfl
   ·have:¬p.1=k':=λz=>e2 (e1.symm.trans z);rw[if_neg this,if_neg e2,if_neg e2,if_neg this]
  ·rw[if_neg e1];by_cases e2:p.1=k'
   ·have:¬k=k':=λz=>e1 (e2.trans z.symm);rw[if_pos e2,if_neg this,if_pos e2]
   ·rw[if_neg e2,if_neg e2]
theorem zyr{κ:Type}[DecidableEq κ](kvs:List (κ×D))(k k':κ)(d:D):getA (putD kvs k d) k'=if k=k' then some d else getA kvs k':=by
 unfold putD;rw[zdq];by_cases e:k=k'
 ·subst e;rw[if_pos rfl];cases h:getA kvs k with
 |some x=>rw[if_pos (by simp),zdl,if_pos rfl,h];rfl
 |none=>rw[if_neg (by simp),zkl,h];simp
 ·rw[if_neg e];split
  ·rw[zdl,if_neg e]
  ·rw[zkl];cases getA kvs k' with
  |none=>simp[e]
  |some y=>rfl
theorem zsu{f:Int->Int->Int}{fl gl:Str}{C a:Addr}{ts:List (Str×T)}{di dy dz:DE}{E:DEnds}{U:DSt}{ds:List D}{kvs:List (List Key×D)}{z y c:Int}{yd zd:D}{key:List Key}{j:Nat}
  (h0:U[0]?=some (.io a (.ob C ts))) (hl:ts.lookup fl=some (.li ds)) (hg:ts.lookup gl=some (.dt kvs)) (ne:fl≠gl) (hi:∀Q:D->Prop,Q (.int z)->di U Q) (hy:∀Q:D->Prop,Q yd->dy U Q) (hz:∀Q:D->Prop,Q zd->dz U Q)
  (z0:0<=z) (gy:ds[z.toNat]?=some (.int y)) (hj:ixN ds.length z=some j) (hk:keyT yd=some key) (hc:(getA kvs key).getD zd=.int c)
  (q:E.nx (U.set 0 (.io a (.ob C (putA fl (.li (ds.set j (.int (f y c)))) (putA gl (.dt (zgb kvs key)) ts)))))) :
  zkm f (pFld C fl (pVar 0)) di (pFld C gl (pVar 0)) dy dz E U:=by
 have l0:0 < U.length:=(wR.mp h0).1;have m1:∀(p:Pth)(u:T)(N:DSt->Prop),mutS U 0 p u N=N (U.set 0 (.io a (setP (.ob C ts) p u))):=λp u N=>by simp only[mutS,h0]
 have e1:setP (.ob C ts) [.fl gl] (.dt (zgb kvs key))=.ob C (putA gl (.dt (zgb kvs key)) ts):=by simp only[setP,hg]
 have e2:∀u,setP (.ob C (putA gl (.dt (zgb kvs key)) ts)) [.fl fl] u=.ob C (putA fl u (putA gl (.dt (zgb kvs key)) ts)):=λu=>by
  simp only[setP,zfc ne,hl]
 have fin:mutS U 0 [.fl gl] (.dt (zgb kvs key)) λU1=>mutS U1 0 [.fl fl] (.li (ds.set j (.int (f y c)))) E.nx:=by
  rw[m1,e1];have:(U.set 0 (.io a (.ob C (putA gl (.dt (zgb kvs key)) ts))))[0]?=some (.io a (.ob C (putA gl (.dt (zgb kvs key)) ts))):=xI l0;simp only[mutS,this,e2,zF];exact q
 have pv:∀(g:Str)(u:T)(Q:Nat->Pth->T->Prop),ts.lookup g=some u->Q 0 [.fl g] u->pFld C g (pVar 0) U Q:=λg u Q hu hq=>zy71 h0 rfl ⟨rfl,u,hu,hq⟩;refine pv fl _ _ hl (hi _ ⟨z0,_,gy,pv gl _ _ hg ⟨rfl,hy _ (hz _ ⟨key,hk,?_⟩)⟩⟩);rw[hc];exact⟨j,hj,⟨rfl,fl,gl,rfl,rfl,ne⟩,fin⟩
open PySem.W
structure Lts(lt:Nat->Nat->Bool):Prop where
 asym:∀{i j},lt i j=true->lt j i=false
 tr:∀{i j k},lt j i=false->lt k j=false->lt k i=false
theorem Lts.irr{lt:Nat->Nat->Bool}(o:Lts lt)(i:Nat):lt i i=false:=by
 cases h:lt i i with
|false=>rfl
|true=>rw[o.asym h]at h;cases h
noncomputable def Ans(n:Nat)(lt:Nat->Nat->Bool)(cmp:Nat->Nat->(Bool->Shared->Prop)->Shared->Prop)(s:Shared):Prop:=∀i j,i < n->j < n->∀C:Bool->Shared->Prop,C (lt i j) s->cmp i j C s
noncomputable def Whole(n:Nat)(p:Array Nat):Prop:=p.toList.Perm (w9 n)
noncomputable def Rise(lt:Nat->Nat->Bool)(p:Array Nat)(m:Nat):Prop:=∀i j,i<=j->j < m->lt (p.getD j 0) (p.getD i 0)=false
noncomputable def Sink(lt:Nat->Nat->Bool)(p:Array Nat)(m:Nat):Prop:=∀i j,i<=j->j < m->lt (p.getD i 0) (p.getD j 0)=false
noncomputable def zu81(lt:Nat->Nat->Bool)(p:Array Nat)(m q:Nat):Prop:=∀i,m<=i+q+1->i < m->lt (p.getD i 0) (p.getD (m - 1) 0)=false/\lt (p.getD (m - 1) 0) (p.getD i 0)=false
section
variable {n:Nat}{lt:Nat->Nat->Bool}{cmp:Nat->Nat->(Bool->Shared->Prop)->Shared->Prop}{s:Shared}{p:Array Nat}
theorem Whole.size(h:Whole n p):p.size=n:=by have:=h.length_eq;simpa using this
theorem Whole.bnd(h:Whole n p)(hn:0 < n)(k:Nat):p.getD k 0 < n:=by
 by_cases hk:k < p.size
 ·have:p[k]∈p.toList:=by simp
  have:=h.mem_iff.mp this;simp only[Array.getD,hk,dite_true];exact x9.mp this
 ·simp only[Array.getD,hk,dite_false];exact hn
theorem Whole.rev(h:Whole n p)(i j:Nat):Whole n (kas_rev p i j):=(uaE.mp (mirror_perm p i j _)).trans h
theorem Whole.bub(h:Whole n p)(i j:Nat):Whole n (bubble p i j):=(uaE.mp (bubble_perm p i j)).trans h
theorem zoj(p:Array Nat)(k:Nat):p.getD k 0=(p[k]?).getD 0:=by simp
theorem zcl(hj:j<=p.size)(k:Nat):(kas_rev p i j).getD k 0=if i<=k/\k < j then p.getD (i+j - 1 - k) 0 else p.getD k 0:=by
 rw[zoj,zoj,zoj,kas_rev,getElem?_mirror_all hj];split <;> simp_all
theorem zn31(hs:src < p.size)(hd:d<=src)(k:Nat):(bubble p src d).getD k 0=if k=src - d then p.getD src 0 else if src - d < k/\k<=src then p.getD (k - 1) 0 else p.getD k 0:=by
 rw[zoj,zoj,zoj,zoj,getElem?_bubble hs d hd];split
 ·rfl
 ·split <;> rfl
theorem Rise.more(o:Lts lt)(h:Rise lt p m)(h1:1<=m)(c:lt (p.getD m 0) (p.getD (m - 1) 0)=false):Rise lt p (m+1):=by
 intro i j hij hj;by_cases e:j=m
 ·subst e;by_cases e2:i=j
  ·subst e2;exact o.irr _
  ·exact o.tr (h i (j - 1) (by lia) (by lia)) c
 ·exact h i j hij (by lia)
theorem Sink.more(o:Lts lt)(h:Sink lt p m)(h1:1<=m)(c:lt (p.getD (m - 1) 0) (p.getD m 0)=false):Sink lt p (m+1):=by
 intro i j hij hj;by_cases e:j=m
 ·subst e;by_cases e2:i=j
  ·subst e2;exact o.irr _
  ·exact o.tr c (h i (j - 1) (by lia) (by lia))
 ·exact h i j hij (by lia)
theorem kw_t{α:Type}{T₁ T₂:KasT α}{Q:α->Shared->Prop}(h:T₁.kasWp cmp Q s):(if true=true then T₁ else T₂).kasWp cmp Q s:=by rw[if_pos rfl];exact h
theorem kw_f{α:Type}{T₁ T₂:KasT α}{Q:α->Shared->Prop}(h:T₂.kasWp cmp Q s):(if false=true then T₁ else T₂).kasWp cmp Q s:=by rw[if_neg (by simp)];exact h
theorem zyy(a:Ans n lt cmp s)(o:Lts lt)(hn:0 < n)(w:Whole n p){Q:Nat->Shared->Prop}:∀(f m:Nat),1<=m->Rise lt p m ->
  (∀m',m<=m'->m'<=m+f->Rise lt p m'->(m'=m+f \/ lt (p.getD m' 0) (p.getD (m' - 1) 0)=true)->Q m' s)->(kas_asc p f m).kasWp cmp Q s
|0,m,h1,r,q=>q m (u3 _) (u3 _) r (.inl rfl)
|f+1,m,h1,r,q=>by
  refine a _ _ (w.bnd hn _) (w.bnd hn _) _ ?_;cases c:lt (p.getD m 0) (p.getD (m - 1) 0)with
 |true=>refine kw_t ?_;exact q m (u3 _) (by lia) r (.inr c)
 |false =>
   refine kw_f ?_;exact zyy a o hn w f (m+1) (by lia) (r.more o h1 c) λm' h2 h3 h4 h5=>q m' (by lia) (by lia) h4 (by rcases h5 with h5|h5;exact .inl (by lia);exact .inr h5)
theorem zwm(o:Lts lt)(w:Whole n p)(hm:m<=n)(hq:q < m)(e:zu81 lt p m q)(k:Nat):lt ((kas_rev p (m - (q+1)) m).getD k 0) (p.getD k 0)=false/\lt (p.getD k 0) ((kas_rev p (m - (q+1)) m).getD k 0)=false:=by
 rw[zcl (by rw[w.size];exact hm)];split
 ·rename_i hk
  have e1:=e k (by lia) hk.2;have e2:=e (m - (q+1)+m - 1 - k) (by lia) (by lia);exact⟨o.tr e1.2 e2.1,o.tr e2.2 e1.1⟩
 ·exact⟨o.irr _,o.irr _⟩
theorem Sink.alike(o:Lts lt){p':Array Nat}(h:Sink lt p m)(e:∀k,lt (p'.getD k 0) (p.getD k 0)=false/\lt (p.getD k 0) (p'.getD k 0)=false):Sink lt p' m:=λi j hij hj =>
 o.tr (o.tr (e j).2 (h i j hij hj)) (e i).1
theorem zgm(a:Ans n lt cmp s)(o:Lts lt)(hn:0 < n){Q:Array Nat×Nat×Nat->Shared->Prop}:∀(f:Nat)(p:Array Nat)(m q:Nat),Whole n p->1<=m->m+f<=n->q < m->Sink lt p m->zu81 lt p m q ->
  (∀p' m' q',Whole n p'->m<=m'->m'<=m+f->q' < m'->Sink lt p' m'->zu81 lt p' m' q'->Q (p',m',q') s)->(kas_desc f p m q).kasWp cmp Q s
|0,p,m,q,w,h1,hf,hq,d,e,k=>k p m q w (u3 _) (u3 _) hq d e
|f+1,p,m,q,w,h1,hf,hq,d,e,k=>by
  refine a _ _ (w.bnd hn _) (w.bnd hn _) _ ?_;cases c:lt (p.getD m 0) (p.getD (m - 1) 0)with
 |true =>
   refine kw_t ?_;have al:∀p',zu81 lt p' (m+1) 0:=λp' i h2 h3=>by
    have:i=m:=by lia
    subst this;exact⟨o.irr _,o.irr _⟩
   by_cases hq0:q > 0
   ·rw[if_pos hq0];have ek:=zwm o w (by lia) hq e;refine zgm a o hn f _ (m+1) 0 (w.rev _ _) (by lia) (by lia) (by lia) ?_ (al _) λp' m' q' a1 a2 a3 a4 a5 a6=>k p' m' q' a1 (by lia) (by lia) a4 a5 a6;exact(d.more o h1 (o.asym c)).alike o ek
   ·rw[if_neg hq0];exact zgm a o hn f _ (m+1) 0 w (by lia) (by lia) (by lia) (d.more o h1 (o.asym c)) (al _) λp' m' q' a1 a2 a3 a4 a5 a6=>k p' m' q' a1 (by lia) (by lia) a4 a5 a6
 |false =>
   refine kw_f ?_;refine a _ _ (w.bnd hn _) (w.bnd hn _) _ ?_;cases c2:lt (p.getD (m - 1) 0) (p.getD m 0)with
  |true=>refine kw_t ?_;exact k p m q w (u3 _) (by lia) hq d e
  |false =>
    refine kw_f ?_;refine zgm a o hn f p (m+1) (q+1) w (by lia) (by lia) (by lia) (d.more o h1 c2) (λi h2 h3=>?_) λp' m' q' a1 a2 a3 a4 a5 a6=>k p' m' q' a1 (by lia) (by lia) a4 a5 a6;rw[show m+1 - 1=m by lia];by_cases e2:i=m
    ·subst e2;exact⟨o.irr _,o.irr _⟩
    ·have e1:=e i (by lia) (by lia);exact⟨o.tr c2 e1.1,o.tr e1.2 c⟩
theorem zhk(w:Whole n p)(hm:m<=n)(h:Sink lt p m):Rise lt (kas_rev p 0 m) m:=by
 intro i j hij hj;rw[zcl (by rw[w.size];exact hm),zcl (by rw[w.size];exact hm),if_pos ⟨wW _,by lia⟩,if_pos ⟨wW _,by lia⟩];exact h _ _ (by lia) (by lia)
theorem zfq(a:Ans n lt cmp s)(o:Lts lt)(hn:0 < n)(w:Whole n p)(h1:1<=m)(hm:m<=n)(d:Sink lt p m){Q:Nat×Array Nat->Shared->Prop}
  (k:∀p' m',Whole n p'->1<=m'->m'<=n->Rise lt p' m'->Q (m',p') s):(kas_tail3 m n p).kasWp cmp Q s:=by
 unfold kas_tail3;rw[KasT.kasWp_bind];exact zyy a o hn (w.rev _ _) _ m h1 (zhk w hm d) λm' h2 h3 h4 _=>k _ m' (w.rev _ _) (by lia) (by lia) h4
theorem zzf(a:Ans n lt cmp s)(o:Lts lt)(hn:0 < n)(w:Whole n p)(h1:1<=m)(hm:m+1<=n)(d:Sink lt p (m+1)){Q:Nat×Array Nat->Shared->Prop}
  (k:∀p' m',Whole n p'->1<=m'->m'<=n->Rise lt p' m'->Q (m',p') s):(kas_descPart m n p).kasWp cmp Q s:=by
 unfold kas_descPart;rw[KasT.kasWp_bind];refine zgm a o hn _ p (m+1) 0 w (by lia) (by lia) (by lia) d (λi h2 h3=>?_) λp' m' q' a1 a2 a3 a4 a5 a6=>?_
 ·have:i=m:=by lia
  subst this;exact⟨o.irr _,o.irr _⟩
 ·show(if q' > 0 then kas_tail3 m' n (kas_rev p' (m' - (q'+1)) m')else kas_tail3 m' n p').kasWp cmp Q s;split
  ·exact zfq a o hn (a1.rev _ _) (by lia) (by lia) (a5.alike o (zwm o a1 (by lia) a4 a6)) k
  ·exact zfq a o hn a1 (by lia) (by lia) a5 k
theorem zd01(a:Ans n lt cmp s)(o:Lts lt)(hn:0 < n)(w:Whole n p){Q:Nat×Array Nat->Shared->Prop}
  (k:∀p' m',Whole n p'->1<=m'->m'<=n->Rise lt p' m'->Q (m',p') s):(kas_count n p).kasWp cmp Q s:=by
 unfold kas_count;rw[KasT.kasWp_bind];refine zyy a o hn w _ 1 (u3 _) (λi j h1 h2=>?_) λm h2 h3 h4 h5=>?_
 ·have:i=j:=by lia
  subst this;exact o.irr _
 ·by_cases e:m=n
  ·rw[if_pos (by simp[e])];exact k p m w h2 (by lia) h4
  ·rw[if_neg (by simp[e])];have c:lt (p.getD m 0) (p.getD (m - 1) 0)=true:=by rcases h5 with h5|h5;lia;exact h5
   by_cases e1:m > 1
   ·rw[if_pos e1];refine a _ _ (w.bnd hn _) (w.bnd hn _) _ ?_;cases c2:lt (p.getD 0 0) (p.getD (m - 1) 0)with
   |true=>refine kw_t ?_;exact k p m w h2 (by lia) h4
   |false =>
     refine kw_f ?_;have al:∀i j,i < m->j < m->lt (p.getD i 0) (p.getD j 0)=false:=λi j hi hj =>
      o.tr (h4 j (m - 1) (by lia) (by lia)) (o.tr c2 (h4 0 i (by lia) hi))
     have sk:Sink lt (kas_rev p 0 m) m:=λi j hij hj=>by
      rw[zcl (by rw[w.size];lia),zcl (by rw[w.size];lia),if_pos ⟨wW _,by lia⟩,if_pos ⟨wW _,by lia⟩];exact al _ _ (by lia) (by lia)
     refine zzf a o hn (w.rev _ _) h2 (by lia) (sk.more o h2 ?_) k;rw[zcl (by rw[w.size];lia),zcl (by rw[w.size];lia),if_pos ⟨wW _,by lia⟩,if_neg (by lia)];exact o.tr (o.asym c) (al _ _ (by lia) (by lia))
   ·rw[if_neg e1];have:m=1:=by lia
    subst this;refine zzf a o hn w (u3 _) (by lia) (Sink.more o (λi j h1 h2=>?_) (u3 _) (o.asym c)) k;have:i=j:=by lia
    subst this;exact o.irr _
theorem zpk(a:Ans n lt cmp s)(o:Lts lt)(hn:0 < n)(w:Whole n p){j:Nat}(r:Rise lt p j){Q:Nat->Shared->Prop}:∀(f l u:Nat),l<=u->u<=j->u - l<=f ->
  (∀i,i < l->lt (p.getD j 0) (p.getD i 0)=false)->(∀i,u<=i->i < j->lt (p.getD j 0) (p.getD i 0)=true) ->
  (∀l',l'<=j->(∀i,i < l'->lt (p.getD j 0) (p.getD i 0)=false)->(∀i,l'<=i->i < j->lt (p.getD j 0) (p.getD i 0)=true)->Q l' s)->(kas_place p j f l u).kasWp cmp Q s
|0,l,u,h1,h2,h3,a1,a2,q=>q l (by lia) a1 λi hi=>a2 i (by lia)
|f+1,l,u,h1,h2,h3,a1,a2,q=>by
  unfold kas_place;by_cases e:l ≥ u
  ·rw[if_pos e];exact q l (by lia) a1 λi hi=>a2 i (by lia)
  ·rw[if_neg e];refine a _ _ (w.bnd hn _) (w.bnd hn _) _ ?_;cases c:lt (p.getD j 0) (p.getD ((l+u) / 2) 0)with
  |true =>
    refine kw_t (zpk a o hn w r f l ((l+u) / 2) (by lia) (by lia) (by lia) a1 (λi hi hj=>?_) q);cases c3:lt (p.getD j 0) (p.getD i 0)with
   |true=>rfl
   |false=>rw[o.tr (r ((l+u) / 2) i hi hj) c3]at c;cases c
  |false =>
    refine kw_f (zpk a o hn w r f ((l+u) / 2+1) u (by lia) h2 (by lia) (λi hi=>?_) a2 q);exact o.tr (r i ((l+u) / 2) (by lia) (by lia)) c
theorem zw51(a : Ans n lt cmp s)(o : Lts lt)(hn : 0 < n){Q : Array Nat → Shared → Prop} : ∀(f : Nat)(p : Array Nat)(j : Nat), Whole n p → j + f = n → Rise lt p j → (∀p', Whole n p' → Rise lt p' n → Q p' s) → (kas_bin f p j).kasWp cmp Q s
  | 0, p, j, w, h, r, q => q p w (by have : j = n := by lia
                                     rw[← this]; exact r)
  | f + 1, p, j, w, h, r, q => by
    unfold kas_bin;rw[KasT.kasWp_bind];refine zpk a o hn w r j 0 j (wW _) (u3 _) (by lia) (fun i hi => absurd hi (by lia)) (fun i h1 h2 => absurd h1 (by lia)) fun l hl b1 b2 => ?_;refine zw51 a o hn f _ (j + 1) (w.bub _ _) (by lia) (fun i k hik hk => ?_) q;have hs : j < p.size := by rw[w.size]; lia
    rw[zn31 hs (by lia), zn31 hs (by lia)];have e : j - (j - l) = l := by lia
    rw[e];by_cases k1 : k = l
    · rw[if_pos k1];by_cases i1 : i = l
      · rw[if_pos i1]; exact o.irr _
      · rw[if_neg i1, if_neg (by lia)]; exact b1 i (by lia)
    · rw[if_neg k1];by_cases k2 : l < k ∧ k ≤ j
      · rw[if_pos k2];by_cases i1 : i = l
        · rw[if_pos i1]; exact o.asym (b2 (k - 1) (by lia) (by lia))
        · rw[if_neg i1];by_cases i2 : l < i ∧ i ≤ j
          · rw[if_pos i2]; exact r _ _ (by lia) (by lia)
          · rw[if_neg i2]; exact r _ _ (by lia) (by lia)
      · rw[if_neg k2, if_neg (by lia), if_neg (by lia)]; exact r _ _ (by lia) (by lia)
theorem zi71(a:Ans n lt cmp s)(o:Lts lt)(hn:0 < n){Q:Array Nat->Shared->Prop}(q:∀p,Whole n p->Rise lt p n->Q p s):(kas_sort n).kasWp cmp Q s:=by
 unfold kas_sort;rw[KasT.kasWp_bind];refine zd01 a o hn (by unfold Whole;exact List.Perm.refl _) λp m w h1 h2 r=>?_;show(if m < n then kas_bin (n - max m 1) p (max m 1)else .ret p).kasWp cmp Q s;split
 ·exact zw51 a o hn _ p _ w (by lia) (by rw[Nat.max_eq_left h1];exact r) q
 ·have:m=n:=by lia
  subst this;exact q p w r
end
end _5
namespace _3
open PySem PySem.W PySem.Spec PyProof.Rows _2 _5
variable {K:Fg}{X:Cx}{rows:List (List Int)}{vs:List Value}{xs:List V}
noncomputable def lexB:List Int->List Int->Bool
|[],[]=>false
|[],_ :: _=>true
|_ :: _,[]=>false
|a :: r,b :: t=>if a=b then lexB r t else decide (a < b)
theorem zod(a b:Int)(r t:List Int):lexB (a :: r) (b :: t)=if a=b then lexB r t else decide (a < b):=by rw[lexB]
theorem zbm:∀{x y:List Int},lexB x y=true->lexB y x=false
|[],[],h=>by simp[lexB]at h
|[],_ :: _,h=>by simp[lexB]
|_ :: _,[],h=>by simp[lexB]at h
|a :: r,b :: t,h=>by
  rw[zod]at h ⊢;by_cases e:a=b
  ·subst e;rw[if_pos rfl]at h ⊢;exact zbm h
  ·rw[if_neg e]at h;rw[if_neg (Ne.symm e)];simp at h ⊢;lia
theorem zcx:∀{x y z:List Int},lexB y x=false->lexB z y=false->lexB z x=false
|[],[],z,_,h=>h
|[],_ :: _,[],_,_=>by simp[lexB]
|[],_ :: _,_ :: _,_,_=>by simp[lexB]
|_ :: _,[],_,h,_=>by simp[lexB]at h
|_ :: _,_ :: _,[],_,h=>by simp[lexB]at h
|a :: r,b :: t,c :: u,h,k=>by
  rw[zod]at h k ⊢;by_cases e:b=a
  ·subst e;rw[if_pos rfl]at h;by_cases e2:c=b
   ·subst e2;rw[if_pos rfl]at k ⊢;exact zcx h k
   ·rw[if_neg e2]at k ⊢;exact k
  ·rw[if_neg e]at h;by_cases e2:c=b
   ·subst e2;rw[if_neg e];exact h
   ·rw[if_neg e2]at k;simp at h k;rw[if_neg (by lia)];simp;lia
theorem zum:∀{x y:List Int},lexB x y=false->lexB y x=false->x=y
|[],[],_,_=>rfl
|[],_ :: _,h,_=>by simp[lexB]at h
|_ :: _,[],_,h=>by simp[lexB]at h
|a :: r,b :: t,h,k=>by
  rw[zod]at h k;by_cases e:a=b
  ·subst e;rw[if_pos rfl]at h k;rw[zum h k]
  ·rw[if_neg e]at h;rw[if_neg (Ne.symm e)]at k;simp at h k;lia
theorem zo61(rows:List (List Int)):Lts λi j=>lexB (rows.getD i []) (rows.getD j []):=⟨zbm,zcx⟩
section
variable {s:Shared}{w:World}{prog:Program}{E:Value->Shared->Prop}{A:Around}
theorem zd61{Q:Bool->Shared->Prop}{fin:Bool}:∀(xs ys:List Int)(vs ws:List Value)(i:Nat),IntsAre vs xs->IntsAre ws ys->fin=decide (xs.length < ys.length)->Q (lexB xs ys) s->KatLex prog w A true fin Q (vs.zip ws) i s
|[],[],_,_,i,.nil,.nil,e,q=>by subst e;exact q
|[],_ :: _,_,_,i,.nil,.cons _ _ _,e,q=>by
  have:fin=true:=by rw[e];simp
  subst this;exact kat_nil q
|_ :: _,[],_,_,i,.cons _ _ _,.nil,e,q=>by
  have:fin=false:=by rw[e];simp
  subst this;exact kat_nil q
|a :: r,b :: t,_,_,i,.cons _ u h,.cons _ u2 k,e,q=>by
  rw[uaF];rw[zod]at q;refine kat_cons (wpAny_eqBool_int (kat_go (λe1=>kat_yes ?_) λe1=>kat_no ?_))
  ·have:a=b:=by simpa using e1
   subst this;rw[if_pos rfl]at q;exact zd61 r t _ _ (i+1) h k (by rw[e];simp) q
  ·have:a≠b:=by simpa using e1
   rw[if_neg this]at q;cases (true && i == 0)with
  |true=>exact oneLt_int q
  |false=>exact kat_one _ _ (PyProof.Rows.lt_int q)
inductive TupRows(h:Heap):List Value->List (List Int)->Prop
|nil:TupRows h [] []
|cons {v:Value} {r:List Int} {vs:List Value} {rows:List (List Int)}:(∃b o its k,v=.ref b/\h.get? b=some o/\o.cls=.type "tuple"/\o.data=.seq its k/\IntsAre its.toList r/\r≠[])->TupRows h vs rows->TupRows h (v :: vs) (r :: rows)
theorem TupRows.mono{h h':Heap}(t:TupRows h vs rows)(k:∀b o,h.get? b=some o->o.cls=.type "tuple"->h'.get? b=some o):TupRows h' vs rows:=by
 induction t with
|nil=>exact .nil
|cons a t ih =>
  obtain⟨b,o,its,n,e1,e2,e3,e4,e5,e6⟩:=a;exact .cons ⟨b,o,its,n,e1,k b o e2 e3,e3,e4,e5,e6⟩ ih
theorem TupRows.at{h:Heap}:∀{vs:List Value}{rows:List (List Int)},TupRows h vs rows->∀{i:Nat},i < vs.length->∃b o its k,vs.getD i .none=.ref b/\h.get? b=some o/\o.cls=.type "tuple"/\o.data=.seq its k/\IntsAre its.toList (rows.getD i [])/\rows.getD i []≠[]
|_,_,.nil,i,hi=>by simp at hi
|_,_,.cons a t,0,_=>a
|_,_,.cons a t,i+1,hi=>by simpa using TupRows.at t (i:=i) (by simpa using hi)
theorem TupRows.firsts{h:Heap}:∀{vs:List Value}{rows:List (List Int)},TupRows h vs rows->∃fs:List Value,KatTups h vs fs/\fs.length=vs.length/\∀v∈fs,∃n t,v=x6 n t
|_,_,.nil=>⟨[],.nil,rfl,by simp⟩
|_,_,.cons ⟨b,o,its,n,e1,e2,e3,e4,e5,e6⟩ t=>by
  obtain⟨fs,k1,k2,k3⟩:=TupRows.firsts t;subst e1;obtain⟨l,hl⟩:∃l,its.toList=l:=⟨_,rfl⟩
  rw[hl]at e5;cases e5 with
 |nil=>exact absurd rfl e6
 |cons x u r =>
   refine⟨.int x u :: fs,KatTups.cons e2 e3 e4 ?_ k1,by simp[k2],?_⟩
   ·rw[<- zA,hl];rfl
   ·intro v hv;rcases v6.mp hv with rfl|hv
    ·exact⟨_,_,rfl⟩
    ·exact k3 v hv
theorem znt{a:Addr}{n:Nat}{P:Fin->Shared->Prop}(go:s.heap.get? a=some (seqObj "list" vs.toArray n))(t:TupRows s.heap vs rows)(h2:2<=vs.length)(h64:vs.length < 64)
  (h:∀p:Array Nat,Whole vs.length p->Rise (λi j=>lexB (rows.getD i []) (rows.getD j [])) p vs.length->P (.done (.ret .none)) { s with heap:=sortedHeap s.heap a vs (z6 (p.toList.map λi=>vs.getD i .none)) }) :
  wpAny (model prog w) A (Builtin.«list.sort» ⟨[.ref a],[]⟩) P E s:=by
 have al:a < s.heap.objs.size:=u9 go;obtain⟨e1,g1⟩:∃e1,(s.heap.update a (Obj.mapSeq λ_=>#[])).get? a=some (seqObj "list" #[] e1):=⟨_,get?_update_seq go λ_=>#[]⟩
 rw[list_sort_plain];refine wpAny_bind (listItems_at go rfl (wpAny_bind (listUpdate_at go rfl (wpAny_bind (seqEpoch_at g1 rfl (wpAny_bind (wpAny_newTuple (wpAny_bind (wpAny_newList (wpAny_holding ?_))))))))));have g6:(((s.heap.update a (Obj.mapSeq λ_=>#[])).push (seqObj "tuple" vs.toArray 0)).push (seqObj "list" #[] 0)).get? a=some (seqObj "list" #[] e1):=u5 _ (u5 _ g1);have t6:TupRows (((s.heap.update a (Obj.mapSeq λ_=>#[])).push (seqObj "tuple" vs.toArray 0)).push (seqObj "list" #[] 0)) vs rows:=t.mono λb o ho hc=>by
  have hb:b≠a:=by
   rintro rfl;rw[go]at ho;cases ho;simp at hc
  exact u5 _ (u5 _ (by rw[uaG _ _ _ _ hb];exact ho))
 refine(show wpAny (model prog w) A _ P E { s with heap:=((s.heap.update a (Obj.mapSeq λ_=>#[])).push (seqObj "tuple" vs.toArray 0)).push (seqObj "list" #[] 0) }from ?_);dsimp only;have hn2:¬vs.toArray.size < 2:=by rw[wE];lia
 rw[if_neg hn2,if_neg hn2];obtain⟨fs,k1,k2,k3⟩:=t6.firsts;refine wpAny_bind (kat_kind (T:=.type "int") k1 (by lia) (λv hv=>?_) rfl ?_)
 ·obtain⟨x,u,rfl⟩:=k3 v hv;exact .now
 have ask:Ans vs.length (λi j=>lexB (rows.getD i []) (rows.getD j [])) (kas_ask prog w A (tuples' (y4 "int" != y4 "tuple")) vs) { s with heap:=((s.heap.update a (Obj.mapSeq λ_=>#[])).push (seqObj "tuple" vs.toArray 0)).push (seqObj "list" #[] 0) }:=by
  intro i j hi hj C hc;obtain⟨b,o,its,n,a1,a2,a3,a4,a5,a6⟩:=t6.at hi;obtain⟨b',o',its',n',c1,c2,c3,c4,c5,c6⟩:=t6.at hj;unfold kas_ask;rw[a1,c1];refine kat_lt a2 a4 c2 c4 (zd61 _ _ _ _ 0 a5 c5 ?_ hc);rw[<- xJ,<- xJ,a5.length,c5.length]
 refine wpAny_bind (wpAny_mono (kat_run (Q:=λst' s'=>s'={ s with heap:=((s.heap.update a (Obj.mapSeq λ_=>#[])).push (seqObj "tuple" vs.toArray 0)).push (seqObj "list" #[] 0) }/\∃p:Array Nat,arrOf st'=p.map (kas_item (vs.toArray.zip vs.toArray))/\failedOf st'=none/\Whole vs.length p/\Rise (λi j=>lexB (rows.getD i []) (rows.getD j [])) p vs.length)
  (G:=λp s'=>s'={ s with heap:=((s.heap.update a (Obj.mapSeq λ_=>#[])).push (seqObj "tuple" vs.toArray 0)).push (seqObj "list" #[] 0) }/\Whole vs.length p/\Rise (λi j=>lexB (rows.getD i []) (rows.getD j [])) p vs.length)
  rfl h2 h64 (λp st' s' b1 b2 b3 b4=>⟨b4.1,p,b2,b3,b4.2⟩) (zi71 ask (zo61 rows) (by lia) λp w r=>⟨rfl,w,r⟩)) ?_ λ_ _ e=>e)
 rintro⟨⟨⟩,st'⟩ s' ⟨rfl,p,har,hf,hw,hr⟩;dsimp only;have hout:=kat_snds rfl har;rw[hout];refine wpAny_bind (seqEpoch_at g6 rfl (wpAny_bind (listUpdate_at (hsz2:=?_) g6 rfl ?_)))
 ·rw[hf];rw[if_neg (by simp)];exact wpAny_pure (h p hw hr)
 ·rw[wE,u4,xJ,hw.size,sizeLine_eq];lia
theorem zrn{l:Addr}{Q:Value->Shared->Prop}(gl:s.heap.IsList l vs.toArray)(t:TupRows s.heap vs rows)(h2:2<=vs.length)(h64:vs.length < 64)
  (h:∀p:Array Nat,Whole vs.length p->Rise (λi j=>lexB (rows.getD i []) (rows.getD j [])) p vs.length->Q (.ref (s.heap.objs.size+1)) { s with heap:=sortedAll s.heap vs (z6 (p.toList.map λi=>vs.getD i .none)) }):wpAny (model prog w) A (call (.builtin "sorted") [.ref l]) Q E s:=by
 refine Calls.call_function_entry kind_sorted plain_sorted entry_sorted (args_sorted1 _) ?_;unfold Builtin.«sorted»;have z:((s.heap.push (seqObj "list" #[] 0)).update s.heap.objs.size (Obj.mapSeq (·++vs.toArray))).objs.size=s.heap.objs.size+1:=by rw[Heap.size_update,size_push']
 have g:(((s.heap.push (seqObj "list" #[] 0)).update s.heap.objs.size (Obj.mapSeq (·++vs.toArray))).push (seqObj "list" vs.toArray 0)).get? (s.heap.objs.size+1)=some (seqObj "list" vs.toArray 0):=by
  rw[<- z];exact wI _ rfl
 have keep:∀b o,s.heap.get? b=some o->(((s.heap.push (seqObj "list" #[] 0)).update s.heap.objs.size (Obj.mapSeq (·++vs.toArray))).push (seqObj "list" vs.toArray 0)).get? b=some o:=λb o q=>by
  have hlt:b < s.heap.objs.size:=u9 q;rw[Heap.get?_push_ne _ _ _ (by rw[z];exact wN (zB hlt)),uaG _ _ _ _ (wN hlt),Heap.get?_push_ne _ _ _ (wN hlt)];exact q
 refine wpAny_bind (m:=checkCount "sorted" 1 1 _) (wpAny_pure (wpAny_bind (collect_list gl ?_ (by rw[sizeLine_eq];lia))));refine wpAny_bind (wpAny_newList (show wpAny _ _ _ _ _ { s with heap:=((s.heap.push (seqObj "list" #[] 0)).update s.heap.objs.size (Obj.mapSeq (·++vs.toArray))).push (seqObj "list" vs.toArray 0) }from ?_) (by rw[sizeLine_eq];lia));rw[z];refine wpAny_bind (wpAny_holding (wpAny_call_entry slot_list_sort ⟨_,g,rfl⟩ entry_list_sort (znt g (t.mono λb o ho _=>keep b o ho) h2 h64 λp w r=>⟨_,rfl,?_⟩) (args_list_sort _)));exact wpAny_pure ⟨_,rfl,h p w r⟩
end
inductive RowsV(K:Fg)(H:Hp):List V->List (List Int)->Prop
|nil:RowsV K H [] []
|cons {b:Addr} {r:List Int} {xs:List V} {rows:List (List Int)}:SqT K H b (r.map V.int)->r≠[]->RowsV K H xs rows->RowsV K H (.ref b :: xs) (r :: rows)
theorem RowsV.len{H:Hp}(h:RowsV K H xs rows):xs.length=rows.length:=by
 induction h with
|nil=>rfl
|cons _ _ _ ih=>simp[ih]
noncomputable def zrb1(rows:List (List Int))(p:List Nat):Prop:=p.Perm (w9 rows.length)/\p.Pairwise λi j=>lexB (rows.getD j []) (rows.getD i [])=false
noncomputable def zg61(K:Fg):List V->Hp->VK->Prop:=λvs H Q=>∃(a:Addr)(xs:List V)(rows:List (List Int)),vs=[.ref a]/\SqL K H a xs/\RowsV K H xs rows/\rows.length < 64 /\
 ∀p:List Nat,zrb1 rows p->∀l,H l=none->Q (.ref l) (upd H l (.lst (p.map λi=>xs.getD i .non)))
theorem za61{pins:List (Addr×Obj)}{s:Shared}{Y:St}{H:Hp}(I:_2.Inv X pins Y H s)(h:RowsV X.K H xs rows):∀{us:List Value},Vals xs us->TupRows s.heap us rows:=by
 induction h with
|nil=>intro us r;cases r;exact .nil
|cons h1 h2 _ ih =>
  intro us r;cases r with
 |cons a r =>
   cases a;obtain⟨its,rv,⟨o,g,gc,n,gd⟩,_⟩:=I.tuple h1;exact .cons ⟨_,o,its.toArray,n,rfl,g,gc,gd,by simpa using zat rv,h2⟩ (ih r)
theorem Vals.getP{us:List Value}(h:Vals xs us){i:Nat}(hi:i < xs.length):RelV (xs.getD i .non) (us.getD i .none):=by
 obtain⟨u,e,r⟩:=Vals.get h (u8 hi);rw[v7,v7,u8 hi,e];exact r
theorem Vals.pick{xs:List V}{us:List Value}(h:Vals xs us):∀(p:List Nat),(∀i∈p,i < xs.length)->Vals (p.map λi=>xs.getD i .non) (p.map λi=>us.getD i .none)
|[],_=>.nil
|i :: p,q=>.cons (Vals.getP h (q i (.head _))) (Vals.pick h p λj hj=>q j (.tail _ hj))
theorem ztt(h:rows.length < 2):zrb1 rows (w9 rows.length):=by
 refine⟨List.Perm.refl _,?_⟩;rcases rows with _|⟨r,_|⟨r2,t⟩⟩
 ·simp
 ·simp[List.range_succ]
 ·simp at h;lia
theorem zd21{p:Array Nat}(w:Whole rows.length p)(r:Rise (λi j=>lexB (rows.getD i []) (rows.getD j [])) p rows.length):zrb1 rows p.toList:=by
 refine⟨w,?_⟩;rw[z7];intro i j hi hj hij;have hz:=w.size;have hi':i < p.size:=by simpa using hi
 have hj':j < p.size:=by simpa using hj
 have:=r i j (yM hij) (by lia)
 simpa[Array.getD,hi',hj']using this
theorem zej(h:X.K=K):CallR X (.builtin "sorted") (zg61 K):=by
 subst h;intro pins s Y H xs us Q I r h;obtain⟨a,ys,rows,rfl,hx,hr,hz,q⟩:=h;obtain⟨u,rfl,r1⟩:=zf21 r;cases r1;obtain⟨its,rv,p,_⟩:=I.list hx;have hl:its.length=rows.length:=by rw[<- rv.length,hr.len]
 have hy:=hr.len;by_cases h2:its.length < 2
 ·have eo:(its.toArray.zip its.toArray).map (·.2)=its.toArray:=by
   apply zW.mp;rw[Array.toList_map,Array.toList_zip];exact List.map_snd_zip (u3 _)
  refine zes p.isList (by simpa using h2) ?_;rw[eo];obtain⟨e,he⟩:=sortedAll_at s.heap its its.toArray;have ei:(w9 rows.length).map (λi=>ys.getD i .non)=ys:=by
   apply yY
   ·simp[hy]
   ·intro i h1 h3;simp[u8 h3]
  refine⟨.ref _,upd H (s.heap.objs.size+1) (.lst ys),I.laid (a:=s.heap.objs.size+1) (t':=s.toks) (λb o=>sortedAll_old) (xQ _) ⟨by rw[sizeLine_eq];lia,its,e,rv,he⟩,rfl,?_⟩;have:=q _ (ztt (by lia)) _ (I.hok.fresh (xQ _));rw[ei]at this;exact this
 ·refine zrn p.isList (za61 I hr rv) (by lia) (by lia) λpp w rs=>?_;rw[hl]at w rs;obtain⟨e,he⟩:=sortedAll_at s.heap its (z6 (pp.toList.map λi=>its.getD i .none));have hlt:∀i∈pp.toList,i < ys.length:=λi hi=>by
   have:=x9.mp (w.mem_iff.mp hi);lia
  refine⟨.ref _,upd H (s.heap.objs.size+1) (.lst (pp.toList.map λi=>ys.getD i .non)),I.laid (a:=s.heap.objs.size+1) (t':=s.toks) (λb o=>sortedAll_old) (xQ _) ⟨?_,pp.toList.map λi=>its.getD i .none,e,Vals.pick rv pp.toList hlt,he⟩,rfl,q _ (zd21 w rs) _ (I.hok.fresh (xQ _))⟩;rw[u4,xJ,w.size,sizeLine_eq];lia
end _3
namespace _4
open PySem PySem.Spec PyProof.Rows _2 _3
section
variable {K:Fg}
noncomputable def rowD(r:List Int):D:=.tuple (r.map .int)
noncomputable def zn11:List D->(List D->Prop)->Prop
|[.list ds],Q=>∃rows:List (List Int),ds=rows.map rowD/\(∀r∈rows,r≠[])/\rows.length < 64/\∀rows':List (List Int),rows'.Perm rows->rows'.Pairwise (λa b=>lexB b a=false)->Q (rows'.map rowD)
|_,_=>False
theorem zpr{F H:Hp}(s:Same F H):∀{xs:List V}{rows:List (List Int)},(∀r∈rows,r≠[])->IsAll K F xs (rows.map rowD)->RowsV K H xs rows
|[],[],_,_=>.nil
|_,_ :: _,n,.cons a r=>by
  obtain⟨b,ys,rfl,h1,h2⟩:=Is.tuple_inv a;have:=zso h2 (zy11 _);subst this;exact .cons (zji s h1) (n _ (.head _)) (zpr s (λr hr=>n r (.tail _ hr)) r)
theorem zus{F:Hp}{xs:List V}{ds:List D}(h:IsAll K F xs ds){i:Nat}(hi:i < xs.length):Is K F (xs.getD i .non) (ds.getD i .none):=by
 obtain⟨d,e,r⟩:=h.get (u8 hi);rw[v7,v7,u8 hi,e];exact r
theorem zxi{F:Hp}{xs:List V}{ds:List D}(h:IsAll K F xs ds):∀(p:List Nat),(∀i∈p,i < xs.length)->IsAll K F (p.map λi=>xs.getD i .non) (p.map λi=>ds.getD i .none)
|[],_=>.nil
|i :: p,q=>.cons (zus h (q i (.head _))) (zxi h p λj hj=>q j (.tail _ hj))
theorem znv:CF K (zg61 K) zn11:=by
 intro F H vs ds Qd Q s hv h k;unfold zn11 at h;split at h
 ·obtain⟨v,rfl,hw⟩:=vw1 hv;obtain⟨p,xs,rfl,h1,i1⟩:=hw.list s;obtain⟨rows,rfl,hn,hz,q⟩:=h;have hr:=zpr s hn i1;refine⟨p,xs,rows,rfl,h1,hr,hz,λpp po l hl=>?_⟩;obtain⟨ex,fn⟩:=zq8 (xs:=pp.map λi=>xs.getD i .non) s hl;have hlt:∀i∈pp,i < xs.length:=λi hi=>by
   have:=x9.mp (po.1.mem_iff.mp hi);rw[hr.len];exact this
  have e2:(pp.map λi=>(rows.map rowD).getD i .none)=(pp.map λi=>rows.getD i []).map rowD:=by
   rw[wZ];refine yP λi hi=>?_;have h3:i < rows.length:=by rw[<- hr.len];exact hlt i hi
   simp[h3]
  have e3:(w9 rows.length).map (λi=>rows.getD i [])=rows:=by
   apply yY
   ·simp
   ·intro i h1 h3;simp[u8 h3]
  refine k _ (q (pp.map λi=>rows.getD i []) ?_ ?_) l _ F _ ex hl zj0 fn ?_
  ·have:=po.1.map λi=>rows.getD i [];rw[e3]at this;exact this
  ·exact z8.mpr po.2
  ·rw[<- e2];exact zxi i1 pp hlt
 ·exact h.elim
theorem zil(ds:List D)(Q:List D->Prop):zn11 [.list ds] Q=∃rows:List (List Int),ds=rows.map rowD/\(∀r∈rows,r≠[])/\rows.length < 64/\∀rows':List (List Int),rows'.Perm rows->rows'.Pairwise (λa b=>lexB b a=false)->Q (rows'.map rowD):=rfl
end
variable {C:Addr}{E:XK}{ps:List Str}
section
variable {K:Fg}{te:TE}{tA:TA}{dA:DF}{dc:DC}{tt tu:TT}{dt:DT}{t u:TS}{d e:DS}
noncomputable abbrev DU:=DSt->(Bool->DSt->Prop)->Prop
variable {du:DU}
noncomputable def RfU(K:Fg)(tt:TT)(du:DU):Prop:=∀{B:Bs}{F H:Hp}{Y:_2.St}{U:DSt}{fps:Nat->List Addr}{Qd:Bool->DSt->Prop}{Q:Bool->Hp->Prop},RS K B F H Y U fps->du U Qd->(∀b U',Qd b U'->∀F' H' fps',RS K B F' H' Y U' fps'->Q b H')->tt Y H Q
noncomputable def uNot(du:DU):DU:=λU Q=>du U λb U'=>Q (!b) U'
theorem zt31(h:RfU K tt du):RfU K (tNot tt) (uNot du):=λr q k=>h r q λb U' z F' H' fps' r'=>k (!b) U' z F' H' fps' r'
noncomputable def uC(dc:DC):DU:=λU Q=>dc U λr U'=>∃b,r=.fz (.bool b)/\Q b U'
theorem ru_c(h:RfC K te dc):RfU K (zq91 K te) (uC dc):=by
 intro B F H Y U fps Qd Q r hd k;refine h r hd λx U' q v F1 H1 fps1 fpr res=>?_;obtain⟨b,rfl,q⟩:=q;have hr:=res.rt;cases hr with
|fz hi =>
  cases hi;exact⟨b,rfl,k b U' q F1 H1 fps1 res.rs⟩
noncomputable def dIfU(du:DU)(d e:DS):DS:=λE U=>du U λb U'=>if b=true then d E U' else e E U'
theorem zn41(ht:RfU K tt du)(h1:RfS K t d)(h2:RfS K u e):RfS K (tIfS tt t u) (dIfU du d e):=by
 intro B F H Y U fps E Z r h k;refine ht r h λb U' hb F1 H1 fps1 r1=>?_;cases b with
|true=>rw[if_pos rfl]at hb ⊢;exact h1 r1 hb k
|false=>rw[if_neg wF]at hb ⊢;exact h2 r1 hb k
theorem zmx(du:DU)(U:DSt)(Q:Bool->DSt->Prop):uNot du U Q=du U λb U'=>Q (!b) U':=rfl
theorem e_uC(dc:DC)(U:DSt)(Q:Bool->DSt->Prop):uC dc U Q=dc U λr U'=>∃b,r=.fz (.bool b)/\Q b U':=rfl
theorem zqx(du:DU)(d e:DS)(E:DEnds)(U:DSt):dIfU du d e E U=du U λb U'=>if b=true then d E U' else e E U':=rfl
end
noncomputable abbrev DX:=Addr->DSt->Prop
noncomputable abbrev DSpX:=List Arg->(T->T->Prop)->(Addr->T->Prop)->Prop
noncomputable def spX(K:Fg)(p:DSpX):Sp:=λvs H Q E=>∃F as bf oo Qd Xd,Same F H/\ArgsR K F H vs as bf oo/\(∀b∈ofp oo,b ∉ bf)/\p as Qd Xd/\(∀r t',Qd r t'->∀v F' H' fpr fpo,Post K F H oo F' H' v r fpr t' fpo->Q v H') /\
 ∀C t',Xd C t'->∀F' H' fpo,Post K F H oo F' H' .non (.fz .none) [] t' fpo->E (.ref C) none H'
noncomputable def ExOk(K:Fg)(EY:_2.St->XK)(ex:DX)(B:Bs):Prop:=∀{C:Addr}{F H:Hp}{Y:_2.St}{U:DSt}{fps:Nat->List Addr},RS K B F H Y U fps->ex C U->EY Y (.ref C) none H
noncomputable def RfSe(K:Fg)(EY:_2.St->XK)(ex:DX)(ts:TS)(ds:DS):Prop:=∀{B:Bs}{F H:Hp}{Y:_2.St}{U:DSt}{fps:Nat->List Addr}{E:DEnds}{Z:Ends},ExOk K EY ex B->RS K B F H Y U fps->ds E U->En K B E Z->ts Z Y H
noncomputable abbrev DCX:=DSt->(T->DSt->Prop)->DX->Prop
structure RfCx(K:Fg)(EY:_2.St->XK)(te:TE)(dc:DCX):Prop where
 of:∀{B:Bs}{F H:Hp}{Y:_2.St}{U:DSt}{fps:Nat->List Addr}{Qd:T->DSt->Prop}{Xd:DX}{Q:VK},RS K B F H Y U fps->dc U Qd Xd->(∀r U',Qd r U'->∀v F' H' fps' fpr,Res K B F' H' Y U' fps' v r fpr->Q v H') ->
 (∀C U',Xd C U'->∀F' H' fps',RS K B F' H' Y U' fps'->EY Y (.ref C) none H')->te Y H Q
section
variable {K:Fg}{EY:_2.St->XK}{ex:DX}{te ta:TE}{tA:TA}{dA:DF}{dc:DCX}{tt:TT}{dt:DT}{t u tb:TS}{d e db:DS}{g:TG}{dg:DG}{n:Nat}{dp:DP}{dA':DAT}
theorem zvh(h:RfS K t d):RfSe K EY ex t d:=λ_ r q k=>h r q k
theorem zpa(h1:RfSe K EY ex t d)(h2:RfSe K EY ex u e):RfSe K EY ex (tSeq t u) (dSeq d e):=by
 intro B F H Y U fps E Z o r h k;obtain⟨J,ha,hb⟩:=h;exact h1 o r ha ⟨λr' q=>h2 o r' (hb _ q) k,k.bk,k.ct,k.rt⟩
theorem zr21(ht:RfT K tt dt)(h1:RfSe K EY ex t d)(h2:RfSe K EY ex u e):RfSe K EY ex (tIfS tt t u) (dIf dt d e):=by
 intro B F H Y U fps E Z o r h k;refine ht r.fh r.rv h λb hb F1 H1 e1=>?_;cases b with
|true=>rw[if_pos rfl]at hb ⊢;exact h1 o (r.grow e1) hb k
|false=>rw[if_neg wF]at hb ⊢;exact h2 o (r.grow e1) hb k
noncomputable def zj11(dc:DCX)(ex:DX):DS:=λE U=>dc U (λ_ U'=>E.nx U') ex
theorem zu61(hc:RfCx K EY te dc):RfSe K EY ex (zx81 te) (zj11 dc ex):=by
 intro B F H Y U fps E Z o r h k;exact hc.of r h (λr2 U' q v F1 H1 fps1 fpr res=>k.nx res.rs q) λC U' q F1 H1 fps1 r1=>o r1 q
noncomputable def zp61(i:Nat)(dc:DCX)(ex:DX):DS:=λE U=>dc U (λr U'=>E.nx (U'.set i (slot r))) ex
theorem zqy{i:Nat}(hc:RfCx K EY te dc):RfSe K EY ex (tAsg te (zih i)) (zp61 i dc ex):=by
 intro B F H Y U fps E Z o r h k;refine hc.of r h (λr2 U' q v F1 H1 fps1 fpr res=>?_) λC U' q F1 H1 fps1 r1=>o r1 q;obtain⟨fps2,r3⟩:=res.set i;exact k.nx r3 q
noncomputable def zfl(C:Addr)(dA:DF)(ex:DX):DS:=λ_ U=>dA U λds=>ds.length<=sizeLine/\ex C U
theorem zhe(h:RfA K tA dA):RfSe K (λ_=>E) ex (zf51 C E tA) (zfl C dA ex):=by
 intro B F H Y U fps E' Z o r hd k;refine h r.fh r.rv hd λds q vs F1 H1 e1 i1=>⟨by rw[i1.dlen];exact q.1,o (r.grow e1) q.2⟩
noncomputable def zhl(p:DSpX)(U:DSt)(as:List ArgP)(Q:T->DSt->Prop)(X:DX):Prop:=match zht as with
|some (i,q,t)=>zkx U i/\oneO i as/\zdw t/\p (as.map ArgP.arg) (λr t2=>mutS U i q t2 λU'=>Q r U') λC t2=>mutS U i q t2 λU'=>X C U'
|none=>noO as/\p (as.map ArgP.arg) (λr _=>Q r U) λC _=>X C U
theorem zgl{B:Bs}{F H:Hp}{Y:_2.St}{U:DSt}{fps:Nat->List Addr}{p:DSpX}{vs:List V}{as:List ArgP}{Qd:T->DSt->Prop}{Xd:DX}{Q:VK}(r:RS K B F H Y U fps)(ha:ArgsP K F H Y U vs as)(hc:zhl p U as Qd Xd)
  (k:∀r U',Qd r U'->∀v F' H' fps' fpr,Res K B F' H' Y U' fps' v r fpr->Q v H') (kx:∀C U',Xd C U'->∀F' H' fps',RS K B F' H' Y U' fps'->E (.ref C) none H'):spX K p vs H Q E:=by
 unfold zhl at hc;split at hc
 ·rename_i i q t0 eo
  obtain⟨ho,h1,hf,hp⟩:=hc;obtain⟨s,hs,hso⟩:∃s,U[i]?=some s/\s.own=true:=by
   unfold zkx at ho;split at ho
   ·rename_i q;exact⟨_,q,rfl⟩
   ·rename_i q;exact⟨_,q,rfl⟩
   ·exact ho.elim
  obtain⟨a,hat,hargs⟩:=zzg (λh=>r.rtS h) ha eo h1 hf;obtain⟨fn,t1,g1,g2,g3,g4,back⟩:=r.put hs hso hat;obtain⟨bf,m1,m2⟩:=hargs fn g2 g3;have go:∀{r2 t2 v F' H' fpr fpo},Post K F H (some (a,fn)) F' H' v r2 fpr t2 fpo->∃fps2,Res K B F' H' Y (U.set i (s.wth (setP t1 q t2))) fps2 v r2 fpr:=λ{r2 t2 v F' H' fpr fpo} post=>by
   obtain⟨io1,io2,io3,io4⟩:=post.io a fn rfl;obtain⟨fps2,r2',e2,e3⟩:=back (F2:=F') (H2:=H') (u2:=t2) (fq:=fpo) post.hh post.ff post.fh (λb hb fb _=>post.nw b hb fb) post.al (λb hb f=>absurd (post.nw b (g2.dom b hb).1 (g2.dom b hb).2) f) io1 io2 (λb hb=>(io3 b hb).elim .inl λz=>.inr (r.newOk z));refine⟨fps2,r2',post.rt,post.nd,λb hb=>(r.newOk (post.fr b hb)).1,λj s' ej hs' b hb hbr=>?_⟩;have fresh:=post.fr b hbr;by_cases hji:j=i
   ·subst hji;rcases e3 b hb with z|z
    ·obtain⟨x',t',a1,a2,a3,a4,a5⟩:=r.rt j s hs (zda hso);exact(a3.dom b z).1 fresh
    ·exact io4 b z hbr
   ·rw[e2 j hji]at hb;rw[xU (λz=>hji z.symm)]at ej;exact(r.newOk fresh).2 j s' ej hs' hb
  refine⟨F,_,bf,some (a,fn),_,_,r.fh,m1,λb hb hbf=>?_,hp,λr2 t2 q2 v F' H' fpr fpo post=>?_,λC t2 q2 F' H' fpo post=>?_⟩
  ·obtain⟨j,hj,hbj,sj,e1,hh⟩:=m2 b hbf;exact r.dj i j s sj (λz=>hj z.symm) hs e1 hso hh b (g4 b hb) hbj
  ·obtain⟨fps2,res⟩:=go post;exact k _ _ (znk hs hso g1 q2) v F' H' fps2 fpr res
  ·obtain⟨fps2,res⟩:=go post;exact kx _ _ (znk hs hso g1 q2) F' H' fps2 res.rs
 ·rename_i eo
  obtain⟨hn,hp⟩:=hc;obtain⟨bf,m1,_⟩:=zdi (λh=>r.rtS h) ha hn;refine⟨F,_,bf,none,_,_,r.fh,m1,λb hb=>by simp[ofp]at hb,hp,λr2 t2 q2 v F' H' fpr fpo post=>?_,λC t2 q2 F' H' fpo post=>?_⟩
  ·have ex:Ext F H F' H':=⟨λb o hb=>post.hh b o (by simp[ofp]) hb,post.ff,post.fh,post.nw⟩
   exact k _ _ q2 v F' H' fps fpr ⟨r.grow ex,post.rt,post.nd,λb hb=>(r.newOk (post.fr b hb)).1,λj s' ej hs' b hb hbr=>(r.newOk (post.fr b hbr)).2 j s' ej hs' hb⟩
  ·have ex:Ext F H F' H':=⟨λb o hb=>post.hh b o (by simp[ofp]) hb,post.ff,post.fh,post.nw⟩
   exact kx _ _ q2 F' H' fps (r.grow ex)
noncomputable def zna1(p:DSpX)(da:DAT):DCX:=λU Q X=>da U λas=>zhl p U as Q X
theorem zx61{p:DSpX}(h:RfAT K tA dA'):RfCx K EY (zf61 (spX K p) EY tA) (zna1 p dA'):=by
 refine⟨λ{B F H Y U fps Qd Xd Q} r hd k kx=>?_⟩;exact h r.fh r.rv hd λas has vs F1 H1 e1 i1=>zgl (r.grow e1) i1 has k kx
noncomputable def zd51(o:Bool)(C:Addr)(m:Str)(p:DSpX)(dp:DP)(da:DAT):DCX:=λU Q X=>dp U λi q u=>nCls C u/\noM m u/\da U λas=>zhl p U ((if o then .o i q u else .b i q u) :: as) Q X
theorem zjq{P:Program}{w:World}{mg:Str->Option Value}{base:Heap}{p:DSpX}{m:Str}{k:Nat}(o:Bool)(Yv:zju P w K mg base C m k ps (spX K p))(hp:RfP K ta dp)(h:RfAT K tA dA'):RfCx K EY (zbz P w K mg base m k EY ta tA) (zd51 o C m p dp dA'):=by
 refine⟨λ{B F H Y U fps Qd Xd Q} r hd k kx=>?_⟩;refine hp r.fh r.rv hd λi q u hu v F1 H1 e1 at1=>?_;have r1:=r.grow e1;obtain⟨fn,hr⟩:=at1.rt r1.rv;obtain⟨a,dx,fs,rfl,h1,h2⟩:=zdh hr hu.1 hu.2.1;refine⟨a,C,dx,fs,ps,spX K p,rfl,h1,h2,Yv,h r1.fh r1.rv hu.2.2 λas has vs F2 H2 e2 i2=>?_⟩;have at2:=at1.mono e2.h;cases o with
|true=>exact zgl (r1.grow e2) (.o at2 i2) has k kx
|false=>exact zgl (r1.grow e2) (.b at2 i2) has k kx
end
section
variable {P:Program}{w:World}{K:Fg}{mg:Str->Option Value}{base:Heap}
noncomputable def xEnd(as:List Arg)(a:Addr)(Xd:Addr->T->Prop):DX:=λC U=>match oIx as with
|none=>Xd C (.fz .none)
|some k=>∃t',U[k]?=some (.io a t')/\Xd C t'
theorem zxt{qual:Str}{st:Stmt}{N:List Str}{k:Nat}{p:DSpX}
  (body:∀(f:Addr)(cdv:Value)(A:Around)(outer:List Env)(s:Shared)(H:Hp)(E:XK),Room k (A.deeper (envOfC qual (zh0 st) s.heap.objs.size f cdv))->∃(t:TS)(d:DX->DS),PSs (cxOf (CX1 P w) P w K mg base N qual (zh0 st) f cdv A outer s H E) (zu3 st) t/\(∀ex,RfSe K (λ_=>E) ex t (d ex))/\∀as Qd Xd a,p as Qd Xd->d (xEnd as a Xd) (zw41 as a Qd) (zse N a as)) :
  znd P w K mg base qual st N k (spX K p):=by
 intro f cdv A outer s H vs Q E hr h;obtain⟨F,as,bf,oo,Qd,Xd,sf,ha,hd,hp,hq,hx⟩:=h;obtain⟨t,d,h1,h2,h3⟩:=body f cdv A outer s H E hr;obtain⟨hl,fl,a1,a2,a3,a4,a5⟩:=zsf ha;obtain⟨a,haa⟩:∃a:Addr,∀a' fp,oo=some (a',fp)->a'=a:=by
  cases oo with
 |none=>exact⟨0,λa' fp e=>by cases e⟩
 |some x=>exact⟨x.1,λa' fp e=>by cases e;rfl⟩
 have slot:∀(i:Nat) sl,(zse N a as)[i]?=some sl->(sl=.un/\as.length<=i) \/ ∃g,as[i]?=some g/\sl=zr81 a g:=λi sl e=>by
  unfold zse at e;by_cases hi:i < as.length
  ·rw[xD (by simpa using hi),wD]at e;obtain⟨g,h1,h2⟩:=wX.mp e;exact .inr ⟨g,h1,h2.symm⟩
  ·rw[xC (by simpa using hi),xK]at e;split at e
   ·cases e;exact .inl ⟨rfl,by lia⟩
   ·cases e
 have val:∀(i:Nat) v,vs[i]?=some v->(_2.start N vs).getD i none=some v:=λi v e=>by
  have hi:i < vs.length:=by
   rcases xF i vs.length with z|z
   ·exact z
   ·rw[w8 z]at e;cases e
  unfold _2.start;rw[v7,xD (by simpa using hi),wD,e];rfl
 have rs:RS K ⟨F,H,ofp oo⟩ F H (_2.start N vs) (zse N a as) fl:=by
  refine⟨λb o _ z=>z,λ_ _ z=>z,sf,λb _ z=>z,λb z=>z,by simp[_2.start,zse,hl],λi x e=>?_,λi sl e hs=>?_,λi sl e ho b hb=>?_,λi j sl sl' hij e1 e2 o1 o2 b hb hb2=>?_⟩
  ·rcases slot i _ e with⟨z,_⟩|⟨g,e1,e2⟩
   ·cases z
   ·cases g with
   |d x'=>cases e2;obtain⟨v,g1,g2⟩:=a1 i x e1;exact⟨v,val i v g1,g2⟩
   |b _=>cases e2
   |o _=>cases e2
  ·rcases slot i _ e with⟨z,_⟩|⟨g,e1,e2⟩
   ·rw[z]at hs;cases hs
   ·cases g with
   |d x'=>rw[e2]at hs;cases hs
   |b x' =>
     obtain⟨v,g1,g2,g3,g4⟩:=a2 i x' e1;rw[e2];exact⟨v,x',val i v g1,rfl,g2,λa u z=>(by cases z),g3⟩
   |o x' =>
     obtain⟨a',g1,g2,g3,g4,g5⟩:=a3 i x' e1;have:=haa a' _ g2;subst this;rw[e2];exact⟨_,x',val i _ g1,rfl,g3,λa u z=>(by cases z;rfl),g4⟩
  ·rcases slot i _ e with⟨z,_⟩|⟨g,e1,e2⟩
   ·rw[z]at ho;cases ho
   ·cases g with
   |d x'=>rw[e2]at ho;cases ho
   |b x'=>rw[e2]at ho;cases ho
   |o x' =>
     obtain⟨a',g1,g2,g3,g4,g5⟩:=a3 i x' e1;refine .inr ⟨?_,λt z=>?_⟩
     ·show b∈ofp oo;rw[g2];exact hb
     ·rw[e2]at z;cases z
  ·rcases slot i _ e1 with⟨z,_⟩|⟨g,f1,f2⟩
   ·rw[z]at o1;cases o1
   ·cases g with
   |d x'=>rw[f2]at o1;cases o1
   |b x'=>rw[f2]at o1;cases o1
   |o x' =>
     obtain⟨a',g1,g2,g3,g4,g5⟩:=a3 i x' f1;rcases slot j _ e2 with⟨z,_⟩|⟨g',f1',f2'⟩
     ·rw[z]at o2;cases o2
     ·cases g' with
     |d x''=>rw[f2']at o2;cases o2
     |b x'' =>
       obtain⟨v,k1,k2,k3,k4⟩:=a2 j x'' f1';exact hd b (by rw[g2];exact hb) (k4 b hb2)
     |o x'' =>
       obtain⟨a'',k1,k2,k3,k4,k5⟩:=a3 j x'' f1';rw[g5]at k5;exact hij (wV.inj k5)
 have fin:∀{F' H':Hp}{Y':_2.St}{U':DSt}{fps':Nat->List Addr}{v:V}{r:T}{fpr:List Addr},Res K ⟨F,H,ofp oo⟩ F' H' Y' U' fps' v r fpr->exA as a Qd r U'->Q v H':=λ{F' H' Y' U' fps' v r fpr} res ex=>by
  unfold exA at ex;split at ex
  ·rename_i eo
   refine hq r (.fz .none) ex v F' H' fpr [] ⟨res.rs.hh,res.rs.ff,res.rs.fh,res.rs.nw,res.rs.al,res.rt,res.nd,res.fr,λa' fp e=>?_⟩;obtain⟨k,x,g1,g2,g3⟩:=a5 a' fp e;rw[eo]at g3;cases g3
  ·rename_i ko eo
   obtain⟨t',et,qd⟩:=ex;obtain⟨x',t'',b1,b2,b3,b4,b5⟩:=res.rs.rt ko _ et rfl;cases b2;have:=b4 a t' rfl;subst this;refine hq r t' qd v F' H' fpr (fps' ko) ⟨res.rs.hh,res.rs.ff,res.rs.fh,res.rs.nw,res.rs.al,res.rt,res.nd,res.fr,λa' fp e=>?_⟩;have ea:=haa a' fp e;subst ea;refine⟨b3,b5,λb hb=>?_,λb hb=>res.dj ko _ et rfl b hb⟩;rcases res.rs.fr ko _ et rfl b hb with z|⟨z,_⟩
   ·exact .inr z
   ·have:b∈ofp oo:=z;rw[e]at this;exact .inl this
 have finx:∀{F' H':Hp}{Y':_2.St}{U':DSt}{fps':Nat->List Addr}{C:Addr},RS K ⟨F,H,ofp oo⟩ F' H' Y' U' fps'->xEnd as a Xd C U'->E (.ref C) none H':=λ{F' H' Y' U' fps' C} rs' ex=>by
  have res:Res K ⟨F,H,ofp oo⟩ F' H' Y' U' fps' .non (.fz .none) []:=⟨rs',.fz .non,.nil,λa ha=>by simp at ha,λ_ _ _ _ a _ ha=>by simp at ha⟩
  unfold xEnd at ex;split at ex
  ·rename_i eo
   refine hx C (.fz .none) ex F' H' [] ⟨res.rs.hh,res.rs.ff,res.rs.fh,res.rs.nw,res.rs.al,res.rt,res.nd,res.fr,λa' fp e=>?_⟩;obtain⟨k,x,g1,g2,g3⟩:=a5 a' fp e;rw[eo]at g3;cases g3
  ·rename_i ko eo
   obtain⟨t',et,qd⟩:=ex;obtain⟨x',t'',b1,b2,b3,b4,b5⟩:=res.rs.rt ko _ et rfl;cases b2;have:=b4 a t' rfl;subst this;refine hx C t' qd F' H' (fps' ko) ⟨res.rs.hh,res.rs.ff,res.rs.fh,res.rs.nw,res.rs.al,res.rt,res.nd,res.fr,λa' fp e=>?_⟩;have ea:=haa a' fp e;subst ea;refine⟨b3,b5,λb hb=>?_,λb hb=>res.dj ko _ et rfl b hb⟩;rcases res.rs.fr ko _ et rfl b hb with z|⟨z,_⟩
   ·exact .inr z
   ·have:b∈ofp oo:=z;rw[e]at this;exact .inl this
 refine⟨t,h1,h2 (xEnd as a Xd) (λr q=>finx r q) rs (h3 as Qd Xd a hp) ⟨λr q=>fin ⟨r,.fz .non,.nil,λa ha=>by simp at ha,λ_ _ _ _ a _ ha=>by simp at ha⟩ q,λ_ z=>z.elim,λ_ z=>z.elim,λres q=>fin res q⟩⟩
theorem zn81{p:DSpX}(h:∀as Qd Xd,p as Qd Xd->as.length=ps.length):∀vs H Q E,spX K p vs H Q E->vs.length=ps.length:=λvs H Q E z=>by
 obtain⟨F,as,bf,oo,Qd,Xd,_,ha,_,hp,_⟩:=z;rw[zdo ha];exact h as Qd Xd hp
end
end _4
namespace _3
open PySem PySem.Spec PyProof.Rows _2
variable {K:Fg}
section
variable {X:Cx}
noncomputable def zof1(K:Fg)(x:V)(H:Hp)(Q:Str->Hp->Prop):Prop:=kFmt x H Q \/ ∃ds:List PyData,Is K H x (.list ds)/\(xM ds).showable=true/\(xM ds).hasDict=false/\(xM ds).depth<=40/\(xM ds).shown.length<=sizeLine/\Q (xM ds).shown H
noncomputable def zlb1(K:Fg)(te:TE)(t:TJ):TJ:=λacc Y H Q=>te Y H λx H1=>zof1 K x H1 λz H2=>(acc++z).length<=sizeLine/\t (acc++z) Y H2 Q
theorem zbe{k:Nat}{e:Expr}{te:TE}{pos:Pos}{es:List Expr}{t:TJ}(hK:X.K=K)(hr:Room k X.A)(he:PE X e te)(h:PJ X es t):PJ X (.FormattedValue e (-1) none pos :: es) (zlb1 K te t):=by
 subst hK;intro acc pins s Y H Q I q;refine joinParts_cons (FormattedValue_plain (thn (he pins s Y H _ I q) λv s1 hz=>?_));obtain⟨x,H1,I1,r1,q1⟩:=hz;rcases q1 with(⟨z,rfl,hz,q1⟩|⟨i,rfl,hi,q1⟩)|⟨ds,hi,h1,h2,h3,h4,q1⟩
 ·obtain⟨t',rfl⟩:=r1;exact formatField_str (λt2 tk=>⟨q1.1,h _ pins _ Y H1 Q (I1.tok tk) q1.2⟩) hz
 ·obtain⟨t',rfl⟩:=r1;exact wpAny_formatField_int hi ⟨q1.1,h _ pins _ Y H1 Q (I1.tok _) q1.2⟩
 ·obtain⟨as,rd⟩:=zvc I1 hi r1;obtain⟨a,xs,rfl,_,_⟩:=hi.list_inv;obtain rfl:v=u7 a:=r1;have hu:=hr.un;exact formatField_of_reads rd h1 (λz=>by rw[h2]at z;cases z) hr.gd (by lia) (λ_ _ e=>e) (λh' u tk k=>⟨q1.1,h _ pins _ Y H1 Q (I1.kept (t':=tk) k) q1.2⟩) h4
variable {k:Nat}{m:Str}{pos apos:Pos}{o:Expr}{ta:TE}{EY:St->XK}
theorem zit{P:Program}{w:World}{mg:Str->Option Value}{base:Heap}{pl:Sem Bool}(hP:X.prog=P)(hw:X.w=w)(hK:X.K=K)(hmg:X.mg=mg)(hbs:X.base=base)(hr:Room k X.A)(hx:∀Y,zqc (CX1 X.prog X.w) X (EY Y) Y)(he:PE X o ta)
  (ht:eval (.Call (.Attribute o m apos) [] [] pos) X.env=(do
   let ov <- eval o X.env
   standAt apos.atName
   let (f,first) <- holding [ov] (getMethod ov m pl)
   callWith pos f first (backTo pos (starEach [] X.env)) (backToKw pos (keywordEach [] X.env))):=by rfl) :
  PE X (.Call (.Attribute o m apos) [] [] pos) (zbz P w K mg base m k EY ta tNil):=by
 subst hP hw hK hmg hbs;intro pins s Y H Q I h;refine PySem.W.methodCall_KW (pl:=pl) (thn (he pins s Y H _ I h) λu s1 hz=>?_) ht;obtain⟨x,H1,I1,rx,a,C,dx,fs,ps,sp,ex,ea,l,d,q⟩:=hz;subst ex;obtain rfl:u=u7 a:=rx;obtain⟨f,fd,c,hm,F,b⟩:=d;refine zd7 I1 ea c hm l ?_;exact PySem.W.callWith_K0 (first:=[.ref a]) I1.kIn hm.kp (zn01 (us:=[.ref a]) (vs:=[.ref a]) F hr b (hx Y) I1 (.cons rfl .nil) q)
end
end _3
namespace _4
open PySem PySem.Spec PyProof.Rows _2 _3
section
variable {K:Fg}{te:TE}{de:DE}{tj:TJ}
noncomputable abbrev DJ:=DSt->Nat->(Nat->Prop)->Prop
variable {dj:DJ}
noncomputable def RfFs(K:Fg)(tj:TJ)(dj:DJ):Prop:=∀{F H:Hp}{Y:_2.St}{U:DSt}{acc:Str}{n:Nat}{Qd:Nat->Prop}{Q:Str->Hp->Prop},Same F H->RV K F H Y U->acc.length<=n->dj U n Qd->(∀m,Qd m->∀z F' H',Ext F H F' H'->z.length<=m->Q z H')->tj acc Y H Q
theorem zho(x y:Str):(x++y).length=x.length+y.length:=by
 show(x.cps++y.cps).size=_;rw[Array.size_append];rfl
noncomputable def dJN:DJ:=λ_ n Q=>n<=sizeLine/\Q n
theorem zas:RfFs K jNil dJN:=λs _ hn h k=>⟨wP hn h.1,k _ h.2 _ _ _ (Ext.refl s) hn⟩
noncomputable def dJT(l:Nat)(dj:DJ):DJ:=λU n Q=>n+l<=sizeLine/\dj U (n+l) Q
theorem zlb{y:Str}{l:Nat}(hy:y.length<=l)(h:RfFs K tj dj):RfFs K (zhe1 y tj) (dJT l dj):=by
 intro F H Y U acc n Qd Q s rv hn hd k;have:=zho acc y;exact⟨by have:=hd.1;lia,h s rv (by lia) hd.2 k⟩
noncomputable def zs51:D->Prop
|.list ds=>∃ns:List Int,ds=ns.map .int/\ns.length<=12/\∀n∈ns,0<=n/\n < 12
|_=>False
theorem zpu{n:Int}(h0:0<=n)(h1:n < 12):n.natAbs.log2 < 1920/\(PyData.shown (.int n)).length<=8/\(wK n).weight<=4:=by
 have:n=0 \/ n=1 \/ n=2 \/ n=3 \/ n=4 \/ n=5 \/ n=6 \/ n=7 \/ n=8 \/ n=9 \/ n=10 \/ n=11:=by lia
 rcases this with rfl|rfl|rfl|rfl|rfl|rfl|rfl|rfl|rfl|rfl|rfl|rfl <;> exact⟨by decide,by unfold PyData.shown;decide +kernel,by decide +kernel⟩
theorem zlm:∀{ns:List Int},(∀n∈ns,0<=n/\n < 12)->z9 (ns.map .int)=true/\kP (ns.map .int)=false/\k6 8 (ns.map .int)=true/\yL (ns.map .int)<=1/\k7 (ns.map .int)<=5 * ns.length
|[],_=>by simp[z9,kP,k6,yL,k7]
|n :: r,h=>by
  obtain⟨a,b,c,d,e⟩:=zlm (ns:=r) λx hx=>h x (v8 _ hx);obtain⟨h0,h1⟩:=h n wJ;obtain⟨s1,s2,s3⟩:=zpu h0 h1;rw[wM];refine⟨?_,?_,?_,?_,?_⟩
  ·simp only[z9,PyData.showable,a,Bool.and_true];exact decide_eq_true s1
  ·simp only[kP,PyData.hasDict,b,Bool.or_false]
  ·simp only[k6,uaH,c,Bool.and_true];exact decide_eq_true s2
  ·simp only[yL,PyData.depth];lia
  ·simp only[k7,xO];lia
noncomputable def dJL(de:DE)(dj:DJ):DJ:=λU n Q=>de U λd=>zs51 d/\n+1000<=sizeLine/\dj U (n+1000) Q
theorem za81(he:RfE K te de)(h:RfFs K tj dj):RfFs K (zlb1 K te tj) (dJL de dj):=by
 intro F H Y U acc n Qd Q s rv hn hd k;refine he s rv hd λd hx v F1 H1 e1 i1=>?_;obtain⟨hs,h1,h2⟩:=hx;cases d with
|list ds =>
  obtain⟨ns,rfl,hl,hb⟩:=hs;obtain⟨a,b,c,dd,e⟩:=zlm hb;have hz:=PyData.shown_le 8 (by lia) (.list (ns.map .int)) (by simp only[uaH];exact c);have hw:(xM (ns.map .int)).weight<=60:=by simp only[PyData.weight];lia
  have hz2:(xM (ns.map .int)).shown.length<=1000:=by lia
  have:=zho acc (xM (ns.map .int)).shown;refine .inr ⟨_,i1.mono e1.fh,by simp only[PyData.showable];exact a,by simp only[PyData.hasDict];exact b,by simp only[PyData.depth];lia,by lia,by lia,?_⟩;exact h e1.fh (rv.ext e1) (by lia) h2 λm q z F2 H2 e2 hz=>k m q z F2 H2 (e1.trans e2) hz
|none=>exact hs.elim
|bool _=>exact hs.elim
|int _=>exact hs.elim
|str _=>exact hs.elim
|tuple _=>exact hs.elim
|dict _=>exact hs.elim
noncomputable def zce(dj:DJ):DE:=λU Q=>dj U 0 λn=>∀z:Str,z.length<=n->Q (.str z)
theorem zvb(h:RfFs K tj dj):RfE K (zqw tj) (zce dj):=by
 intro F H Y U Qd Q s rv hd k;exact h s rv (u3 0) hd λm q z F' H' e1 hz=>k _ (q z hz) _ F' H' e1 (.str z)
end
theorem zjk(dc:DCX)(ex:DX)(E:DEnds)(U:DSt):zj11 dc ex E U=dc U (λ_ U'=>E.nx U') ex:=rfl
theorem zgq(i:Nat)(dc:DCX)(ex:DX)(E:DEnds)(U:DSt):zp61 i dc ex E U=dc U (λr U'=>E.nx (U'.set i (slot r))) ex:=rfl
theorem zek(C:Addr)(dA:DF)(ex:DX)(E:DEnds)(U:DSt):zfl C dA ex E U=dA U λds=>ds.length<=sizeLine/\ex C U:=rfl
theorem zhs(p:DSpX)(da:DAT)(U:DSt)(Q:T->DSt->Prop)(X:DX):zna1 p da U Q X=da U λas=>zhl p U as Q X:=rfl
theorem zlq(o:Bool)(C:Addr)(m:Str)(p:DSpX)(dp:DP)(da:DAT)(U:DSt)(Q:T->DSt->Prop)(X:DX):zd51 o C m p dp da U Q X=dp U λi q u=>nCls C u/\noM m u/\da U λas=>zhl p U ((if o then .o i q u else .b i q u) :: as) Q X:=rfl
theorem zmc1(U:DSt)(n:Nat)(Q:Nat->Prop):dJN U n Q=(n<=sizeLine/\Q n):=rfl
theorem zma1(l:Nat)(dj:DJ)(U:DSt)(n:Nat)(Q:Nat->Prop):dJT l dj U n Q=(n+l<=sizeLine/\dj U (n+l) Q):=rfl
theorem zo91(de:DE)(dj:DJ)(U:DSt)(n:Nat)(Q:Nat->Prop):dJL de dj U n Q=de U λd=>zs51 d/\n+1000<=sizeLine/\dj U (n+1000) Q:=rfl
theorem zwg(dj:DJ)(U:DSt)(Q:D->Prop):zce dj U Q=dj U 0 λn=>∀z:Str,z.length<=n->Q (.str z):=rfl
theorem zpg(p:DSpX)(U:DSt)(as:List ArgP)(Q:T->DSt->Prop)(X:DX):zhl p U as Q X=match zht as with
|some (i,q,t)=>zkx U i/\oneO i as/\zdw t/\p (as.map ArgP.arg) (λr t2=>mutS U i q t2 λU'=>Q r U') λC t2=>mutS U i q t2 λU'=>X C U'
|none=>noO as/\p (as.map ArgP.arg) (λr _=>Q r U) λC _=>X C U:=rfl
noncomputable def vwL(t:T)(Q:D->Prop):Prop:=∃d,toD t=some d/\Q d
section
variable {K:Fg}{te ta:TE}{tA:TA}{da de:DE}{dA:DF}{dp:DP}{dn:DN}
variable (K)in
noncomputable def dNL(dn:DN):DE:=λU Q=>dn U λr=>vwL r Q
end
theorem zcc1(t:T)(Q:D->Prop):vwL t Q=∃d,toD t=some d/\Q d:=rfl
theorem zib1(dn:DN)(U:DSt)(Q:D->Prop):dNL dn U Q=dn U λr=>vwL r Q:=rfl
open PySem.W PySem.Calls PySem.Builtin PySem.Builtin.ObjectAttr PySem.Builtin.Getset_descriptor
section
variable {prog:Program}{w:World}{A:Around}{E:Value->Shared->Prop}{s:Shared}{K:Fg}{x D:Addr}{ox:Obj}
structure XAt(h:Heap)(x:Addr)(ox:Obj)(C:Addr):Prop where
 at_:h.get? x=some ox
 cls:ox.cls=.ref C
theorem XAt.type{M:Model}{h:Heap}(I:XAt h x ox D):Looks M h (typeOf (.ref x)) (.ref D):=I.cls ▸ (Looks.ld I.at_).andThen .now
theorem zyn{R:Result->Shared->Prop}{tp:Value}(X:K.In s.heap)(I:XAt s.heap x ox D)(hm:mroIn K D (.type "object")=some true)
  (h:R (.ok (.ret (.ref D))) s):codeAny (model prog w) A (.call (.builtin "getset_descriptor.__get__") ⟨[.builtin "object.__class__",.ref x,tp],[]⟩) R s:=by
 obtain⟨hh,g,dr,t,os⟩:=s;have L0:=I.type (M:=model prog w);have L1:=looks_mroIn (M:=model prog w) X hm;refine codeAny_call_builtin KF.slot_gs.plain KF.entry_gs (KF.slot_gs.check _ _ _ _ _ _ _ _ KF.type_class (KF.args_gs _ _ _) ?_);unfold Builtin.«getset_descriptor.__get__» descrGet;rw[dga_obj];refine wpAny_bind (wpAny_pure ?_);unfold descrGetter descrCheckInstance descrNameAndClass isInstance;simp only[KF.owner_class]
 repeat lk
 refine⟨Code.quiet_builtin _ (by decide +kernel),codeAny_builtin KF.entry_class ?_⟩;unfold Builtin.«object.__class__» shownTypeOf
 repeat lk
 exact h
theorem zdv{Q:Option Value->Shared->Prop}(X:K.In s.heap)(I:XAt s.heap x ox D)(hga:findIn K (.ref D) "__getattribute__"=some (some (.builtin "BaseException.__getattribute__")))(hgn:findIn K (.ref D) "__getattr__"=some none)(ha:findIn K (.ref D) "__class__"=some (some (.builtin "object.__class__")))
  (hn:specialIn K (.builtin "object.__class__") "__get__"=some (some (.builtin "getset_descriptor.__get__"))) (htk:takesIn K (.builtin "object.__class__")=some true) (hm:mroIn K D (.type "object")=some true) (hmB:mroIn K D (.type "BaseException")=some true)
  (h:Q (some (.ref D)) { s with toks:=s.toks+1 }):wpAny (model prog w) A (getAttr? (.ref x) "__class__") Q E s:=by
 obtain⟨hh,g,d,t,os⟩:=s;have L0:=I.type (M:=model prog w);have L1:=looks_findIn (M:=model prog w) X hga;have _2:=looks_findIn (M:=model prog w) X hgn;have _3:Looks (model prog w) hh (Builtin.ObjectAttr.find (.ref x) (.ref D) "__class__") (.bind (.builtin "getset_descriptor.__get__") (.builtin "object.__class__")) :=
  (looks_findIn X ha).andThen ((show Looks _ _ (Builtin.ObjectAttr.getOf _) _ from looks_specialIn X hn).andThen ((show Looks _ _ (Builtin.ObjectAttr.dataDescriptor? (some (.builtin "object.__class__")) (some (.builtin "getset_descriptor.__get__"))) (some (.builtin "getset_descriptor.__get__",.builtin "object.__class__"))from(looks_takesIn X htk).andThen .now).andThen (Looks.tag .now)))
 have LB:=looks_mroIn (M:=model prog w) X hmB;unfold getAttr? getAttrBy? getAttrBy;refine wpAny_bind (wpAny_mkText (wpAny_bind (wpAny_attempt (wpAny_holding (wpAny_bind (L0.at (wpAny_bind (L1.at ?_))))))));show wpAny _ _ (getAttrByItsOwn _ _ _ _ _ _) _ _ _;unfold getAttrByItsOwn;refine wpAny_bind ?_;show wpAny _ _ (typeLookup _ _) _ _ _;refine _2.at ?_;refine wpAny_bind (wpAny_attempt (wpAny_holding ?_));show wpAny _ _ (boundAndCalled _ _ _) _ _ _;unfold boundAndCalled;have f3:bindSpecial (.builtin "BaseException.__getattribute__") (.ref x)=pure (.builtin "BaseException.__getattribute__",[.ref x]):=F.excAttr_ValueError.ga.bind (.ref x);rw[f3];refine wpAny_bind (wpAny_pure ?_);refine wpAny_call (codeAny_call_builtin F.excAttr_ValueError.ga.plain F.entry_bexc_ga ?_);have hk:builtinKind "BaseException.__getattribute__"=some .slot:=by decide +kernel
 have hsplit:splitId "BaseException.__getattribute__"=some ("BaseException", "__getattribute__"):=by decide +kernel
 have hargs:=F.args_bexc_ga (.ref x) (.str "__class__" t);have LI:Looks (model prog w) hh (isInstance (.ref x) (.type "BaseException")) true:=L0.andThen LB;simp only[checkBuiltinCall,hk,hsplit];refine wpAny_bind (LI.at ?_)
 repeat (any_goals (first|assumption|wp_step))
 refine wpAny_loadPart_at I.at_ ?_;refine wpAny_pure ?_;rw[I.cls];refine wpAny_bind (_3.at ?_);show wpAny _ _ (Builtin.ObjectAttr.bindTo _ _ _ _) _ _ _;unfold Builtin.ObjectAttr.bindTo;show wpAny _ _ (holding [k8 "object.__class__"] (call (k8 "getset_descriptor.__get__") [k8 "object.__class__",u7 x,u7 D]) >>= ret) _ _ _;refine wpAny_bind (wpAny_holding (wpAny_call (zyn (ox:=ox) X I hm ?_)));refine wpAny_pure ?_;exact handed_on rfl (wpAny_pure h)
structure ExK(K:Fg)(D:Addr):Prop where
 hc:(clsIn K D).isSome=true
 hga:findIn K (.ref D) "__getattribute__"=some (some (.builtin "BaseException.__getattribute__"))
 hgn:findIn K (.ref D) "__getattr__"=some none
 ha:findIn K (.ref D) "__class__"=some (some (.builtin "object.__class__"))
 hn:specialIn K (.builtin "object.__class__") "__get__"=some (some (.builtin "getset_descriptor.__get__"))
 htk:takesIn K (.builtin "object.__class__")=some true
 hm:mroIn K D (.type "object")=some true
 hmB:mroIn K D (.type "BaseException")=some true
theorem zty(k:ExK K D):KitX K (.ref x) (.ref D) (λh=>XAt h x ox D) where
 ty:=λ_ _ _ I=>I.type
 it:=λ_ _ X _=>by
  obtain⟨cdD,hcD⟩:=yV.mp k.hc;unfold clsIn at hcD;split at hcD
  ·rename_i c' d' cd' sl' ho
   intro A' Q' E' s' k q;unfold isType loadHead;exact wpAny_bind (wpAny_loadPart (k _ _ (X _ _ ho)) (wpAny_pure q))
  ·cases hcD
 ne:=λh tp dd its n sl X htp=>by
  obtain⟨cdD,hcD⟩:=yV.mp k.hc;refine Bool.eq_false_iff.mpr λq=>?_;have e:D=tp:=u7.inj (beq_iff_eq.mp q);subst e;unfold clsIn at hcD;split at hcD
  ·rename_i c' d' cd' sl' ho
   have z:=(X _ _ ho).symm.trans htp;cases z
  ·cases hcD
 ca:=λX I q=>zdv X I k.hga k.hgn k.ha k.hn k.htk k.hm k.hmB q
theorem exc_isinst{c:Value}{b:Bool}{Q:Value->Shared->Prop}(k:ExK K D)(X:K.In s.heap)(I:XAt s.heap x ox D)(e:kitOne K (.ref D) c=some b)(h:∀tk,Q (.bool b) { s with toks:=tk }) :
  wpAny (model prog w) A (call (.builtin "isinstance") [.ref x,c]) Q E s:=kia_one (zty k) X I e (λz=>nomatch z) h
end
end _4
namespace _3
open PySem PySem.Spec PyProof.Rows _2
variable {A:Around}{E:Value->Shared->Prop}{L:Addr}{M:Model}{hs:List ExceptHandler}{i:Nat}{outer:List Env}{pos:Pos}{x:Str}
section
variable {X:Cx}{pins:List (Addr×Obj)}{Y:St}{H:Hp}{s:Shared}
theorem zz91{M:Model}{A:Around}{E:Value->Shared->Prop}{Q:Bool->Shared->Prop}(I:Inv X pins Y H s)(hN:X.N.Nodup)(hi:X.N[i]?=some x)(hk:X.env.kindOf x=some .local){v:V}(hv:Y[i]?=some (some v))
  (h:∀h',Inv X pins (Y.set i none) H { s with heap:=h' }->Q true { s with heap:=h' }):wpAny M A (nsDel X.env.locals x) Q E s:=by
 obtain⟨m,hn,hl⟩:=id I.loc;have hiY:i < Y.length:=by rw[I.len];exact(wR.mp hi).1
 have cne:=I.cne;have tracked:∀{a:Addr}{h':Heap},(∃o,s.heap.get? a=some o/\H a=none)->Heap.SameBut a s.heap h'->HOk X.prog X.w H h':=λ{a h'} ha hs b ob e=>by
  obtain⟨_,_,hfree⟩:=ha;refine(I.hok b ob e).stay (λc w' hc q=>(hs.2 c ?_).trans q) (λ_ q=>q) λ_ _ q=>q;rintro rfl;rcases hc with rfl|hc
  ·rw[hfree]at e;cases e
  ·rw[hfree]at hc;cases hc
 have hm:(m x).isSome=true:=by
  obtain⟨u',r',q⟩:=hl i x v hi hv (.inl hk);rcases q with⟨k,e⟩|⟨k,_⟩
  ·rw[e];rfl
  ·rw[hk]at k;rcases k with k|k <;> cases k
 refine wpAny_nsDel_keeps hn λh' v' hn' hs=>?_;rw[hm];obtain⟨oL,_,_,hoL,_⟩:=id hn;refine h _ ⟨I.ok,I.os,I.bare,⟨λb o e n hb hx=>?_,λb o e n hb hx=>?_,I.base.free,λb o e hx=>?_,I.base.tups,I.base.frzs,I.base.tbls⟩,⟨_,hn',λj y v' e1 e2 e3=>?_⟩,λy c e=>?_,I.free,I.freeC,λp hp=>?_,tracked ⟨oL,hoL,I.free⟩ hs,by simpa using I.len⟩
 ·exact(hs.2 b (wN (wS (u9 e) I.ok.above))).trans (I.base.keep b o e n hb hx)
 ·obtain⟨sl,e1⟩:=I.base.slot b o e n hb hx;exact⟨sl,(hs.2 b (wN (wS (u9 e) I.ok.above))).trans e1⟩
 ·obtain⟨o',e1⟩:=I.base.there b o e hx;exact⟨o',(hs.2 b (wN (wS (u9 e) I.ok.above))).trans e1⟩
 ·by_cases hj:j=i
  ·subst hj;rw[xI hiY]at e2;cases e2
  ·rw[xU (Ne.symm hj)]at e2;obtain⟨u',r',q⟩:=hl j y v' e1 e2 e3;refine⟨u',r',?_⟩;rcases q with⟨k,e⟩|⟨k,c,e,z⟩
   ·refine .inl ⟨k,?_⟩;have:y≠x:=λe=>hj (znl hN e1 (e ▸ hi));simp[this,e]
   ·exact .inr ⟨k,c,e,z.sameBut hs (cne y c e)⟩
 ·obtain⟨w',z⟩:=I.cell y c e;exact⟨w',z.sameBut hs (cne y c e)⟩
 ·obtain⟨e,n,ne,nf,d⟩:=I.pin p hp;exact⟨(hs.2 p.1 ne).trans e,n,ne,nf,d⟩
theorem zlt{Q:Unit->Shared->Prop}(I:Inv X pins Y H s)(hN:X.N.Nodup)(hi:X.N[i]?=some x)(hk:X.env.kindOf x=some .local)
  (h:∀s',Inv X pins (Y.set i none) H s'->Q () s'):wpAny M A (do bindName X.env x .none;unbindBehindTheSuite X.env x pos) Q E s:=by
 have hiY:i < Y.length:=by rw[I.len];exact(wR.mp hi).1
 have hp:(X.env.scope.kind == .class || (X.env.scope.kind == .module && X.env.locals != X.env.globals))=false:=by rw[I.ok.kind];rfl
 refine wpAny_bind (wpAny_bindName (zch I hN hi (.inl hk) (v:=.non) rfl (λs1 I1=>?_) (.inr hk)));unfold unbindBehindTheSuite;refine wpAny_onRaise ?_;unfold unbindName;refine wpAny_bind (wpAny_point (wpAny_bind ?_));unfold deleteName;simp only[hk,hp];rw[if_neg (by decide)];refine wpAny_bind (zz91 I1 hN hi hk (xI hiY) λh' I2=>?_);simp only[if_true,Bool.not_true,xV,if_false];rw[zF]at I2;exact wpAny_pure (wpAny_point (h _ I2))
end
noncomputable def asX(X:Cx)(ea:Addr)(oe:Obj):Cx:={ zd81 X ea with pn:=X.pn++[(ea,oe)] }
section
variable {X:Cx}{pins:List (Addr×Obj)}{Y:St}{H H':Hp}{s s':Shared}{ea C:Addr}{oe:Obj}{B:Heap}{a0:Value}
theorem zva1(I:Inv X pins Y H s)(hp:s.heap.get? ea=some oe/\H ea=none/\ea≠X.env.locals/\ea ∉ X.fs/\∀v,oe.data≠.cell v):Inv (asX X ea oe) pins Y H s:=by
 have Im:=zer I ea;refine⟨⟨Im.ok.mod,Im.ok.kind,Im.ok.glob,Im.ok.blt,Im.ok.above,Im.ok.inj,Im.ok.has,Im.ok.cab,λz=>Bool.noConfusion z,Im.ok.frames,Im.ok.stk,Im.ok.exf,Im.ok.bs,Im.ok.bsz,Im.ok.noex,Im.ok.exfs,Im.ok.funs,Im.ok.frf⟩,Im.os,Im.bare,Im.base,Im.loc,Im.cell,Im.free,Im.freeC,λp h=>?_,Im.hok,Im.len⟩;have h':p∈(X.pn++[(ea,oe)])++pins:=h;rcases u6.mp h' with z|z
 ·rcases u6.mp z with z|z
  ·exact I.pin p (xN _ z)
  ·simp at z;subst z;exact hp
 ·exact I.pin p (xB _ z)
theorem ze01(ok:X.Ok)(I:Inv (asX X ea oe) pins Y H s):Inv X pins Y H s :=
 ⟨ok,I.os,I.bare,I.base,I.loc,I.cell,I.free,I.freeC,λp h=>I.pin p (by
  show p∈(X.pn++[(ea,oe)])++pins;rcases u6.mp h with z|z
  ·exact xN _ (xN _ z)
  ·exact xB _ z),I.hok,I.len⟩
noncomputable def unD(i:Nat)(D:Ends):Ends:={ nx:=λY H=>D.nx (Y.set i none) H,rt:=D.rt,bk:=λY H=>D.bk (Y.set i none) H,ct:=λY H=>D.ct (Y.set i none) H }
noncomputable def tAs(i:Nat)(t:Addr->TS):TS:=λD Y H=>∀ea,H ea=none->t ea (unD i D) (Y.set i (some (.ref ea))) H
inductive HandsN(X:Cx):List ExceptHandler->List (Value×(Addr->TS))->Prop
|nil:HandsN X [] []
|cons {x n:Str} {np pos:Pos} {i:Nat} {b₀:Stmt} {suite:List Stmt} {c:Value} {t:Addr->Addr->TS} {hs:List ExceptHandler} {l:List (Value×(Addr->TS))}:Gl X x->(X.mg x=some c \/ (X.mg x=none/\bootBuiltins x=some c/\x ≠ "__name__"))->(x == ("__debug__":Str))=false ->
   X.N.Nodup->X.N[i]?=some n->X.env.kindOf n=some .local->(∀ea oe C,oe.cls=.ref C->PSs (asX X ea oe) (b₀ :: suite) (t C ea))->HandsN X hs l ->
   HandsN X (.ExceptHandler (some (.Name x np)) (some n) (b₀ :: suite) pos :: hs) ((c,λC=>tAs i (t C)) :: l)
noncomputable def zjs(K:Fg):List (Value×(Addr->TS))->Addr->Ends->St->Hp->Prop
|[],_,_,_,_=>False
|(c,t) :: r,C,D,Y,H=>∃b,PySem.W.exmOne K (.ref C) c=some b/\if b=true then t C D Y H else zjs K r C D Y H
theorem zeq(I:Inv X pins Y H s)(c:Come X H s ea C B a0 H' s')(hthere:∃o,s'.heap.get? ea=some o){D:Ends}:∀{hs:List ExceptHandler}{l:List (Value×(Addr->TS))},HandsN X hs l->∀(h:Heap)(tk:Nat),Heap.FlyingW B X.stack ea (.ref C) a0 h->s'.heap.UpToSlots h->zjs X.K l C D Y H' ->
  wpAny (model X.prog X.w) X.A (handleBy (.ref ea) X.env hs) (SP X pins D) X.xe { s' with heap:=h,toks:=tk }:=by
 intro hs l hh
 induction hh with
|nil=>intro h tk _ _ q;exact False.elim q
|@cons x n np pos i b₀ suite cl t hs l hg hm hdb hN hi hk ht hr ih =>
  intro h tk fl sm q;obtain⟨b,hb,q⟩:=q;have I5:=zmp (tk:=tk) I c fl.1 sm;have Im:=zer I5 ea;have go:∀(E':Value->Shared->Prop)(Q':Value->Shared->Prop),Q' cl { s' with heap:=h,toks:=tk }->wpAny (model X.prog X.w) (X.A.mark (some (.ref ea))) (eval (.Name x np) X.env) Q' E' { s' with heap:=h,toks:=tk }:=λE' Q' z=>by
   rcases hm with hm|⟨hm,hv,hn⟩
   ·exact zng (X:=zd81 X ea) Im hg hm z hdb
   ·exact zuk (X:=zd81 X ea) Im hg hm hv z hn hdb
  refine wpAny_handleBy_cons (codeAny_handlers_test (go _ _ ?_)) (by intro z;cases z);obtain⟨ob,hob,hcl⟩:=fl.there;have LT:PySem.W.Looks (model X.prog X.w) h (typeOf (.ref ea)) (.ref C):=by
   rw[<- hcl];exact(PySem.W.Looks.ld hob).andThen .now
  refine(PySem.W.exm_one (I5.kIn) LT hb).here ?_;cases b with
 |false =>
   have q':zjs X.K l C D Y H':=by simpa using q
   exact ih h tk fl sm q'
 |true =>
   have q':tAs i (t C) D Y H':=by simpa using q
   refine codeAny_handlers_suite_as (lands_againW fl λh6 fl6 sm6=>?_);have I6:=zmp (tk:=tk) I c fl6.1 (sm.trans sm6);obtain⟨oe,vs,ho6,hc6,hd6,_⟩:=fl6.first
   have hne:B.get? ea=none:=fl6.2.1;have hH:H' ea=none:=by
    cases e:H' ea with
   |none=>rfl
   |some u =>
     obtain⟨o,ho⟩:=hthere;have:=c.b1 ea o u ho e;rw[hne]at this;cases this
   have Ia:Inv (asX X ea oe) pins Y H' { s' with heap:=h6,toks:=tk }:=by
    refine zva1 I6 (ea:=ea) (oe:=oe) ⟨ho6,hH,λz=>?_,λhb=>?_,λv z=>by rw[hd6]at z;cases z⟩
    ·obtain⟨m,⟨oL,es,ep,hoL,hdL,_⟩,_⟩:=I6.loc;have hoL':h6.get? X.env.locals=some oL:=hoL;rw[<- z,ho6]at hoL';cases hoL';rw[hd6]at hdL;cases hdL
    ·obtain⟨_,o',e',hd⟩:=I6.funs.mem hb;have e'':h6.get? ea=some o':=e';rw[ho6]at e'';cases e'';exact hd _ hd6
   refine zch (X:=asX X ea oe) Ia hN hi (.inl hk) (v:=.ref ea) rfl (λs7 I7=>?_) (.inr hk);refine wpAny_noRaise (thn (ht ea oe C hc6 pins _ _ H' _ I7 (q' ea hH)) λf s8 q8=>?_);have fin:∀{Y2:St}{H2:Hp}{Q:Unit->Shared->Prop},Inv (asX X ea oe) pins Y2 H2 s8->(∀s9,Inv X pins (Y2.set i none) H2 s9->Q () s9)->wpAny (model X.prog X.w) X.A (do bindName X.env n .none;unbindBehindTheSuite X.env n pos) Q X.xe s8:=λI8 k=>zlt (ze01 I.ok I8) hN hi hk k;cases f with
  |next=>obtain⟨Y2,H2,I8,q2⟩:=q8;exact fin I8 λs9 I9=>⟨_,H2,I9,q2⟩
  |brk=>obtain⟨Y2,H2,I8,q2⟩:=q8;exact fin I8 λs9 I9=>⟨_,H2,I9,q2⟩
  |cont=>obtain⟨Y2,H2,I8,q2⟩:=q8;exact fin I8 λs9 I9=>⟨_,H2,I9,q2⟩
  |ret u=>obtain⟨v,Y2,H2,I8,r2,q2⟩:=q8;exact fin I8 λs9 I9=>⟨v,_,H2,I9,r2,q2⟩
noncomputable def zhd1(K:Fg)(l:List (Value×(Addr->TS)))(D:Ends)(Y:St):XK:=λV _ H'=>∃c,V=.ref c/\zjs K l c D Y H'
theorem zb21{D:Ends}{l:List (Value×(Addr->TS))}{e:Value}(hst:X.stack=X.env :: outer)(hf:X.env.frame=some L)(hh:HandsN X hs l)(I:Inv X [] Y H s)
  (h:CX1 X.prog X.w X.stack H s (zhd1 X.K l D Y) e s'):tryX X D hs e s':=by
 obtain⟨ea,C,B,a0,H2,rfl,hfl,hos,hbare,u2,hok,hB,hB2,hB3,c',ec,hE⟩:=h;cases ec;have fr:X.A.frames=some (X.env :: outer):=by rw[<- hst];exact I.ok.frames
 have hfl':Heap.FlyingW B (X.env :: outer) ea (.ref C) a0 s'.heap:=by rw[<- hst];exact hfl
 obtain⟨oe,hoe,_⟩:=hfl.there;refine wpAny_looks_onW fr hf hfl' λh4 hheld4 sm4=>?_;refine wpAny_landsW hheld4 λh5 fl5 sm5=>?_;have fl5':Heap.FlyingW B X.stack ea (.ref C) a0 h5:=by rw[hst];exact fl5
 exact zeq I ⟨hos,hbare,u2,hok,hB,hB2,hB3⟩ ⟨oe,hoe⟩ hh h5 s'.toks fl5' (sm4.trans sm5) hE
theorem zk31{body:List Stmt}{h₀:ExceptHandler}{l:List (Value×(Addr->TS))}{tb:Ends->TS}(hst:X.stack=X.env :: outer)(hf:X.env.frame=some L)(hh:∀pn xe,HandsN (zbo X pn xe) (h₀ :: hs) l)
  (hb:∀(D:Ends)(pn:List (Addr×Obj))(xe:Value->Shared->Prop),(∀Y,zqc (CX1 X.prog X.w) (zbo X pn xe) (zhd1 X.K l D Y) Y)->PSs (zbo X pn xe) body (tb D)):PS X (.Try body (h₀ :: hs) [] [] pos) (tTry tb):=by
 intro pins s Y H D I h;have ok:=I.ok;refine wpAny_Try_except ?_;have I1:=zk01 I (tryX (zbo X (X.pn++pins) X.xe) D (h₀ :: hs));have key:=hb D (X.pn++pins) (tryX (zbo X (X.pn++pins) X.xe) D (h₀ :: hs)) (λY' ps H1 s1 e s2 J c=>zb21 (X:=zbo X (X.pn++pins) X.xe) hst hf (hh _ _) (zlo J) c) [] s Y H D I1 h;refine wpAny_mono key (λf s1 q=>?_) λe s1 q=>?_
 ·cases f with
 |next=>exact wpAny_execs_nil (zx8 ok q)
 |brk=>exact zx8 ok q
 |cont=>exact zx8 ok q
 |ret u=>exact zx8 ok q
 ·exact wpAny_mono q (λ_ s2 q2=>wpAny_mono q2 (λ_ s3 q3=>wpAny_mono q3 (λf s4 q4=>zx8 ok q4) λ_ _ z=>z) λ_ _ z=>z) λ_ _ z=>z
noncomputable def rIsE(K:Fg)(ea C:Addr):List V->Hp->VK->Prop:=λxs H Q=>_4.ExK K C/\∃cV c b,xs=[.ref ea,cV]/\clsV cV=some c/\PySem.W.kitOne K (.ref C) c=some b/\Q (.bl b) H
theorem zc6{K:Fg}(h:X.K=K)(hc:oe.cls=.ref C):CallR (asX X ea oe) (.builtin "isinstance") (rIsE K ea C):=by
 subst h;intro pins s Y H xs us Q I r h;obtain⟨k,cV,c,b,rfl,rc,e,q⟩:=h;obtain⟨u,v,rfl,ru,rv⟩:=r.two;obtain rfl:=zok rc rv;cases (show u=u7 ea from ru);have hp:=I.pin (ea,oe) (xN _ (by show(ea,oe)∈X.pn++[(ea,oe)];simp));exact _4.exc_isinst k I.kIn ⟨hp.1,hc⟩ e λtk=>⟨.bl b,H,I.tok tk,rfl,q⟩
end
end _3
namespace _4
open PySem PySem.Spec PyProof.Rows _2 _3
variable {C:Addr}{K:Fg}{hs:List (Value×(Addr->DS))}
section
variable {i j:Nat}{ea:Addr}
structure ImpE(i:Nat)(ea:Addr)(te te':TE):Prop where
 of:∀{Y:_2.St}{H:Hp}{Q Q':VK},Y[i]?=some (some (.ref ea))->(∀v H1,Q' v H1->Q v H1)->te' Y H Q'->te Y H Q
structure ImpA(i:Nat)(ea:Addr)(ta ta':TA):Prop where
 of:∀{Y:_2.St}{H:Hp}{Q Q':List V->Hp->Prop},Y[i]?=some (some (.ref ea))->(∀v H1,Q' v H1->Q v H1)->ta' Y H Q'->ta Y H Q
structure ImpS(i:Nat)(ea:Addr)(ts ts':TS):Prop where
 of:∀{D:Ends}{Y:_2.St}{H:Hp},Y[i]?=some (some (.ref ea))->ts' D Y H->ts D Y H
variable {te te':TE}{ta ta':TA}{u u':TS}
theorem zja{cV:V}{c:Value}{b:Bool}(hk:ExK K C)(hc:clsV cV=some c)(hb:PySem.W.kitOne K (.ref C) c=some b):ImpE i ea (tCB (rIsE K ea C) (zw2 (tVar i) (zw2 (tC cV) tNil))) (tC (.bl b)) :=
 ⟨λhs k q=>⟨_,hs,hk,cV,c,b,rfl,hc,hb,k _ _ q⟩⟩
theorem zol:ImpA i ea tNil tNil:=⟨λ_ k q=>k _ _ q⟩
theorem zm3(h:ImpE i ea te te')(h2:ImpA i ea ta ta'):ImpA i ea (zw2 te ta) (zw2 te' ta'):=⟨λhs k q=>h.of hs (λv H1 q1=>h2.of hs (λvs H2 q2=>k _ _ q2) q1) q⟩
theorem zup(h:ImpA i ea ta ta'):ImpE i ea (zet ta) (zet ta'):=⟨λhs k q=>h.of hs (λvs H1 q1=>⟨q1.1,λp hp=>k _ _ (q1.2 p hp)⟩) q⟩
theorem zc71(h:ImpE i ea te te'):ImpS i ea (tAsg te (zih j)) (tAsg te' (zih j)):=⟨λhs q=>h.of hs (λ_ _ q1=>q1) q⟩
theorem zhw(hij:i≠j)(h:ImpE i ea te te')(h2:ImpS i ea u u'):ImpS i ea (tSeq (tAsg te (zih j)) u) (tSeq (tAsg te' (zih j)) u'):=⟨λ{D Y H} hs q=>h.of hs (λv H1 q1=>h2.of (by
 rw[xU (λz=>hij z.symm)];exact hs) q1) q⟩
theorem zcy{x y:V}{H:Hp}{Q Q':VK}(k:∀v H1,Q' v H1->Q v H1)(h:zct K x y H Q'):zct K x y H Q:=by
 rcases h with(⟨a,b,e1,e2,q⟩|⟨a,b,e1,e2,e3,q⟩|⟨l,b,xs,zs,e1,e2,e3,e4,e5,q⟩|⟨a,b,xs,ys,e1,e2,e3,e4,e5,e6,q1,q2⟩)|h
 ·exact .inl (.inl ⟨a,b,e1,e2,k _ _ q⟩)
 ·exact .inl (.inr (.inl ⟨a,b,e1,e2,e3,k _ _ q⟩))
 ·exact .inl (.inr (.inr (.inl ⟨l,b,xs,zs,e1,e2,e3,e4,e5,λp hp=>k _ _ (q p hp)⟩)))
 ·exact .inl (.inr (.inr (.inr ⟨a,b,xs,ys,e1,e2,e3,e4,e5,e6,λz=>k _ _ (q1 z),λz p hp=>k _ _ (q2 z p hp)⟩)))
 ·obtain⟨a,b,xs,ys,e1,e2,e3,e4,e5,q⟩:=h;exact .inr ⟨a,b,xs,ys,e1,e2,e3,e4,e5,λp hp=>k _ _ (q p hp)⟩
theorem zbw(h:ImpE i ea te te'):ImpE i ea (tOp (zct K) (tVar j) te) (tOp (zct K) (tVar j) te'):=⟨λhs k q=>by
 obtain⟨v,hv,q⟩:=q;exact⟨v,hv,h.of hs (λy H2 q2=>zcy k q2) q⟩⟩
theorem za11(h:ImpE i ea te te'):ImpE i ea (zp51 te) (zp51 te'):=⟨λhs k q=>h.of hs (λx H1 q1=>by
 obtain⟨c,e,q1⟩:=q1;exact⟨c,e,k _ _ q1⟩) q⟩
end
section
variable {K:Fg}{B:Bs}{F H:Hp}{Y:_2.St}{U:DSt}{fps:Nat->List Addr}{i:Nat}
theorem RS.setU(r:RS K B F H Y U fps)(x:Option V)(hi:U[i]?=some .un):RS K B F H (Y.set i x) U fps:=by
 have ne:∀{j:Nat}{s:Sl},U[j]?=some s->s≠.un->(Y.set i x).getD j none=Y.getD j none:=λ{j s} e hs=>by
  have:i≠j:=λz=>by subst z;rw[hi]at e;cases e;exact hs rfl
  rw[v7,xU this,<- v7]
 refine⟨r.hh,r.ff,r.fh,r.nw,r.al,by rw[xH];exact r.len,λj d e=>?_,λj s e hs=>?_,r.fr,r.dj⟩
 ·rw[ne e (λz=>by cases z)];exact r.sh j d e
 ·rw[ne e (λz=>by subst z;cases hs)];exact r.rt j s e hs
noncomputable def zyj(K:Fg):List (Value×(Addr->DS))->Addr->DEnds->DSt->Prop
|[],_,_,_=>False
|(c,d) :: r,C,E,U=>∃b,PySem.W.exmOne K (.ref C) c=some b/\if b=true then d C E U else zyj K r C E U
noncomputable def dAs(i:Nat)(d:DS):DS:=λE U=>U[i]?=some .un/\d { nx:=λU'=>U'[i]?=some .un/\E.nx U',bk:=λU'=>U'[i]?=some .un/\E.bk U',ct:=λU'=>U'[i]?=some .un/\E.ct U',rt:=E.rt } U
noncomputable def dG(Cs:List Addr)(C:Addr)(d:DS):DS:=λE U=>C∈Cs/\d E U
inductive RfHsN(K:Fg):List (Value×(Addr->TS))->List (Value×(Addr->DS))->Prop
|nil:RfHsN K [] []
|cons {Cs:List Addr} {c:Value} {i:Nat} {t:Addr->Addr->TS} {t':Addr->TS} {d:Addr->DS} {l:List (Value×(Addr->TS))} {hs:List (Value×(Addr->DS))}:(∀C,C∈Cs->∀ea,ImpS i ea (t C ea) (t' C))->(∀C,C∈Cs->RfS K (t' C) (d C))->RfHsN K l hs->RfHsN K ((c,λC=>tAs i (t C)) :: l) ((c,λC=>dAs i (dG Cs C (d C))) :: hs)
theorem zwz{E:DEnds}{Z:Ends}(r:RS K B F H Y U fps)(k:En K B E Z){l:List (Value×(Addr->TS))}(h:RfHsN K l hs):zyj K hs C E U->zjs K l C Z Y H:=by
 induction h with
|nil=>exact λz=>z
|@cons Cs c i t t' d l hs hi ht _ ih =>
  rintro⟨b,hb,q⟩;refine⟨b,hb,?_⟩;cases b with
 |true =>
   rw[if_pos rfl]at q ⊢;obtain⟨hu,hC,q⟩:=q;intro ea hea;have hlt:i < Y.length:=by rw[r.len];exact(wR.mp hu).1
   refine(hi C hC ea).of (xI hlt) (ht C hC (r.setU _ hu) q ⟨λr' q'=>k.nx (r'.setU none q'.1) q'.2,λr' q'=>k.bk (r'.setU none q'.1) q'.2,λr' q'=>k.ct (r'.setU none q'.1) q'.2,λres q'=>k.rt res q'⟩)
 |false=>rw[if_neg wF]at q ⊢;exact ih q
noncomputable def zua1(K:Fg)(db:DX->DS)(hs:List (Value×(Addr->DS))):DS:=λE U=>db (λC U'=>zyj K hs C E U') E U
theorem zz21{tb:Ends->TS}{db:DX->DS}{l:List (Value×(Addr->TS))}(hb:∀(D:Ends)(ex:DX),RfSe K (zhd1 K l D) ex (tb D) (db ex))(hh:RfHsN K l hs):RfS K (tTry tb) (zua1 K db hs):=by
 intro B F H Y U fps E Z r h k;exact hb Z _ (λr' q=>⟨_,rfl,zwz r' k hh q⟩) r h k
end
structure KxT(K:Fg)(Cs Ds:List Addr):Prop where
 ex:∀C∈Cs,ExK K C
 one:∀C∈Cs,∀D∈Ds,PySem.W.kitOne K (.ref C) (.ref D)=some (C == D)
 ve:∀C∈Cs,PySem.W.kitOne K (.ref C) (.type "ValueError")=some true
 nd:Ds.Nodup
theorem zti{α:Type}{p:α->Prop}:∀x∈([]:List α),p x:=λ_ h=>by simp at h
theorem zp0{α:Type}{p:α->Prop}{a:α}{l:List α}(h:p a)(r:∀x∈l,p x):∀x∈a :: l,p x:=λx hx=>by
 rcases v6.mp hx with z|z
 ·rw[z];exact h
 ·exact r x z
theorem zcq(K:Fg)(db:DX->DS)(hs:List (Value×(Addr->DS)))(E:DEnds)(U:DSt):zua1 K db hs E U=db (λC U'=>zyj K hs C E U') E U:=rfl
theorem zah(K:Fg)(C:Addr)(E:DEnds)(U:DSt):zyj K [] C E U=False:=rfl
theorem zrh(K:Fg)(c:Value)(d:Addr->DS)(r:List (Value×(Addr->DS)))(C:Addr)(E:DEnds)(U:DSt):zyj K ((c,d) :: r) C E U=∃b,PySem.W.exmOne K (.ref C) c=some b/\if b=true then d C E U else zyj K r C E U:=rfl
theorem zhc1(i:Nat)(d:DS)(E:DEnds)(U:DSt):dAs i d E U=(U[i]?=some .un/\d { nx:=λU'=>U'[i]?=some .un/\E.nx U',bk:=λU'=>U'[i]?=some .un/\E.bk U',ct:=λU'=>U'[i]?=some .un/\E.ct U',rt:=E.rt } U):=rfl
theorem e_dG(Cs:List Addr)(C:Addr)(d:DS)(E:DEnds)(U:DSt):dG Cs C d E U=(C∈Cs/\d E U):=rfl
variable {i:Int}
section
variable {K:Fg}{te:TE}{de:DE}{tj:TJ}{dj:DJ}
noncomputable def zl11:D->Prop
|.int i=>-10000000000000000000000000000000000000000 < i/\i < 10000000000000000000000000000000000000000
|_=>False
theorem zfv(h1:-10000000000000000000000000000000000000000 < i)(h2:i < 10000000000000000000000000000000000000000):i.natAbs.log2 < 1920:=by
 by_cases z:i.natAbs=0
 ·rw[z];decide
 ·have:i.natAbs.log2 < 140:=(Nat.log2_lt z).mpr (by lia);lia
noncomputable def dJI(de:DE)(dj:DJ):DJ:=λU n Q=>de U λd=>zl11 d/\n+2000<=sizeLine/\dj U (n+2000) Q
theorem zjn(he:RfE K te de)(h:RfFs K tj dj):RfFs K (zlb1 K te tj) (dJI de dj):=by
 intro F H Y U acc n Qd Q s rv hn hd k;refine he s rv hd λd hx v F1 H1 e1 i1=>?_;obtain⟨hs,h1,h2⟩:=hx;cases d with
|int i =>
  obtain⟨b1,b2⟩:=hs;have hl:=zfv b1 b2;cases i1;have hz:=int_text_len_1921 hl;have:=zho acc (wY (toString i));refine .inl (.inr ⟨i,rfl,hl,by lia,?_⟩);exact h e1.fh (rv.ext e1) (by lia) h2 λm q z F2 H2 e2 hz=>k m q z F2 H2 (e1.trans e2) hz
|list _=>exact hs.elim
|none=>exact hs.elim
|bool _=>exact hs.elim
|str _=>exact hs.elim
|tuple _=>exact hs.elim
|dict _=>exact hs.elim
theorem zra1(de:DE)(dj:DJ)(U:DSt)(n:Nat)(Q:Nat->Prop):dJI de dj U n Q=de U λd=>zl11 d/\n+2000<=sizeLine/\dj U (n+2000) Q:=rfl
theorem zjl(i:Int):zl11 (.int i)=(-10000000000000000000000000000000000000000 < i/\i < 10000000000000000000000000000000000000000):=rfl
end
section
variable {X:Cx}{x:Str}{pos pos':Pos}{e a b:Expr}{te ta tb:TE}{k j:Nat}{K:Fg}
theorem pset(i:Nat)(hN:X.N.Nodup)(he:PE X e te)(hi:X.N[i]?=some x:=by rfl)(hx:Loc X.env.scope x:=by walk_at"vi")(hs:swapsWith e (some (.Name x pos')) pos.line X.env=pure false:=by rfl)(hf:X.fn x=true \/ X.env.scope.names.lookup x=some .local:=by walk_at"vi"):PS X (.Assign [.Name x pos'] e pos) (tAsg te (zih i)):=zcd1 hN hi hx he hs hf
theorem pgn(i:Nat)(hN:X.N.Nodup)(hi:X.N[i]?=some x:=by rfl)(hx:Loc X.env.scope x:=by walk_at"vi")(hf:X.fn x=true \/ X.env.scope.names.lookup x=some .local:=by walk_at"vi"):PG X (.Name x pos) (zih i):=zb31 hN hi hx hf
theorem pix(w:World)(K:Fg)(hr:Room k X.A)(ha:PE X a ta)(hb:PE X b tb)(hw:X.w=w:=by rfl)(hK:X.K=K:=by rfl)(hs:zxv b:=by exact λ_ _=>rfl):PE X (.Subscript a b pos) (tOp (rIxV w K) ta tb):=zyf1 (ix_V (Room.units hr) hw hK) ha hb hs
theorem nds(l:List Str)(h:l.Nodup:=by decide +kernel):l.Nodup:=h
theorem rvi:RfV K (tC (.int i)) (dC (.int i)):=RfE.v zr0
theorem rgn(i:Nat)(hi:i < 100:=by decide):RfG K 100 (zih i) (gN i):=zt3 hi
theorem rmn{A:Around}(hr:Room k A)(h:j<=k:=by decide):Room j A:=Room.mono hr h
end
section
variable {K:Fg}{te ta te1 te2:TE}{dn1 dn2:DN}{dp:DP}
theorem Rt.grow{F H F' H':Hp}{v:V}{t:T}{fp:List Addr}(e:Ext F H F' H')(h:Rt K F H v t fp):Rt K F' H' v t fp:=h.frame e.f λb hb=>by
 obtain⟨h1,h2⟩:=h.dom b hb;refine⟨?_,e.nw b h1 h2⟩;cases z:H b with
|none=>exact absurd z h1
|some o=>exact e.h b o z
noncomputable def zoe1(d1 d2:DN):DN:=λU Q=>d1 U λr1=>d2 U λr2=>Q (.tp [r1,r2])
theorem zq31(h1:RfN K te1 dn1)(h2:RfN K te2 dn2):RfN K (zb91 (zw2 te1 (zw2 te2 tNil))) (zoe1 dn1 dn2):=by
 intro F H Y U Qd Q s rv hd k;refine h1 s rv hd λr1 q1 v1 F1 H1 fp1 e1 t1 n1 f1=>h2 e1.fh (rv.ext e1) q1 λr2 q2 v2 F2 H2 fp2 e2 t2 n2 f2=>?_;refine⟨by rw[sizeLine_eq];simp,λl hl=>?_⟩;have e12:=e1.trans e2;have e3:Ext F2 H2 F2 (upd H2 l (.tup [v1,v2])):=zjw e2.fh hl;have t1':=Rt.grow (e2.trans e3) t1;have t2':=Rt.grow e3 t2;have fl:F2 l=none:=by
  cases z:F2 l with
 |none=>rfl
 |some o=>rw[e2.fh l o z]at hl;cases hl
 have l1:l ∉ fp1:=λz=>(Rt.grow e2 t1).dom l z |>.1 hl;have l2:l ∉ fp2:=λz=>t2.dom l z |>.1 hl;have dj:∀b∈fp1,b ∉ fp2:=λb h1 h2=>(t1.dom b h1).1 (f2 b h2);refine k _ q2 (.ref l) F2 _ (l :: (fp1++(fp2++[]))) (e12.trans e3) (.tp zj0 fl (.cons t1' (.cons t2' .nil))) ?_ λb hb=>?_
 ·rw[wQ];refine wG.mpr ⟨λz=>?_,wL.mpr ⟨n1,n2,λa ha b hb z=>dj a ha (z ▸ hb)⟩⟩;rcases u6.mp z with y|y
  ·exact l1 y
  ·exact l2 y
 ·rw[wQ]at hb;rcases v6.mp hb with y|y
  ·subst y;exact zo1 e12 hl
  ·rcases u6.mp y with y|y
   ·exact f1 b y
   ·exact zo1 e1 (f2 b y)
variable {tA:TA}{dA:DAT}
theorem zxp(d1 d2:DN)(U:DSt)(Q:_4.T->Prop):zoe1 d1 d2 U Q=(d1 U λr1=>d2 U λr2=>Q (.tp [r1,r2])):=rfl
end
end _4
namespace _5
open PySem PySem.Spec PyProof.Rows _2 _3 _4
theorem zjf1{α β:Type}{xs:List α}{enc:α->D}(ok:β->Prop)(en:β->D){n:Nat}{ix:List Nat}{dg:DG}{de:DE}{U:DSt}{Q:List D->Prop}(hz:xs.length<=sizeLine)
  (h:∀x∈xs,dg (enc x) (cST n ix U) λU'=>de U' λr=>∃b,ok b/\r=en b) (q:∀bs:List β,bs.length=xs.length->(∀b∈bs,ok b)->Q (bs.map en)):zj51 (xs.map enc) n ix dg zu51 de U Q:=by
 refine⟨by rw[u4];exact hz,λ_ o=>∃b,ok b/\o=some (en b),λi d e=>?_,λos hl hR=>?_⟩
 ·rw[wD]at e;obtain⟨x,hx,rfl⟩:=wX.mp e;have:=h x (wT hx);have e1:(λr=>∃b,ok b/\some r=some (en b))=λr=>∃b,ok b/\r=en b:=by funext r;simp
  show dg (enc x) (cST n ix U) λU'=>if true=true then de U' λr=>∃b,ok b/\some r=some (en b)else ∃b,ok b/\none=some (en b)
  rw[e1];simp only[if_true];exact this
 ·have key:∀os:List (Option D),(∀o∈os,∃b,ok b/\o=some (en b))->∃bs:List β,bs.length=os.length/\(∀b∈bs,ok b)/\os.filterMap id=bs.map en:=by
   intro os
   induction os with
  |nil=>intro _;exact⟨[],rfl,(λb hb=>by simp at hb),rfl⟩
  |cons o r ih =>
    intro k;obtain⟨b,h1,rfl⟩:=k o (by simp);obtain⟨bs,k1,k2,k3⟩:=ih λo ho=>k o (by simp[ho]);refine⟨b :: bs,by simp[k1],λc hc=>?_,by simp[k3]⟩;rcases v6.mp hc with z|z
    ·rw[z];exact h1
    ·exact k2 c z
  obtain⟨bs,b1,b2,b3⟩:=key os λo ho=>by
   obtain⟨j,hj⟩:=uaI.mp ho;exact hR j o hj
  rw[b3];exact q bs (by rw[b1,hl,u4]) b2
end _5
namespace _4
open PySem PySem.Spec PyProof.Rows _2 _3
variable {i:Nat}
section
variable {K:Fg}{te ta tb t1 t2 t4 ti tv:TE}{tA:TA}{t:TS}{d:DS}{dn:DN}{d1 d4 de da dk:DE}{dc:DC}{dp:DP}
noncomputable abbrev DNA:=DSt->(List T->Prop)->Prop
noncomputable def RfNA(K:Fg)(tA:TA)(da:DNA):Prop:=∀{F H:Hp}{Y:_2.St}{U:DSt}{Qd:List T->Prop}{Q:List V->Hp->Prop},Same F H->RV K F H Y U->da U Qd->(∀rs,Qd rs->∀vs F' H' fp,Ext F H F' H'->RtAll K F' H' vs rs fp->fp.Nodup->(∀a∈fp,H a=none)->Q vs H')->tA Y H Q
noncomputable def zxd1:DNA:=λ_ Q=>Q []
noncomputable def zh51(dn:DN)(da:DNA):DNA:=λU Q=>dn U λr=>da U λrs=>Q (r :: rs)
theorem zyv:RfNA K tNil zxd1:=λ{F H} _ _ _ _ s _ d k=>k _ d [] F H [] (Ext.refl s) .nil .nil λa ha=>by simp at ha
theorem zeh{dn:DN}{da:DNA}(h:RfN K te dn)(hr:RfNA K tA da):RfNA K (zw2 te tA) (zh51 dn da):=by
 intro F H Y U Qd Q s rv hd k;refine h s rv hd λr q v F1 H1 fp e1 h1 nd1 fr1=>?_;refine hr e1.fh (rv.ext e1) q λrs q2 vs F2 H2 fq e2 h2 nd2 fr2=>?_;refine k _ q2 (v :: vs) F2 H2 (fp++fq) (e1.trans e2) (.cons (Rt.grow e2 h1) h2) (wL.mpr ⟨nd1,nd2,λa ha b hb z=>?_⟩) λa ha=>?_
 ·subst z;exact(h1.dom a ha).1 (fr2 a hb)
 ·rcases u6.mp ha with z|z
  ·exact fr1 a z
  ·exact zo1 e1 (fr2 a z)
noncomputable def nLs(da:DNA):DN:=λU Q=>da U λrs=>rs.length<=sizeLine/\Q (.ls rs)
theorem zbx{da:DNA}(h:RfNA K tA da):RfN K (zet tA) (nLs da):=by
 intro F H Y U Qd Q s rv hd k;refine h s rv hd λrs hx vs F1 H1 fp e1 h1 nd1 fr1=>⟨by rw[h1.len];exact hx.1,λp hp=>?_⟩
 obtain⟨ex,fn⟩:=zq8 (xs:=vs) e1.fh hp;have ne:∀a∈fp,a≠p:=λa ha z=>(h1.dom a ha).1 (by rw[z];exact hp);refine k _ hx.2 (.ref p) F1 _ (p :: fp) (e1.trans ex) (.ls zj0 fn (h1.frame (λ_ _ z=>z) λa ha=>⟨zm0 (ne a ha),(h1.dom a ha).2⟩)) (wG.mpr ⟨λz=>ne p z rfl,nd1⟩) λa ha=>?_;rcases v6.mp ha with z|z
 ·subst z;exact zo1 e1 hp
 ·exact fr1 a z
noncomputable def ze61(d1:DE)(dn:DN)(i:Nat)(d4:DE):DS:=λE U=>∃u,U[i]?=some (.ow u)/\d1 U λx=>dn U λt=>d4 U λy=>E.rt (.ls [.fz x,t,u,.fz y]) (U.set i .un)
theorem zux(h1:RfE K t1 d1)(h2:RfN K t2 dn)(h4:RfE K t4 d4):RfS K (tRet (zet (zw2 t1 (zw2 t2 (zw2 (tVar i) (zw2 t4 tNil)))))) (ze61 d1 dn i d4):=by
 intro B F H Y U fps E Z r h k;obtain⟨u,qi,h⟩:=h;obtain⟨xv,t',a1,a2,a3,a4,a5⟩:=r.rt i _ qi rfl;cases a2;refine h1 r.fh r.rv h λx hx v1 F1 H1 e1 i1=>?_;have r1:=r.grow e1;refine h2 r1.fh r1.rv hx λt ht v2 F2 H2 fp e2 t2 n2 f2=>?_;have r2:=r1.grow e2;refine⟨xv,zff (F:=F) (H:=H) (U:=U) a1,h4 r2.fh r2.rv ht λy hy v4 F3 H3 e3 i3=>⟨by rw[sizeLine_eq];simp,λl hl=>?_⟩⟩;have r3:=r2.grow e3;obtain⟨e4,fl⟩:=zq8 (xs:=[v1,v2,xv,v4]) e3.fh hl;have lN:=r3.newOk hl;have li:l ∉ fps i:=lN.2 i _ qi rfl;have lp:l ∉ fp:=λz=>(Rt.grow e3 t2).dom l z |>.1 hl;have fN:∀b∈fp,zs41 B U fps b:=λb hb=>r1.newOk (f2 b hb);have e34:=e3.trans e4;refine k.rt (v:=.ref l) (r:=.ls [.fz x,t,u,.fz y]) (fpr:=l :: ([]++(fp++(fps i++([]++[]))))) ⟨(r3.grow e4).forget i,.ls zj0 fl (.cons (.fz (i1.mono (e2.trans e34).f)) (.cons (Rt.grow e34 t2) (.cons (Rt.grow ((e1.trans e2).trans e34) a3) (.cons (.fz (i3.mono e4.f)) .nil)))),?_,λb hb=>?_,λm s em hs a ha hb=>?_⟩ hy
 ·simp only[xR,wQ];refine wG.mpr ⟨λz=>?_,wL.mpr ⟨n2,a5,λa ha b hb z=>(fN a ha).2 i _ qi rfl (z ▸ hb)⟩⟩;rcases u6.mp z with y|y
  ·exact lp y
  ·exact li y
 ·simp only[xR,wQ]at hb;rcases v6.mp hb with z|z
  ·subst z;exact lN.1
  ·rcases u6.mp z with z|z
   ·exact(fN b z).1
   ·exact(r.fr i _ qi rfl b z).elim id λy=>absurd rfl (y.2 u)
 ·simp only[xR,wQ]at hb;have em2:i≠m/\U[m]?=some s:=by
   by_cases c2:i=m
   ·subst c2;rw[xL]at em;split at em
    ·split at em
     ·cases em;cases hs
     ·cases em
    ·rename_i z;exact absurd rfl z
   ·rw[xU c2]at em;exact⟨c2,em⟩
  obtain⟨m1,m3⟩:=em2;rcases v6.mp hb with z|z
  ·subst z;exact lN.2 m s m3 hs ha
  ·rcases u6.mp z with z|z
   ·exact(fN a z).2 m s m3 hs ha
   ·exact r.dj i m _ s m1 qi m3 rfl hs a z ha
theorem RtAll.setv{F H:Hp}{v:V}{u:T}{fq:List Addr}(hu:Rt K F H v u fq):∀{xs:List V}{ts:List T}{fp:List Addr}(j:Nat),RtAll K F H xs ts fp->j < ts.length->(∀b∈fq,b ∉ fp)->fq.Nodup->fp.Nodup->∃fr,RtAll K F H (xs.set j v) (ts.set j u) fr/\fr.Nodup/\∀b∈fr,b∈fp \/ b∈fq
|_,_,_,j,.nil,h,_,_,_=>absurd h (Nat.not_lt_zero j)
|_,_,_,0,.cons (fp:=f1) (fq:=f2) h r,_,dj,nq,np=>by
  obtain⟨m1,m2,m3⟩:=wL.mp np;refine⟨fq++f2,.cons hu r,wL.mpr ⟨nq,m2,λa ha b hb z=>dj a ha (by simp[z ▸ hb])⟩,λb hb=>?_⟩;rcases u6.mp hb with z|z
  ·exact .inr z
  ·exact .inl (by simp[z])
|_,_,_,j+1,.cons (fp:=f1) (fq:=f2) h r,hl,dj,nq,np=>by
  obtain⟨m1,m2,m3⟩:=wL.mp np;obtain⟨fr,g1,g2,g3⟩:=RtAll.setv hu j r (by simpa using hl) (λb hb z=>dj b hb (by simp[z])) nq m2;refine⟨f1++fr,.cons h g1,wL.mpr ⟨m1,g2,λa ha b hb z=>?_⟩,λb hb=>?_⟩
  ·subst z;rcases g3 a hb with y|y
   ·exact m3 a ha a y rfl
   ·exact dj a y (by simp[ha])
  ·rcases u6.mp hb with z|z
   ·exact .inl (by simp[z])
   ·rcases g3 b z with y|y
    ·exact .inl (by simp[y])
    ·exact .inr y
noncomputable def zf91(u:T)(k:D)(r:T)(N:T->Prop):Prop:=match u,k with
|.ls ts,.int z=>∃j,ixN ts.length z=some j/\N (.ls (ts.set j r))
|_,_=>False
noncomputable def zqe1(dp:DP)(dk:DE)(dc:DC):DS:=λE U=>dc U λr U1=>dp U1 λi p u=>dk U1 λk=>zf91 u k r λu2=>mutS U1 i p u2 E.nx
theorem zsm(hc:RfC K te dc)(hp:RfP K ta dp)(hk:RfE K ti dk):RfS K (tAsg te (gSub ta ti zev)) (zqe1 dp dk dc):=by
 intro B F H Y U fps E Z r h k;refine hc r h λr2 U1 q y F1 H1 fps1 fpr res=>hp res.rs.fh res.rs.rv q λi p u hu v F2 H2 e2 at2=>?_;have res2:=res.grow e2;refine hk res2.rs.fh res2.rs.rv hu λkd hkd kv F3 H3 e3 i3=>?_;have res3:=res2.grow e3;have at3:=at2.mono e3.h;unfold zf91 at hkd;split at hkd
 ·rename_i ts z
  obtain⟨j,ej,hm⟩:=hkd;cases i3.int_inv;obtain⟨fn,hr,nd,sub,back⟩:=res3.rs.mut at3 hm;cases hr with
 |ls g1 g2 g3 =>
   rename_i a xs fp
   have el:=g3.len;have na:a ∉ fp:=(wG.mp nd).1;obtain⟨s0,hi0,ho0⟩:∃s,U1[i]?=some s/\s.has=true:=by
    obtain⟨sl,t0,x,b1,b2,b3,b4⟩:=at3;refine⟨sl,b1,?_⟩;unfold mutS at hm;rw[b1]at hm;split at hm
    ·rename_i q;cases q;rfl
    ·rename_i q;cases q;rfl
    ·exact hm.elim
   have nr:∀b∈a :: fp,b ∉ fpr:=λb hb=>res3.dj i _ hi0 ho0 b (sub b hb);have hj:j < ts.length:=(zfs ej).2.1;have g3':=g3.frame (F':=F3) (H':=upd H3 a (.lst (xs.set j y))) (λ_ _ z=>z) λb hb=>⟨zm0 (λz=>na (z ▸ hb)),(g3.dom b hb).2⟩
   have rt':=res3.rt.frame (F':=F3) (H':=upd H3 a (.lst (xs.set j y))) (λ_ _ z=>z) λb hb=>⟨zm0 (λz=>nr a (by simp) (z ▸ hb)),(res3.rt.dom b hb).2⟩
   obtain⟨fr,k1,k2,k3⟩:=RtAll.setv rt' j g3' hj (λb hb z=>nr b (by simp[z]) hb) res3.nd (wG.mp nd).2;obtain⟨U2,fps2,r3,n3,_⟩:=back (F2:=F3) (H2:=upd H3 a (.lst (xs.set j y))) (fq:=a :: fr) (λb o hb ho=>by rw[zm0 (λz=>hb (by simp[z]))];exact ho) (λ_ _ z=>z) (λb o z=>by
     have:b≠a:=λw=>by subst w;rw[g2]at z;cases z
     rw[zm0 this];exact res3.rs.fh b o z) (λb _ fb _=>fb) (λb hb=>by
     by_cases z:b=a
     ·rw[z,zj0];simp
     ·rw[zm0 z];exact hb) (λb hb f=>by
     rcases v6.mp hb with z|z
     ·rw[z]at f;exact absurd g2 f
     ·exact absurd (g3.dom b z).2 f) (.ls zj0 g2 k1) (wG.mpr ⟨λz=>by
     rcases k3 a z with y|y
     ·exact na y
     ·exact nr a (by simp) y,k2⟩) (λb hb=>by
     rcases v6.mp hb with z|z
     ·exact .inl (by simp[z])
     ·rcases k3 b z with y|y
      ·exact .inl (by simp[y])
      ·exact .inr ⟨res3.fr b y,λj s hj hs hbj=>res3.dj j s hj hs b hbj y⟩)
   exact .inl ⟨_,_,z,j,rfl,rfl,g1,by rw[el];exact ej,k.nx r3 n3⟩
 ·exact hkd.elim
noncomputable def cOpL(f:D->D->(D->Prop)->Prop)(dc:DC)(db:DE):DC:=λU Q=>dc U λr U1=>fzT r λy=>db U1 λz=>f y z λw=>Q (.fz w) U1
noncomputable def zbe1(i:Nat)(dc:DC):DS:=λE U=>(∃ds,U[i]?=some (.ow (.li ds)))/\dc U λr U'=>∃d ds,r=.fz d/\U'[i]?=some (.ow (.li ds))/\ds.length < sizeLine/\E.nx (U'.set i (.ow (.li (ds++[d]))))
theorem zx41(hc:RfC K te dc):RfS K (zx81 (tBMU K "list" zaq (tVar i) (zw2 te tNil))) (zbe1 i dc):=by
 intro B F H Y U fps E Z r h k;obtain⟨⟨ds0,e0⟩,h⟩:=h;obtain⟨x0,t0',a1,a2,a3,a4,a5⟩:=r.rt i _ e0 rfl;cases a2;have a6:=zff (F:=F) (H:=H) (U:=U) a1;refine⟨_,a6,zc61 a3 rfl,hc r h λr2 U' q v F1 H1 fps1 fpr res=>?_⟩;obtain⟨d,ds,rfl,e1,hz,q⟩:=q;have rt:=res.rt;cases rt with
|fz iv =>
  have at1:AtS H1 Y U' i [] x0 (.li ds):=⟨_,_,_,e1,rfl,a1,.nil⟩
  refine zuc1 zmi (fn:=[]) (vs:=[v]) (ds:=[d]) (Kd:=λ_ _=>True) (Qd:=λ_ U2=>E.nx U2) res.rs at1 (.cons iv .nil) ⟨hz,?_⟩ λr U2 q2 v2 F2 H2 fps2 fpr2 res2=>k.nx res2.rs q2;unfold mutS;rw[e1];exact q
noncomputable def zs11:FM:=λu ds N=>match u,ds with
|.li (d :: r),[.int z]=>z=0/\N (.li r) d
|_,_=>False
theorem zi11:MO K zf81 zs11:=by
 intro F H v u fn vs ds Kd Q s hr hv hf;unfold zs11 at hf;split at hf
 ·obtain⟨hz,hf⟩:=hf;subst hz;obtain⟨y,rfl,iy⟩:=all1 hv;cases iy.int_inv;cases hr with
 |li h1 h2 h3 =>
   cases h3 with
  |cons g1 g2=>exact⟨_,_,_,_,.lst _,_,hf,rfl,rfl,h1,g1,.li zj0 h2 g2,λq=>⟨_,_,0,0,_,rfl,rfl,h1,by decide,by decide,by simp[seqIndex?],rfl,q⟩⟩
 ·exact hf.elim
theorem znj(d:D)(r:List D)(N:T->D->Prop):zs11 (.li (d :: r)) [.int 0] N=((0:Int)=0/\N (.li r) d):=rfl
theorem RfN.z(h:RfN K te dn):RfE K te (dNL dn):=λs rv hd k=>h s rv hd λr q v F' H' fp e1 h1 h2 h3=>by
 obtain⟨d,ed,q⟩:=q;obtain⟨F2,s1,s2,s3,s4⟩:=zb71 e1.fh h1 ed h2;exact k d q v F2 H' ⟨e1.h,e1.f.trans s1,s2,λb hb fb=>by rw[s3 b λz=>hb (h3 b z)];exact e1.nw b hb fb⟩ s4
theorem zfc1{r:R2}{f:D->D->(D->Prop)->Prop}(hr:R2E K r f)(hc:RfC K ta dc)(hb:RfE K tb de):RfC K (tOp r ta tb) (cOpL f dc de):=by
 intro B F H Y U fps Qd Q rs hd k;refine hc rs hd λt U1 ht yv F2 H2 fps2 fpr res=>?_;obtain⟨y,hy,iy⟩:=zn21 res.rt ht;refine hb res.rs.fh res.rs.rv hy λz hz zv F3 H3 e3 i3=>?_;refine hr e3.fh (.inl (iy.mono e3.f)) (.inl i3) hz λwd hw wv F4 H4 e4 i4=>?_;exact k _ _ hw wv F4 H4 fps2 [] ⟨res.rs.grow (e3.trans e4),.fz i4,.nil,λa ha=>by simp at ha,λ_ _ _ _ a _ ha=>by simp at ha⟩
theorem RS.frzW{B:Bs}{F H:Hp}{Y:_2.St}{U:DSt}{fps:Nat->List Addr}{t:T}{d:D}(r:RS K B F H Y U fps)(q:U[i]?=some (.ow t))(fz:∀{v:V}{fp:List Addr},Rt K F H v t fp->fp.Nodup->∃F2,Same F F2/\Same F2 H/\(∀b,b ∉ fp->F2 b=F b)/\Is K F2 v d):∃F2 fps2,RS K B F2 H Y (U.set i (.sh d)) fps2:=by
 obtain⟨x,t',a1,a2,a3,a4,a5⟩:=r.rt i _ q rfl;cases a2;obtain⟨F2,s1,s2,s3,s4⟩:=fz a3 a5;have r2:=r.upd2 (i:=i) (s:=.ow t) (x:=x) (t2:=.fz d) (fp2:=[]) (F2:=F2) (H2:=H) q rfl a1 (λ_ _ _ z=>z) s1 s2 (λb _ fb hb=>by rw[s3 b hb];exact fb) (λ_ z=>z) (.fz s4) .nil (λb hb=>by simp at hb) (λb hb _=>(r.fr i _ q rfl b hb).elim id λz=>absurd rfl (z.2 t));have r3:=r2.setS (i:=i) s4;rw[zF]at r3;have eY:Y.set i (some x)=Y:=by
  apply zG;intro j;rw[xL];by_cases hij:i=j
  ·subst hij;have hlt:i < Y.length:=by
    rw[r.len];rcases xF i U.length with z|z
    ·exact z
    ·rw[w8 z]at q;cases q
   simp[hlt];have:=zff (F:=F) (H:=H) (U:=U) a1;rw[u8 hlt]at this;exact(wV.inj this).symm
  ·simp[hij]
 rw[eY]at r3;exact⟨F2,_,r3⟩
noncomputable def dFz2(i:Nat)(d:DS):DS:=λE U=>(∃a b,U[i]?=some (.ow (.tp [.li a,.li b]))/\d E (U.set i (.sh (.tuple [.list a,.list b])))) \/ (∃x,U[i]?=some (.sh x))/\d E U
theorem zic1{F H:Hp}(s:Same F H){v:V}{x y:List D}{fp:List Addr}(h:Rt K F H v (.tp [.li x,.li y]) fp)(nd:fp.Nodup):∃F2,Same F F2/\Same F2 H/\(∀b,b ∉ fp->F2 b=F b)/\Is K F2 v (.tuple [.list x,.list y]):=by
 cases h with
|tp h1 h2 h3 =>
  rename_i a xs fp
  cases h3 with
 |cons g1 g2 =>
   rename_i fp1 fq1
   cases g2 with
  |cons g2 g3 =>
    cases g3
    rename_i fp2
    rw[wQ]at nd ⊢;obtain⟨n1,n2⟩:=wG.mp nd;obtain⟨m1,m2,m3⟩:=wL.mp n2;obtain⟨F1,s1,s2,s3,s4⟩:=zb71 s g1 (d:=.list x) rfl m1;have g2':=g2.frame s1 λb hb=>⟨rfl,by rw[s3 b λz=>m3 b z b hb rfl];exact(g2.dom b hb).2⟩
    obtain⟨F2,s5,s6,s7,s8⟩:=zb71 s2 g2' (d:=.list y) rfl m2;have fa:F2 a=none:=by
     rw[s7 a λz=>n1 (xB _ z),s3 a λz=>n1 (xN _ z)];exact h2
    rename_i v1 v2
    have sn:Same F2 (upd F2 a (.tup [v1,v2])):=zy2 fa _;refine⟨upd F2 a (.tup [v1,v2]),(s1.trans s5).trans sn,λb o z=>?_,λb hb=>?_,.tup zj0 (.cons (s4.mono (s5.trans sn)) (.cons (s8.mono sn) .nil))⟩
    ·by_cases q:b=a
     ·subst q;rw[zj0]at z;cases z;exact h1
     ·rw[zm0 q]at z;exact s6 b o z
    ·have hb1:b≠a:=λz=>hb (by simp[z]);rw[zm0 hb1,s7 b λz=>hb (by simp[z]),s3 b λz=>hb (by simp[z])]
theorem ztc1(i:Nat)(h:RfS K t d):RfS K t (dFz2 i d):=by
 intro B F H Y U fps E Z r hd k;rcases hd with⟨a,b,q,hd⟩|⟨_,hd⟩
 ·obtain⟨F2,fps2,r2⟩:=r.frzW q λh nd=>zic1 r.fh h nd;exact h r2 hd k
 ·exact h r hd k
end
section
variable (U:DSt)(E:DEnds)
theorem zgc1(da:DNA)(Q:T->Prop):nLs da U Q=da U λrs=>rs.length<=sizeLine/\Q (.ls rs):=rfl
theorem zts(Q:List T->Prop):zxd1 U Q=Q []:=rfl
theorem zll(dn:DN)(da:DNA)(Q:List T->Prop):zh51 dn da U Q=dn U λr=>da U λrs=>Q (r :: rs):=rfl
theorem zwk(d1 d4:DE)(dn:DN)(i:Nat):ze61 d1 dn i d4 E U=∃u,U[i]?=some (.ow u)/\d1 U λx=>dn U λt=>d4 U λy=>E.rt (.ls [.fz x,t,u,.fz y]) (U.set i .un):=rfl
theorem zqo(dp:DP)(dk:DE)(dc:DC):zqe1 dp dk dc E U=dc U λr U1=>dp U1 λi p u=>dk U1 λk=>zf91 u k r λu2=>mutS U1 i p u2 E.nx:=rfl
theorem zur(ts:List T)(z:Int)(r:T)(N:T->Prop):zf91 (.ls ts) (.int z) r N=∃j,ixN ts.length z=some j/\N (.ls (ts.set j r)):=rfl
theorem zo11(f:D->D->(D->Prop)->Prop)(dc:DC)(db:DE)(Q:T->DSt->Prop):cOpL f dc db U Q=dc U λr U1=>fzT r λy=>db U1 λz=>f y z λw=>Q (.fz w) U1:=rfl
theorem zjp(i:Nat)(dc:DC):zbe1 i dc E U=((∃ds,U[i]?=some (.ow (.li ds)))/\dc U λr U'=>∃d ds,r=.fz d/\U'[i]?=some (.ow (.li ds))/\ds.length < sizeLine/\E.nx (U'.set i (.ow (.li (ds++[d]))))):=rfl
theorem zb11(i:Nat)(d:DS):dFz2 i d E U=((∃a b,U[i]?=some (.ow (.tp [.li a,.li b]))/\d E (U.set i (.sh (.tuple [.list a,.list b])))) \/ (∃x,U[i]?=some (.sh x))/\d E U):=rfl
end
theorem zg11{α β:Type}(f:α->β)(a:α)(l:List α):List.map f (a :: l)=f a :: List.map f l:=rfl
theorem zj01{α β:Type}(f:α->β):List.map f []=[]:=rfl
theorem zw11{α:Type}(a d:α)(l:List α):List.getD (a :: l) 0 d=a:=rfl
theorem ze11{α:Type}(a d:α)(l:List α)(n:Nat):List.getD (a :: l) (n+1) d=List.getD l n d:=rfl
theorem r_nt:(!true)=false:=rfl
theorem r_nf:(!false)=true:=rfl
theorem zp91{α:Sort u}(a b:α):(if true=true then a else b)=a:=rfl
theorem zw91{α:Sort u}(a b:α):(if false=true then a else b)=b:=rfl
theorem zid1{α:Sort u}(a b:α):(if true=false then a else b)=b:=rfl
theorem zgd1{α:Sort u}(a b:α):(if false=false then a else b)=a:=rfl
end _4
open PySem PySem.Spec PyProof.Rows _2 _3 _4 _5
local macro_rules|`(tactic| walk_at "sc")=>`(tactic| exact ⟨rfl,rfl,rfl,by decide +kernel,rfl,by decide +kernel,by decide +kernel⟩)
local macro_rules|`(tactic| walk_at "csc")=>`(tactic| exact ⟨rfl,by decide +kernel,by decide +kernel,by decide +kernel,by decide +kernel⟩)
local macro_rules|`(tactic| walk_at "ds")=>do `(tactic| simp only [$(<- ("zph zse zr81 List.map_cons List.map_nil List.length_cons List.length_nil Nat.reduceAdd Nat.reduceSub List.replicate List.cons_append List.nil_append".splitOn " ").toArray.mapM λ s=>`(Lean.Parser.Tactic.simpLemma| $(Lean.mkIdent s.toName):ident)),*])
local macro_rules|`(tactic| walk_at "cs")=>do `(tactic| simp only [$(<- ("cST List.map_cons List.map_nil List.replicate List.cons_append List.nil_append List.getD_cons_zero List.getD_cons_succ".splitOn " ").toArray.mapM λ s=>`(Lean.Parser.Tactic.simpLemma| $(Lean.mkIdent s.toName):ident)),*])
local macro_rules|`(tactic| walk_at "dd")=>do let f:=λ t:String=>(t.splitOn " ").toArray.mapM λ s=>`(Lean.Parser.Tactic.simpLemma| $(Lean.mkIdent s.toName):ident);let A <- f "zgc1 zts zll zwk zqo zur zo11 zjp znj zxp zb11 e_dF zcq zah zrh zhc1 e_dG zra1 zjl zib1 zcc1 e_dC zlc1 zzz ziz zgb1 zsq zbs zar zky zly zbc1 zzx zm11 zzj zvy zqq zlx zey zzs zck zwb1 zta1 zia1 zbh zws zya1 zqz zqc1 zop zcz zyo e_gN znp zrl e_gT zyq zc21 zad1 zwc1 zqa1 e_cE e_cF zoo ztx zgy zmq zwx zvp zrs zj91 zbd1 zo01 zsx zgp zvc1 e_nF e_cN zdz zfh zx11 za01 e_aD e_aB e_aO zbt zks zzp zto e_eN zpp zbk zhh zor zug zyg zcs zil zmx e_uC zqx zjk zgq zek zhs zlq zmc1 zma1 zo91 zwg zpg zk21 zvz zwp zy01 zz11 zv11 zr11 zeb1 zfr zab1 zja1 zpc1 zqp zmo zny zuq zzc1 fAdd fCat fI fI0 fMul fRep fEq fNe fIx zhu fNeg fB fTru fLen zr61 zj31 zf71 fInt fSl fSlF zf11 fZip zp01 znx zl01 zmy fzT vwT slT slot Sl.wth mApp zls fPut fGet fII keyD nFld nCls noM nSet nFII nIx noO noS zht oneO zdw ArgP.arg toD zw41 exA oIx List.getElem?_cons_zero List.getElem?_cons_succ List.set_cons_zero List.set_cons_succ List.length_cons List.length_nil List.nil_append List.cons_append List.lookup putA setP getP Nat.reduceAdd Nat.reduceSub Nat.reduceMul Int.reduceAdd Int.reduceSub Int.reduceMul Int.reduceNeg Int.reduceLT Int.reduceLE Int.reducePow Int.reduceToNat Nat.reducePow Nat.reduceLT Nat.reduceLeDiff Nat.reduceEqDiff Int.reduceEq Int.reduceMod Int.reduceDiv Int.reduceBEq Int.reduceBNe Int.reduceGT Int.reduceGE zq21 CPow Option.map_some Option.map_none Option.bind_some zp5 zt5 zf8 zd9 zr9 zq5 zma zq9 zt4 zw3 zd4 zo5 zi9 zt8 zsa zl9 zr4 zi4 zj4 zl3 zq2 zs3 zx7 zl4 zn4 zk3 zl2 zn3 zy7 zk4 zp4 ze3 zi2 zo3 zg8 zq4 zz7 zg3 zk2 zq3 zk6 zi3 zg6 za6 zy1 zj2 za5 zr2 zg5 zf5 zb2 zz1 ze6 zr3 zn6 zd6 zh2 zc2 zra zbb zeb zva zu8 zq7 zm9 zr7 zk8 za8 zm7 zw6 zn5 zi6 zx2 zv2 za3 zb3 zm2 zd2 zo2 zd5 zi5 zb5 zk5 zz3 zz2 zx3 zh9 ze9 zg9 zp9 zh8 zl6 zu7 zwa zna zqa zoa zf9 zl7 za9 ze8 zh7 zn7 zc8 zz5 zv4 zm6 zt7 zd8 zw7 zb6 zu4 zs6 zj8 zp7 zp6 zm5 zt6 zo7 zj7 zx6 zy4 zr6 zi7 zq6 zh5 zh6 zv6 zb4 ze5 zj5 zy3 zv3 zy5 zx4 za4 zg11 zj01 zw11 ze11 r_nt r_nf zp91 zw91 zid1 zgd1";let B <- f "zrv zd41 zz41 zk51 zh61 zq61 zn71 zvv ze51 za41 zwd1 zl31 zgw List.map_cons List.map_nil beq_self_eq_true sizeLine_eq decide_eq_true_eq decide_true decide_false Bool.not_true Bool.not_false Bool.not_eq_true' Bool.not_eq_eq_eq_not Bool.not_not decide_eq_false_iff_not decide_not true_and and_true if_true if_false Bool.false_eq_true reduceCtorEq ite_true ite_false not_false_eq_true not_true_eq_false ne_eq Option.some.injEq exists_eq_left' exists_eq_left";`(tactic| first|(dsimp only [$A,*];repeat (simp -iota only [$A,*,$B,*];try dsimp only [$A,*]))|(simp -iota only [$A,*,$B,*];try dsimp only [$A,*];repeat (simp -iota only [$A,*,$B,*];try dsimp only [$A,*])))
local macro_rules | `(tactic| walk_at "k") => `(tactic| (refine ⟨_,rfl,?_⟩; walk_at "dd"))
local macro_rules | `(tactic| walk_at "a") => do let J:=Lean.mkIdent `J; let h:=Lean.mkIdent `hJ; `(tactic| (refine zf0 fun $J $h => ?_; walk_at "dd"))
local macro_rules | `(tactic| walk_at "f") => do let h:=Lean.mkIdent `hJ; `(tactic| (refine $h _ ?_; clear $h))
local macro_rules | `(tactic| walk_at "c") => do let h:=Lean.mkIdent `hJ; `(tactic| (clear $h; walk_at "a"))
local macro_rules | `(tactic| walk_at "b") => `(tactic| (walk_at "f"; walk_at "a"))
local macro_rules | `(tactic| walk_at "g") => do let f:=Lean.mkIdent; `(tactic| intro $(f `f) $(f `cdv) $(f `A) $(f `outer) $(f `s) $(f `H) $(f `E) $(f `hr))
local macro_rules | `(tactic| walk_at "h") => `(tactic| (refine fun _ _ _ _ _ _ us hl => ?_; first | (obtain ⟨_,e⟩:=ar1 hl;subst e;rfl) | (obtain ⟨_,_,e⟩:=ar2 hl;subst e;rfl) | (obtain ⟨_,_,_,e⟩:=ar3 hl;subst e;rfl) | (obtain ⟨_,_,_,_,e⟩:=ar4 hl;subst e;rfl) | (obtain ⟨_,_,_,_,_,e⟩:=ar5 hl;subst e;rfl)))
local macro_rules | `(tactic| walk_at "i") => `(tactic| (refine fun ds Qd h => ?_; first | (obtain ⟨e,_⟩:=h;subst e;rfl) | (obtain ⟨_,e,_⟩:=h;subst e;rfl) | (obtain ⟨_,_,e,_⟩:=h;subst e;rfl) | (obtain ⟨_,_,_,e,_⟩:=h;subst e;rfl) | (obtain ⟨_,_,_,_,e,_⟩:=h;subst e;rfl) | (obtain ⟨_,_,_,_,_,e,_⟩:=h;subst e;rfl) | (obtain ⟨_,_,_,_,_,_,e,_⟩:=h;subst e;rfl) | (obtain ⟨_,_,_,_,_,_,_,e,_⟩:=h;subst e;rfl)))
local macro_rules|`(tactic| walk_at "dn")=>`(tactic| (refine zf0 λ J hJ=>?_;walk_at "dd";refine hJ _ ?_;clear hJ))
local macro_rules|`(tactic| walk_at "dns")=>`(tactic| repeat walk_at "dn")
namespace _11
open PySem PySem.Spec PyProof.Rows _2 _3 _4 _5
variable {am:Int}{en:List Int}{i i' m n s:Nat}
def top(i:Nat):Stmt:=PySem.Challenge.pw_vatyard_k11_deeds_of_two_plays.main.body.getD i (.Pass ⟨0,0,0,0⟩)
abbrev ze4:Stmt:=zu5 (top 13) 0
abbrev zc4:Stmt:=zu5 (top 13) 1
abbrev zv5:Stmt:=zu5 (top 14) 0
abbrev zw5:Stmt:=zu5 (top 14) 1
abbrev zl5:Stmt:=zu5 (top 15) 0
abbrev zs4:Stmt:=zu5 (top 15) 1
abbrev zsh:Stmt:=top 16
abbrev zq1:Stmt:=zu5 (top 18) 0
abbrev zne:Stmt:=zu5 (top 18) 1
abbrev zua:Stmt:=zu5 (top 18) 2
abbrev zn2:Stmt:=zu5 (top 18) 3
abbrev zo4:Stmt:=zu5 (top 18) 4
abbrev zz9:Stmt:=zu5 (top 18) 5
abbrev zoe:Stmt:=zu5 (top 18) 6
abbrev zza:Stmt:=zu5 (top 18) 7
abbrev zs8:Stmt:=top 19
abbrev zdc:Stmt:=top 21
abbrev zlc:Stmt:=top 22
abbrev zgc:Stmt:=top 23
abbrev zbc:Stmt:=top 24
abbrev znc:Stmt:=top 25
abbrev zu9:Stmt:=top 26
abbrev zxa:Stmt:=top 27
abbrev zta:Stmt:=top 28
abbrev zs5:Stmt:=top 29
abbrev zs7:Stmt:=top 30
abbrev ztc:Stmt:=top 31
abbrev zc5:Stmt:=top 32
abbrev zf3:Stmt:=top 33
abbrev zud:Stmt:=top 34
abbrev zm4:Stmt:=top 35
abbrev zo9:Stmt:=top 36
abbrev zkc:Stmt:=top 37
abbrev zw9:Stmt:=top 38
abbrev zt11:Stmt:=top 39
inductive Gt where
|st (x:Int)|la (x:Int) (f:Nat)|ti (x y:Int) (t:Nat)
noncomputable def Gt.d:Gt->D
|.st x=>.tuple [.str "steady",.int x]
|.la x f=>.tuple [.str "late",.int x,.int (f:Int)]
|.ti x y t=>.tuple [.str "tidal",.int x,.int y,.int (t:Int)]
noncomputable def Gt.at:Gt->Nat->Int
|.st x,_=>x
|.la x f,m=>if f<=m then x else 0
|.ti x y t,m=>if m % t=0 then x else y
noncomputable def Gt.ob(C1 C2 C3:Addr):Gt->_4.T
|.st x=>.ob C1 [("wide",.fz (.int x))]
|.la x f=>.ob C2 [("wide",.fz (.int x)),("since",.fz (.int (f:Int)))]
|.ti x y t=>.ob C3 [("wide",.fz (.int x)),("other",.fz (.int y)),("turn",.fz (.int (t:Int)))]
noncomputable def Gt.ok:Gt->Prop
|.ti _ _ t=>0 < t/\t < 1000
|_=>True
section
variable {P:Program}{w:World}{K:Fg}{mg:Str->Option Value}{base:Heap}{jB jD jC:Addr}
noncomputable def zn8(C:Addr):DSpT:=λas Q=>∃x:Int,as=[.o (.ob C []),.d (.int x)]/\Q (.fz .none) (.ob C [("wide",.fz (.int x))])
noncomputable def zga(C:Addr):DSpT:=λas Q=>∃x y:Int,as=[.o (.ob C []),.d (.int x),.d (.int y)]/\Q (.fz .none) (.ob C [("wide",.fz (.int x)),("since",.fz (.int y))])
noncomputable def zz8(C:Addr):DSpT:=λas Q=>∃x y z:Int,as=[.o (.ob C []),.d (.int x),.d (.int y),.d (.int z)]/\Q (.fz .none) (.ob C [("wide",.fz (.int x)),("other",.fz (.int y)),("turn",.fz (.int z))])
noncomputable def zk1(C:Addr):DSpT:=λas Q=>∃(x:Int)(m:Nat),as=[.b (.ob C [("wide",.fz (.int x))]),.d (.int (m:Int))]/\Q (.fz (.int (Gt.at (.st x) m))) (.fz .none)
noncomputable def zp1(C:Addr):DSpT:=λas Q=>∃(x:Int)(f m:Nat),as=[.b (.ob C [("wide",.fz (.int x)),("since",.fz (.int (f:Int)))]),.d (.int (m:Int))]/\Q (.fz (.int (Gt.at (.la x f) m))) (.fz .none)
noncomputable def zl1(C:Addr):DSpT:=λas Q=>∃(x y:Int)(t m:Nat),as=[.b (.ob C [("wide",.fz (.int x)),("other",.fz (.int y)),("turn",.fz (.int (t:Int)))]),.d (.int (m:Int))]/\0 < t/\t < 1000/\Q (.fz (.int (Gt.at (.ti x y t) m))) (.fz .none)
noncomputable def zrm(C1 C2 C3:Addr):DSpT:=λas Q=>∃g:Gt,as=[.d g.d]/\Q (g.ob C1 C2 C3) (.fz .none)
theorem zc7:FnScope ["self", "wide"] ["self", "wide"] (zh0 ze4):=by walk_at"sc"
theorem zec(M:Md K mg)(cT:TopCls K "Steady" jB)(T:TopMeth K jB "__init__" "Steady.__init__" ze4)(kB:NoAttr K jB "wide"):zdt P w K mg base "Steady" jB 1 ["self", "wide"] (spT K (zn8 jB)):=by
 have kT:=cT.cls;refine zdn M cT T zc7 (by walk_at"h") (zof λas Qd h=>by obtain⟨_,rfl,_⟩:=h;rfl) (zj6 ?_);walk_at"g";have nd:=zc7.nd;refine⟨_,_,(zi0 (zhb (pv 0) (pv 1) rfl)),(znb kT kB (RfE.c (zn0 1)) (zl0 0)),?_⟩;rintro as Qd a ⟨x,rfl,q⟩;walk_at"ds";walk_at"dd";exact⟨_,rfl,q⟩
theorem zs9:FnScope ["self", "wide", "since"] ["self", "wide", "since"] (zh0 zv5):=by walk_at"sc"
theorem zve(M:Md K mg)(cT:TopCls K "Late" jD)(T:TopMeth K jD "__init__" "Late.__init__" zv5)(kU:NoAttr K jD "wide")(kK:NoAttr K jD "since"):zdt P w K mg base "Late" jD 1 ["self", "wide", "since"] (spT K (zga jD)):=by
 have qD:=cT.cls;refine zdn M cT T zs9 (by walk_at"h") (zof λas Qd h=>by obtain⟨_,_,rfl,_⟩:=h;rfl) (zj6 ?_);walk_at"g";have nd:=zs9.nd;refine⟨_,_,(zd0 (zhb (pv 0) (pv 1) rfl)
   (zi0 (zhb (pv 0) (pv 2) rfl))),(zo0 (znb qD kU (RfE.c (zn0 1)) (zl0 0))
   (znb qD kK (RfE.c (zn0 2)) (zl0 0))),?_⟩
 rintro as Qd a ⟨x,y,rfl,q⟩;walk_at"ds";walk_at"dn";walk_at"dd";exact⟨_,rfl,q⟩
theorem zm8:FnScope ["self", "wide", "other", "turn"] ["self", "wide", "other", "turn"] (zh0 zl5):=by walk_at"sc"
theorem zld(M:Md K mg)(cT:TopCls K "Tidal" jC)(T:TopMeth K jC "__init__" "Tidal.__init__" zl5)(kL:NoAttr K jC "wide")(kC:NoAttr K jC "other")(kM:NoAttr K jC "turn"):zdt P w K mg base "Tidal" jC 1 ["self", "wide", "other", "turn"] (spT K (zz8 jC)):=by
 have kN:=cT.cls;refine zdn M cT T zm8 (by walk_at"h") (zof λas Qd h=>by obtain⟨_,_,_,rfl,_⟩:=h;rfl) (zj6 ?_);walk_at"g";have nd:=zm8.nd;refine⟨_,_,(zd0 (zhb (pv 0) (pv 1) rfl)
   (zd0 (zhb (pv 0) (pv 2) rfl)
   (zi0 (zhb (pv 0) (pv 3) rfl)))),(zo0 (znb kN kL (RfE.c (zn0 1)) (zl0 0))
   (zo0 (znb kN kC (RfE.c (zn0 2)) (zl0 0))
   (znb kN kM (RfE.c (zn0 3)) (zl0 0)))),?_⟩
 rintro as Qd a ⟨x,y,z,rfl,q⟩;walk_at"ds";walk_at"dn";walk_at"dn";walk_at"dd";exact⟨_,rfl,q⟩
theorem zz6:FnScope ["self", "moment"] ["self", "moment"] (zh0 zc4):=by walk_at"sc"
theorem zhc(kT:Cls K jB)(T:TopMeth K jB "width_at" "Steady.width_at" zc4)(kB:NoAttr K jB "wide"):zsb P w K mg base jB "width_at" 1 ["self", "moment"] (spT K (zk1 jB)):=by
 refine zcd kT T zz6 (by walk_at"h") (zof λas Qd h=>by obtain⟨_,_,rfl,_⟩:=h;rfl) (zj6 ?_);walk_at"g";have nd:=zz6.nd;refine⟨_,_,(zi0 (ze1 (zg1 (K:=K) rfl (pv 0) rfl))),(zf1 (RfE.c (RfP.e (zu1 kT kB (zl0 0))))),?_⟩;rintro as Qd a ⟨x,m,rfl,q⟩;walk_at"ds";walk_at"dd";exact q
theorem zn9:FnScope ["self", "moment"] ["self", "moment"] (zh0 zw5):=by walk_at"sc"
theorem zje(qD:Cls K jD)(T:TopMeth K jD "width_at" "Late.width_at" zw5)(kU:NoAttr K jD "wide")(kK:NoAttr K jD "since"):zsb P w K mg base jD "width_at" 1 ["self", "moment"] (spT K (zp1 jD)):=by
 refine zcd qD T zn9 (by walk_at"h") (zof λas Qd h=>by obtain⟨_,_,_,rfl,_⟩:=h;rfl) (zj6 ?_);walk_at"g";have nd:=zn9.nd;refine⟨_,_,(zi0 (ze1 (zbq (zv0 zyc1 (pv 1) (zg1 (K:=K) rfl (pv 0) rfl) (zd1 _)) (zg1 (K:=K) rfl (pv 0) rfl) zc0))),(zf1 (RfE.c (zv51 (zt0 (zk0 r_ge (zb0 1) (RfP.v (zu1 qD kK (zl0 0))))) (RfP.e (zu1 qD kU (zl0 0))) zr0))),?_⟩;rintro as Qd a ⟨x,f,m,rfl,q⟩;walk_at"ds";walk_at"dd";have q:Qd (.fz (.int (if f<=m then x else 0))) (.fz .none):=q;refine two (λh=>?_) λh=>?_
 ·rw[if_pos (by lia)]at q;exact q
 ·rw[if_neg (by lia)]at q;exact q
theorem zo8:FnScope ["self", "moment"] ["self", "moment"] (zh0 zs4):=by walk_at"sc"
theorem zkd(kN:Cls K jC)(T:TopMeth K jC "width_at" "Tidal.width_at" zs4)(kL:NoAttr K jC "wide")(kC:NoAttr K jC "other")(kM:NoAttr K jC "turn"):zsb P w K mg base jC "width_at" 1 ["self", "moment"] (spT K (zl1 jC)):=by
 refine zcd kN T zo8 (by walk_at"h") (zof λas Qd h=>by obtain⟨_,_,_,_,rfl,_⟩:=h;rfl) (zj6 ?_);walk_at"g";have nd:=zo8.nd;refine⟨_,_,(zi0 (ze1 (zbq (zv0 (zx1 (K:=K) rfl (Room.units hr)) (zu0 zh1 (pv 1) (zg1 (K:=K) rfl (pv 0) rfl)) zc0 (zd1 _)) (zg1 (K:=K) rfl (pv 0) rfl) (zg1 (K:=K) rfl (pv 0) rfl)))),(zf1 (RfE.c (zv51 (zt0 (zm1 q_eq (RfV.h (RfE.v (zk0 zg4 (zb0 1) (RfP.v (zu1 kN kM (zl0 0)))))) (RfV.h rvi))) (RfP.e (zu1 kN kL (zl0 0))) (RfP.e (zu1 kN kC (zl0 0)))))),?_⟩;rintro as Qd a ⟨x,y,t,m,rfl,h0,h1,q⟩;walk_at"ds";walk_at"dd";have q:Qd (.fz (.int (if m % t=0 then x else y))) (.fz .none):=q;have e:((m:Int) % (t:Int)=0) ↔ m % t=0:=by rw[<- Int.natCast_emod];lia
 refine⟨by lia,two (λh=>?_) λh=>?_⟩
 ·rw[if_pos (e.mp h)]at q;exact q
 ·rw[if_neg (λz=>h (e.mpr z))]at q;exact q
theorem zfj:FnScope ["gate"] ["gate"] (zh0 zsh):=by walk_at"sc"
theorem znq(M:Md K mg)(T:TopDef K "gate_of" zsh)(vY:zdt P w K mg base "Tidal" jC 1 ["self", "wide", "other", "turn"] (spT K (zz8 jC)))(vV:zdt P w K mg base "Steady" jB 1 ["self", "wide"] (spT K (zn8 jB)))(wB:zdt P w K mg base "Late" jD 1 ["self", "wide", "since"] (spT K (zga jD))):Def P w K mg base "gate_of" 3 ["gate"] (spT K (zrm jB jD jC)):=by
 refine zb8 M T zfj (by walk_at"h") (zof λas Qd h=>by obtain⟨_,rfl,_⟩:=h;rfl) (zj6 ?_);walk_at"g";have nd:=zfj.nd;refine⟨_,_,(zd0 (zf4 (zv0 (zx1 (K:=K) rfl (Room.units hr)) (pix w K hr (pv 0) zc0) zdj (zd1 _)) (zi0 (ze1 (zsd vV (rmn hr) rfl (za0 (pix w K hr (pv 0) zc0) zg0)))) zx0)
   (zd0 (zf4 (zv0 (zx1 (K:=K) rfl (Room.units hr)) (pix w K hr (pv 0) zc0) zdj (zd1 _)) (zi0 (ze1 (zsd wB (rmn hr) rfl (za0 (pix w K hr (pv 0) zc0) (za0 (pix w K hr (pv 0) zc0) zg0))))) zx0)
   (zi0 (ze1 (zsd vY (rmn hr) rfl (za0 (pix w K hr (pv 0) zc0) (za0 (pix w K hr (pv 0) zc0) (za0 (pix w K hr (pv 0) zc0) zg0)))))))),(zo0 (zy6 (zt0 (zm1 q_eq (RfV.h (RfE.v (zk0 r_ix (zb0 0) rvi))) (RfV.h (RfE.v zni)))) (zf1 (RfN.c (zci (at_d (zk0 r_ix (zb0 0) rvi) zd3)))) zy0)
   (zo0 (zy6 (zt0 (zm1 q_eq (RfV.h (RfE.v (zk0 r_ix (zb0 0) rvi))) (RfV.h (RfE.v zni)))) (zf1 (RfN.c (zci (at_d (zk0 r_ix (zb0 0) rvi) (at_d (zk0 r_ix (zb0 0) rvi) zd3))))) zy0)
   (zf1 (RfN.c (zci (at_d (zk0 r_ix (zb0 0) rvi) (at_d (zk0 r_ix (zb0 0) rvi) (at_d (zk0 r_ix (zb0 0) rvi) zd3)))))))),?_⟩
 rintro as Qd a ⟨g,rfl,q⟩;cases g with
|st x =>
  unfold Gt.d;walk_at"ds";walk_at"a";walk_at"k";exact⟨_,rfl,x,rfl,trivial,q⟩
|la x f =>
  unfold Gt.d;walk_at"ds";walk_at"a";walk_at"k";rw[if_neg (by decide +kernel)];walk_at"b";walk_at"k";exact⟨_,rfl,_,rfl,x,f,rfl,trivial,q⟩
|ti x y t =>
  unfold Gt.d;walk_at"ds";walk_at"a";walk_at"k";rw[if_neg (by decide +kernel)];walk_at"b";walk_at"k";rw[if_neg (by decide +kernel)];walk_at"f";walk_at"dd";exact⟨_,rfl,_,rfl,_,rfl,x,y,t,rfl,trivial,q⟩
end
structure Pi where
 u:Nat
 v:Nat
 len:Nat
 pr:Int
 g:Gt
noncomputable def Pi.d(p:Pi):D:=.tuple [.int (p.u:Int),.int (p.v:Int),.int (p.len:Int),.int p.pr,p.g.d]
theorem zjh{k:Nat}(h:k < n):ixN n ((k:Nat):Int)=some k:=by
 unfold ixN;rw[if_pos (by lia),if_pos (by lia)];simp
structure Va where
 nm:Str
 room:Int
 fill:Int
noncomputable def Va.d(v:Va):D:=.tuple [.str v.nm,.int v.room,.int v.fill]
noncomputable def pS(C C1 C2 C3:Addr)(rooms lying:List Int)(ps:List Pi)(m:Nat)(en:List Int)(kvs:List (List Key×D)):_4.T :=
 .ob C [("rooms",.li (rooms.map .int)),("lying",.li (lying.map .int)),("pipes",.fz (.list (ps.map Pi.d))),("gates",.ls (ps.map λp=>p.g.ob C1 C2 C3)),("moment",.fz (.int (m:Int))),("entered",.li (en.map .int)),("coming",.dt kvs)]
section
variable {P:Program}{w:World}{K:Fg}{mg:Str->Option Value}{base:Heap}{jB jD jC jA:Addr}
noncomputable def zba(C C1 C2 C3:Addr):DSpT:=λas Q=>∃(vs:List Va)(ps:List Pi),as=[.o (.ob C []),.b (.tp [.li (vs.map Va.d),.li (ps.map Pi.d)])]/\vs.length<=12/\ps.length<=24 /\
 Q (.fz .none) (pS C C1 C2 C3 (vs.map Va.room) (vs.map Va.fill) ps 0 (v9 ps.length 0) [])
noncomputable def zjb(C C1 C2 C3:Addr):DSpT:=λas Q=>∃(rooms lying:List Int)(ps:List Pi)(m:Nat)(en:List Int)(kvs:List (List Key×D))(k:Nat)(p:Pi)(e:Int),as=[.b (pS C C1 C2 C3 rooms lying ps m en kvs),.d (.int (k:Int))]/\ps[k]?=some p/\en[k]?=some e/\p.g.ok/\ps.length<=24/\Q (.fz (.int (p.g.at m - e))) (.fz .none)
noncomputable def zdf(C C1 C2 C3:Addr):DSpT:=λas Q=>∃(rooms lying:List Int)(ps:List Pi)(m:Nat)(en:List Int)(kvs:List (List Key×D)),as=[.b (pS C C1 C2 C3 rooms lying ps m en kvs)]/\Q (.li (lying.map .int)) (.fz .none)
noncomputable def over(rooms lying:List Int):List Nat:=(rooms.mapIdx λi r=>(i,r)).filterMap λx=>if x.2 < lying.getD x.1 0 then some x.1 else none
noncomputable def zt9(C C1 C2 C3:Addr):DSpT:=λas Q=>∃(rooms lying:List Int)(ps:List Pi)(m:Nat)(en:List Int)(kvs:List (List Key×D)),as=[.b (pS C C1 C2 C3 rooms lying ps m en kvs)]/\rooms.length=lying.length/\rooms.length<=12/\Q (.li ((over rooms lying).map λk:Nat=>wK (k:Int))) (.fz .none)
theorem zxc:FnScope ["self"] ["self"] (zh0 zua):=by walk_at"sc"
theorem zri(jE:Cls K jA)(T:TopMeth K jA "holds" "Play.holds" zua)(jX:mg "list"=none)(jL:NoAttr K jA "lying"):zsb P w K mg base jA "holds" 1 ["self"] (spT K (zdf jA jB jD jC)):=by
 refine zcd jE T zxc (by walk_at"h") (zof λas Qd h=>by obtain⟨_,_,_,_,_,_,rfl,_⟩:=h;rfl) (zj6 ?_);walk_at"g";have nd:=zxc.nd;refine⟨_,_,(zi0 (ze1 (zp2 (zg2 (K:=K) rfl) rfl jX zv8 (za0 (zg1 (K:=K) rfl (pv 0) rfl) zg0)))),(zf1 (RfF.c (zms ztg (zz0 (RfP.v (zu1 jE jL (zl0 0))) zs1)))),?_⟩;rintro as Qd a ⟨rooms,lying,ps,m,en,kvs,rfl,q⟩;unfold pS;walk_at"ds";walk_at"dd";exact q
theorem zbf:FnScope ["self"] ["self"] (zh0 zz9):=by walk_at"sc"
theorem zfk(jE:Cls K jA)(T:TopMeth K jA "full" "Play.full" zz9)(kW:mg "enumerate"=none)(kO:NoAttr K jA "rooms")(jL:NoAttr K jA "lying"):zsb P w K mg base jA "full" 1 ["self"] (spT K (zt9 jA jB jD jC)):=by
 refine zcd jE T zbf (by walk_at"h") (zof λas Qd h=>by obtain⟨_,_,_,_,_,_,rfl,_⟩:=h;rfl) (zj6 ?_);walk_at"g";have nd:=zbf.nd;refine⟨_,_,(zi0 (ze1 (zb7 (sc:=zh0 zz9) (N:=["self"]) (own:=["vat", "room"]) (ix:=[0]) rfl rfl rfl (by walk_at"csc") (zex (K:=K) rfl rfl kW (za0 (zg1 (K:=K) rfl (pv 0) rfl) zg0)) (λ_ _ _ _=>⟨(zte (K:=K) (n:=2) rfl rfl (ze2 (pgn 0 (nds ["vat", "room", "self"])) (ze2 (pgn 1 (nds ["vat", "room", "self"])) zwe))),(zfn (zv0 zp21 (pix w K hr (zg1 (K:=K) rfl (pv 2) rfl) (pv 0)) (pv 1) (zd1 _))),(pv 0)⟩)))),(zf1 (RfF.c (zp8 (zz51 (zz0 (RfP.v (zu1 jE kO (zl0 0))) zs1)) (zpn (zc3 (zt3 (i:=0) (n:=2) (by decide)) (zc3 (zt3 (i:=1) (n:=2) (by decide)) zwf))) (zt0 (zk0 r_gt (RfE.v (zk0 r_ix (RfP.v (zu1 jE jL (zl0 2))) (zb0 0))) (zb0 1))) (zn0 0)))),?_⟩;rintro as Qd a ⟨rooms,lying,ps,m,en,kvs,rfl,hl,h12,q⟩;unfold pS;walk_at"ds";walk_at"dd";rw[zym];refine za31 (λx=>if x.2 < lying.getD x.1 0 then some (.int (x.1:Int))else none) (by rw[sizeLine_eq,uaJ];lia) (λx hx=>?_) ?_
 ·obtain⟨i,r⟩:=x;obtain⟨j,hj,ej⟩:=List.mem_mapIdx.mp hx;cases ej;have ly:i < lying.length:=by lia
  have gl:atI (lying.map wK) ((i:Nat):Int)=some (.int (lying.getD i 0)):=zjf (by lia) (by rw[wH,wD,v7,u8 ly];rfl);walk_at"cs";walk_at"dd";refine⟨_,gl,?_⟩;walk_at"dd";exact two (λz=>by rw[if_pos z]) λz=>by rw[if_neg z]
 ·unfold over at q;rw[k9]at q;refine(congrArg (λl=>Qd (.li l) (.fz .none)) ?_).mp q;congr 1;funext x;split <;> rfl
theorem zb9:FnScope ["self", "yard"] ["self", "yard"] (zh0 zq1):=by walk_at"sc"
theorem ztd(M:Md K mg)(cT:TopCls K "Play" jA)(T:TopMeth K jA "__init__" "Play.__init__" zq1)(jT:mg "len"=none)(jX:mg "list"=none)(vS:Def P w K mg base "gate_of" 3 ["gate"] (spT K (zrm jB jD jC)))(kO:NoAttr K jA "rooms")(jL:NoAttr K jA "lying")(jJ:NoAttr K jA "pipes")(jS:NoAttr K jA "gates")(jG:NoAttr K jA "moment")(jI:NoAttr K jA "entered")(jP:NoAttr K jA "coming"):zdt P w K mg base "Play" jA 4 ["self", "yard"] (spT K (zba jA jB jD jC)):=by
 have jE:=cT.cls;refine zdn M cT T zb9 (by walk_at"h") (zof λas Qd h=>by obtain⟨_,_,rfl,_⟩:=h;rfl) (zj6 ?_);walk_at"g";have nd:=zb9.nd;refine⟨_,_,(zd0 (zhb (pv 0) (zb7 (sc:=zh0 zq1) (N:=["self", "yard"]) (own:=["vat"]) (ix:=[]) rfl rfl rfl (by walk_at"csc") (pi_W (K:=K) rfl (pix w K hr (pv 1) zc0)) (λ_ _ _ _=>⟨(pgn 0 (nds ["vat"])),zea,(pix w K hr (pv 0) zc0)⟩)) rfl)
   (zd0 (zhb (pv 0) (zb7 (sc:=zh0 zq1) (N:=["self", "yard"]) (own:=["vat"]) (ix:=[]) rfl rfl rfl (by walk_at"csc") (pi_W (K:=K) rfl (pix w K hr (pv 1) zc0)) (λ_ _ _ _=>⟨(pgn 0 (nds ["vat"])),zea,(pix w K hr (pv 0) zc0)⟩)) rfl)
   (zd0 (zhb (pv 0) (zp2 (zg2 (K:=K) rfl) rfl jX zv8 (za0 (pix w K hr (pv 1) zc0) zg0)) rfl)
   (zd0 (zhb (pv 0) (zb7 (sc:=zh0 zq1) (N:=["self", "yard"]) (own:=["pipe"]) (ix:=[]) rfl rfl rfl (by walk_at"csc") (pi_W (K:=K) rfl (pix w K hr (pv 1) zc0)) (λ_ _ _ _=>⟨(pgn 0 (nds ["pipe"])),zea,(zq0 vS (rmn hr) rfl (za0 (pix w K hr (pv 0) zc0) zg0))⟩)) rfl)
   (zd0 (zhb (pv 0) zc0 rfl)
   (zd0 (zhb (pv 0) (zu0 zt2 (zj1 (za0 zc0 zg0)) (zb1 (zw1 (K:=K) rfl) rfl jT zjc (za0 (zg1 (K:=K) rfl (pv 0) rfl) zg0))) rfl)
   (zi0 (zhb (pv 0) zxx rfl)))))))),(zo0 (znb jE kO (RfF.c (zp8 (ziy (RfP.v (za7 (zl0 1) zr0))) (zt3 (i:=0) (n:=1) (by decide)) zwc (zk0 r_ix (zb0 0) rvi))) (zl0 0))
   (zo0 (znb jE jL (RfF.c (zp8 (ziy (RfP.v (za7 (zl0 1) zr0))) (zt3 (i:=0) (n:=1) (by decide)) zwc (zk0 r_ix (zb0 0) rvi))) (zl0 0))
   (zo0 (znb jE jJ (RfE.c (RfF.e (zms ztg (zz0 (RfP.v (za7 (zl0 1) zr0)) zs1)))) (zl0 0))
   (zo0 (znb jE jS (RfN.c (zi81 (ziy (RfP.v (za7 (zl0 1) zr0))) (zt3 (i:=0) (n:=1) (by decide)) (zli (at_d (zk0 r_ix (zb0 0) rvi) zd3)))) (zl0 0))
   (zo0 (znb jE jG (RfE.c zr0) (zl0 0))
   (zo0 (znb jE jI (RfF.c (zp71 (zo6 (ze0 zr0 zs0)) (zth zqn (zz0 (RfP.v (zu1 jE jJ (zl0 0))) zs1)))) (zl0 0))
   (znb jE jP zkg1 (zl0 0)))))))),?_⟩
 rintro as Qd a ⟨vs,ps,rfl,hv,hp,q⟩;walk_at"ds";walk_at"a";refine⟨0,_,rfl,rfl,?_⟩;walk_at"dd";refine zq11 (λv=>.int v.room) (by rw[sizeLine_eq];lia) (λv _=>?_) (hJ _ ?_)
 ·unfold Va.d;walk_at"cs";walk_at"dd";exact⟨_,rfl,rfl⟩
 walk_at"c";refine⟨0,_,rfl,rfl,?_⟩;walk_at"dd";refine zq11 (λv=>.int v.fill) (by rw[sizeLine_eq];lia) (λv _=>?_) (hJ _ ?_)
 ·unfold Va.d;walk_at"cs";walk_at"dd";exact⟨_,rfl,rfl⟩
 walk_at"c";refine⟨1,_,rfl,rfl,?_⟩;walk_at"dd";walk_at"b";refine⟨1,_,rfl,rfl,?_⟩;walk_at"dd";refine zka1 (λp=>p.g.ob jB jD jC) (by rw[sizeLine_eq];lia) (λp _=>?_) (hJ _ ?_)
 ·unfold Pi.d;walk_at"cs";walk_at"dd";exact⟨_,rfl,p.g,rfl,rfl⟩
 clear hJ;walk_at"dn";walk_at"a";rw[u4,wH,uaK];refine⟨by lia,by lia,by lia,hJ _ ?_⟩;clear hJ;walk_at"dd";refine⟨_,rfl,?_⟩;unfold pS at q;rw[wZ,wZ,uaL]at q;exact q
theorem zp3:FnScope ["self", "pipe"] ["self", "pipe"] (zh0 zo4):=by walk_at"sc"
theorem znf(jE:Cls K jA)(T:TopMeth K jA "room_in" "Play.room_in" zo4)(jT:mg "len"=none)(qD:Cls K jD)(kT:Cls K jB)(kN:Cls K jC)(jG:NoAttr K jA "moment")(jI:NoAttr K jA "entered")(jJ:NoAttr K jA "pipes")(jS:NoAttr K jA "gates")(jW:zsb P w K mg base jB "width_at" 1 ["self", "moment"] (spT K (zk1 jB)))(kI:zsb P w K mg base jD "width_at" 1 ["self", "moment"] (spT K (zp1 jD)))(kG:zsb P w K mg base jC "width_at" 1 ["self", "moment"] (spT K (zl1 jC))):zsb P w K mg base jA "room_in" 2 ["self", "pipe"] (spT K (zjb jA jB jD jC)):=by
 refine zcd jE T zp3 (by walk_at"h") (zof λas Qd h=>by obtain⟨_,_,_,_,_,_,_,_,_,rfl,_⟩:=h;rfl) (zj6 ?_);walk_at"g";have nd:=zp3.nd;refine⟨_,_,(zd0 (zf4 (zka (zvg zpb1 zyt zc0 (pv 1) (zb1 (zw1 (K:=K) rfl) rfl jT zjc (za0 (zg1 (K:=K) rfl (pv 0) rfl) zg0)))) (zi0 zv61) zx0)
   (zi0 (ze1 (zu0 zel (zgo (P:=P) (w:=w) (K:=K) (mg:=mg) (base:=base) (k:=1) rfl rfl rfl rfl rfl (rmn hr) (pix w K hr (zg1 (K:=K) rfl (pv 0) rfl) (pv 1)) (za0 (zg1 (K:=K) rfl (pv 0) rfl) zg0)) (pix w K hr (zg1 (K:=K) rfl (pv 0) rfl) (pv 1)))))),(zo0 (zy6 (zoc (zt0 (zkk r_le r_lt zr0 (zn0 1) (zth zqn (zz0 (RfP.v (zu1 jE jJ (zl0 0))) zs1))))) zl51 zy0)
   (zf1 (RfE.c (zk0 znz (RfE.v (RfN.ex (zrr (tab:=[(jB,(zk1 jB)),(jD,(zp1 jD)),(jC,(zl1 jC))]) (tab3 ⟨_,jW⟩ ⟨_,kI⟩ ⟨_,kG⟩) (za7 (zu1 jE jS (zl0 0)) (zn0 1)) (ze0 (RfP.e (zu1 jE jG (zl0 0))) zs0)))) (RfE.v (zk0 r_ix (RfP.v (zu1 jE jI (zl0 0))) (zb0 1))))))),?_⟩
 rintro as Qd a ⟨rooms,lying,ps,m,en,kvs,k,p,e,rfl,hk,he,ok,hl,q⟩;unfold pS;walk_at"ds";walk_at"a";have lk:=(wR.mp hk).1;rw[u4,if_pos (by lia),if_neg (by lia)];walk_at"f";walk_at"dd";refine⟨k,_,zjh (by rw[u4];exact lk),by rw[wD,hk];rfl,?_⟩;have ge:atI (en.map wK) ((k:Nat):Int)=some (.int e):=zjf (by lia) (by rw[wH,wD,he];rfl);obtain⟨u,v,ln,pr,g⟩:=p;have fin:∀x:Int,x=g.at m->∃d,atI (en.map wK) ((k:Nat):Int)=some d/\fSub (.int x) d λd=>Qd (.fz d) (.fz .none):=λx hx=>⟨_,ge,by rw[hx];exact q⟩
 cases g with
|st x =>
  unfold Gt.ob;walk_at"dd";exact⟨_,wJ,x,m,rfl,fin _ rfl⟩
|la x f =>
  unfold Gt.ob;walk_at"dd";exact⟨_,v8 _ wJ,x,f,m,rfl,fin _ rfl⟩
|ti x y t =>
  unfold Gt.ob;walk_at"dd";exact⟨_,v8 _ (v8 _ wJ),x,y,t,m,rfl,ok.1,ok.2,fin _ rfl⟩
end
noncomputable def kTI(t:Int)(i:Nat):List Key:=[.inl t,.inl (i:Int)]
noncomputable def cm(kvs:List (List Key×D))(t:Int)(i:Nat):Int:=match getA kvs (kTI t i)with
|some (.int c)=>c
|_=>0
noncomputable def AllI(kvs:List (List Key×D)):Prop:=∀k d,getA kvs k=some d->∃c,d=.int c
noncomputable def inc(l:List Int)(v:Nat)(c:Int):List Int:=l.set v (l.getD v 0+c)
noncomputable def arrL(ps:List Pi)(kvs:List (List Key×D))(t:Int):Nat->List Int->List Int
|0,l=>l
|n+1,l=>inc (arrL ps kvs t n l) ((ps[n]?).map Pi.v |>.getD 0) (cm kvs t n)
noncomputable def arrK(kvs:List (List Key×D))(t:Int):Nat->List (List Key×D)
|0=>kvs
|n+1=>zgb (arrK kvs t n) (kTI t n)
theorem zpd{κ:Type}[DecidableEq κ](k k':κ):∀kvs:List (κ×D),getA (zgb kvs k) k'=if k=k' then none else getA kvs k'
|[]=>by unfold zgb getA;simp
|(a,d) :: r=>by
  have ih:=zpd k k' r;unfold zgb at ih ⊢;by_cases e:a=k
  ·rw[yG (by simp[e]),ih,zh3,e];split <;> rfl
  ·rw[xW (by simp[e]),zh3,zh3,ih];by_cases f:a=k'
   ·subst f;rw[if_pos rfl,if_neg (λz=>e z.symm),if_pos rfl]
   ·rw[if_neg f,if_neg f]
theorem zww{t t':Int}(h:kTI t i=kTI t' i'):t=t'/\i=i':=by
 unfold kTI at h;injection h with h1 h2;injection h1 with h1;injection h2 with h2 _;injection h2 with h2;exact⟨h1,by lia⟩
theorem zyl(kvs:List (List Key×D))(t:Int)(t':Int)(i:Nat):∀n,getA (arrK kvs t n) (kTI t' i)=if t'=t/\i < n then none else getA kvs (kTI t' i)
|0=>by rw[if_neg (by lia)];rfl
|n+1=>by
  show getA (zgb (arrK kvs t n) (kTI t n)) (kTI t' i)=_;rw[zpd,zyl kvs t t' i n];by_cases e:kTI t n=kTI t' i
  ·obtain⟨e1,e2⟩:=zww e;rw[if_pos e,if_pos ⟨e1.symm,by lia⟩]
  ·rw[if_neg e];by_cases f:t'=t/\i < n
   ·rw[if_pos f,if_pos ⟨f.1,by lia⟩]
   ·rw[if_neg f,if_neg (λz=>?_)];refine f ⟨z.1,?_⟩;have:i≠n:=λy=>e (by rw[z.1,y]);lia
theorem zkv{kvs:List (List Key×D)}(h:AllI kvs)(k:List Key):AllI (zgb kvs k):=λk' d e=>by
 rw[zpd]at e;split at e
 ·cases e
 ·exact h k' d e
theorem zzl{kvs:List (List Key×D)}(h:AllI kvs)(t:Int):∀n,AllI (arrK kvs t n)
|0=>h
|n+1=>zkv (zzl h t n) _
theorem ze31{kvs:List (List Key×D)}(h:AllI kvs)(t:Int)(i:Nat):(getA kvs (kTI t i)).getD (.int 0)=.int (cm kvs t i):=by
 unfold cm;cases e:getA kvs (kTI t i)with
|none=>rfl
|some d =>
  obtain⟨c,rfl⟩:=h _ _ e;rfl
theorem zb81(kvs:List (List Key×D))(t:Int)(n:Nat):cm (arrK kvs t n) t n=cm kvs t n:=by
 unfold cm;rw[zyl,if_neg (by lia)]
theorem zfm(l:List Int)(v:Nat)(c:Int):(inc l v c).length=l.length:=by unfold inc;simp
theorem zmh(ps:List Pi)(kvs:List (List Key×D))(t:Int)(l:List Int):∀n,(arrL ps kvs t n l).length=l.length
|0=>rfl
|n+1=>by
  show(inc _ _ _).length=_;rw[zfm,zmh ps kvs t l n]
section
variable {P:Program}{w:World}{K:Fg}{mg:Str->Option Value}{base:Heap}{jB jD jC jA:Addr}
theorem zm51{rooms lying:List Int}:∀i∈over rooms lying,i < rooms.length:=λi hi=>by
 unfold over at hi;obtain⟨⟨j,r⟩,h1,h2⟩:=yU.mp hi;obtain⟨k,hk,ek⟩:=List.mem_mapIdx.mp h1;cases ek;dsimp only at h2;split at h2
 ·cases h2;exact hk
 ·cases h2
theorem zno(rooms lying:List Int):(over rooms lying).length<=rooms.length:=by
 unfold over;exact wP (j8 _ _) (by simp)
end
noncomputable def zi8(C C1 C2 C3 CT:Addr):DSpX:=λas Q X=>∃(rooms lying:List Int)(ps:List Pi)(m:Nat)(en:List Int)(kvs:List (List Key×D)),as=[.b (pS C C1 C2 C3 rooms lying ps m en kvs)]/\rooms.length=lying.length/\rooms.length<=12 /\
 (over rooms lying=[]->Q (.fz .none) (.fz .none))/\(over rooms lying≠[]->X CT (.fz .none))
noncomputable def zk9(C C1 C2 C3 CT:Addr):DSpX:=λas Q X=>∃(rooms lying:List Int)(ps:List Pi)(m:Nat)(en:List Int)(kvs:List (List Key×D)),as=[.o (pS C C1 C2 C3 rooms lying ps m en kvs)]/\rooms.length=lying.length/\rooms.length<=12/\ps.length<=24/\(∀p∈ps,p.v < lying.length)/\AllI kvs /\
 (over rooms lying=[]->Q (.fz (.int ((m+1:Nat):Int))) (pS C C1 C2 C3 rooms (arrL ps kvs ((m+1:Nat):Int) ps.length lying) ps (m+1) (v9 ps.length 0) (arrK kvs ((m+1:Nat):Int) ps.length))) /\
 (over rooms lying≠[]->X CT (pS C C1 C2 C3 rooms lying ps m en kvs))
section
variable {P:Program}{w:World}{K:Fg}{mg:Str->Option Value}{base:Heap}{jB jD jC jA jK:Addr}
theorem ztb:FnScope ["play", "vats"] ["play"] (zh0 zs8):=by walk_at"sc"
theorem zrf(M:Md K mg)(T:TopDef K "refuse_full" zs8)(jE:Cls K jA)(qE:zsb P w K mg base jA "full" 1 ["self"] (spT K (zt9 jA jB jD jC)))(kY:XCls K "TooFull" jK):Def1 P w K mg base "refuse_full" 2 ["play"] (spX K (zi8 jA jB jD jC jK)):=by
 refine zu71 M T ztb (by walk_at"h") (zn81 λas Qd Xd h=>by obtain⟨_,_,_,_,_,_,rfl,_⟩:=h;rfl) (zxt ?_);walk_at"g";have nd:=ztb.nd;refine⟨_,λex=>(dSeq (dAsg (dNL (zqb1 jA "full" (zt9 jA jB jD jC) (pVar 0) aNil)) (gN 1))
   (dIf (dTru (zsg 1)) (zfl jK (zic (zce (dJT 9 (dJL (dVar 1) (dJT 26 dJN)))) dNil) ex) ztz)),(zd0 (pset 1 nd (zib qE (rmn hr) (pv 0)))
   (zi0 (zf4 (zr5 (K:=K) rfl (pv 1) (λ_=>rfl)) (zi0 (zae zy8 kY rfl rfl (za0 (zub (zfb (zbe (K:=K) rfl hr (pv 1) (zfb zpq)))) zg0))) zx0))),λex=>(zpa (zvh (zi1 (RfN.z (ztq (zl0 0) zd3)) (rgn 1)))
   (zr21 (zgd (zb0 1)) (zhe (ze0 (zvb (zlb (l:=9) (by decide +kernel) (za81 (zn0 1) (zlb (l:=26) (by decide +kernel) zas)))) zs0)) (zvh zy0))),?_⟩
 rintro as Qd Xd a ⟨rooms,lying,ps,m,en,kvs,rfl,h1,h2,q1,q2⟩;unfold pS;walk_at"ds";walk_at"a";refine⟨rooms,lying,ps,m,en,kvs,rfl,h1,h2,?_⟩;walk_at"dd";walk_at"f";walk_at"dd";rw[List.isEmpty_map];by_cases z:over rooms lying=[]
 ·rw[z,if_neg (by decide)];exact q1 z
 ·rw[if_pos (by simpa using z)];have ol:=zno rooms lying;refine⟨⟨(over rooms lying).map λk:Nat=>(k:Int),by rw[wZ];rfl,by rw[u4];lia,λn hn=>?_⟩,λ_ _=>q2 z⟩;obtain⟨k,hk,rfl⟩:=wU.mp hn;have:=zm51 k hk;lia
theorem zfd:FnScope ["self", "number", "pipe"] ["self"] (zh0 zza):=by walk_at"sc"
theorem zrg(jE:Cls K jA)(T:TopMeth K jA "go_on" "Play.go_on" zza)(kW:mg "enumerate"=none)(jT:mg "len"=none)(jG:NoAttr K jA "moment")(jI:NoAttr K jA "entered")(jJ:NoAttr K jA "pipes")(jL:NoAttr K jA "lying")(jP:NoAttr K jA "coming")(qZ:Def1 P w K mg base "refuse_full" 2 ["play"] (spX K (zi8 jA jB jD jC jK))):zju P w K mg base jA "go_on" 3 ["self"] (spX K (zk9 jA jB jD jC jK)):=by
 refine zql jE T zfd (by walk_at"h") (zn81 λas Qd Xd h=>by obtain⟨_,_,_,_,_,_,rfl,_⟩:=h;rfl) (zxt ?_);walk_at"g";have nd:=zfd.nd;refine⟨_,λex=>(dSeq (zj11 (zna1 (zi8 jA jB jD jC jK) (aB (pVar 0) aNil)) ex)
   (dSeq (zns jA "moment" (λi j=>i+j) (pVar 0) (dC (.int 1)))
   (dSeq (dFld jA "entered" (cF (dRep (dLst (zic (dC (.int 0)) dNil)) (dCB fLen (zic (dPV (pFld jA "pipes" (pVar 0))) dNil)))) (pVar 0))
   (dSeq (dFor (zt81 (zic (dPE (pFld jA "pipes" (pVar 0))) dNil)) (gT 2 (zeo (gN 1) (zeo (gN 2) zw81))) (zkm (λi j=>i+j) (pFld jA "lying" (pVar 0)) (dOp fIx (zsg 2) (dC (.int 1))) (pFld jA "coming" (pVar 0)) (dTup (zic (dPE (pFld jA "moment" (pVar 0))) (zic (dVar 1) dNil))) (dC (.int 0))))
   (dRet (cE (dPE (pFld jA "moment" (pVar 0))))))))),(zd0 (zl8 (zrz qZ (rmn hr) rfl zzd (za0 (pv 0) zg0)))
   (zd0 (zjv (pv 0) zc0 zzb1)
   (zd0 (zhb (pv 0) (zu0 zt2 (zj1 (za0 zc0 zg0)) (zb1 (zw1 (K:=K) rfl) rfl jT zjc (za0 (zg1 (K:=K) rfl (pv 0) rfl) zg0))) rfl)
   (zd0 (zqh PySem.PassesOwn.leaving rfl (zex (K:=K) rfl rfl kW (za0 (zg1 (K:=K) rfl (pv 0) rfl) zg0)) (zte (K:=K) (n:=2) rfl rfl (ze2 (pgn 1 nd) (ze2 (pgn 2 nd) zwe))) (zi0 (zwq (zg1 (K:=K) rfl (pv 0) rfl) (pix w K hr (pv 2) zc0) (zsc1 (K:=K) (Room.units hr) rfl) (zde (K:=K) rfl ğd ğo PySem.F.type_dict_pop (zy61 (Room.units hr)) (zg1 (K:=K) rfl (pv 0) rfl) (za0 (zz4 (za0 (zg1 (K:=K) rfl (pv 0) rfl) (za0 (pv 1) zg0))) (za0 zc0 zg0))) zh41 (zjo (Room.units hr)))))
   (zi0 (ze1 (zg1 (K:=K) rfl (pv 0) rfl))))))),λex=>(zpa (zu61 (zx61 (at_b (zl0 0) zd3)))
   (zpa (zvh (zot (fn:=(λi j=>i+j)) jE jG (zl0 0) zr0))
   (zpa (zvh (znb jE jI (RfF.c (zp71 (zo6 (ze0 zr0 zs0)) (zth zqn (zz0 (RfP.v (zu1 jE jJ (zl0 0))) zs1)))) (zl0 0)))
   (zpa (zvh (zqg (zs21 (ze0 (RfP.e (zu1 jE jJ (zl0 0))) zs0)) (zpn (zc3 (rgn 1) (zc3 (rgn 2) zwf))) (zku (zu1 jE jL (zl0 0)) (zk0 r_ix (zb0 2) rvi) (zu1 jE jP (zl0 0)) (zrc (ze0 (RfP.e (zu1 jE jG (zl0 0))) (ze0 (zn0 1) zs0))) zr0)))
   (zvh (zf1 (RfE.c (RfP.e (zu1 jE jG (zl0 0)))))))))),?_⟩
 rintro as Qd Xd a ⟨rooms,lying,ps,m,en,kvs,rfl,h1,h2,h24,hv,hi,q,qx⟩;unfold pS at q qx ⊢;walk_at"ds";walk_at"a";refine⟨rooms,lying,ps,m,en,kvs,rfl,h1,h2,λz=>?_,λz=>⟨_,rfl,qx z⟩⟩;have q:=q z;clear qx;walk_at"b";walk_at"b";rw[u4,wH,uaK];refine⟨by lia,by lia,by lia,hJ _ ?_⟩;clear hJ;have et:(m:Int)+1=((m+1:Nat):Int):=by lia
 rw[et];generalize hT:((m+1:Nat):Int)=t at q ⊢;walk_at"a";rw[zym];refine zkb (λi U=>∃(s1 s2:Sl),U=[.io a (.ob jA [("rooms",.li (rooms.map .int)),("lying",.li ((arrL ps kvs t i lying).map .int)),("pipes",.fz (.list (ps.map Pi.d))),("gates",.ls (ps.map λp=>p.g.ob jB jD jC)),("moment",.fz (.int t)),("entered",.li (v9 ps.length (.int 0))),("coming",.dt (arrK kvs t i))]),s1,s2]) ⟨_,_,rfl⟩ ?_ ?_
 ·rintro i x U hx ⟨s1,s2,rfl⟩;obtain⟨i',p⟩:=x;rw[zE]at hx;obtain⟨p',hp,e⟩:=wX.mp hx;cases e;have hl:p.v < (arrL ps kvs t i lying).length:=by rw[zmh];exact hv p (wT hp)
  have en1:arrL ps kvs t (i+1) lying=inc (arrL ps kvs t i lying) p.v (cm kvs t i):=by
   show inc _ _ _=_;rw[hp];rfl
  have ek1:arrK kvs t (i+1)=zgb (arrK kvs t i) (kTI t i):=rfl;rw[en1,ek1];have ec:=ze31 (zzl hi t i) t i;rw[zb81]at ec;generalize arrL ps kvs t i lying=L at hl ⊢;generalize arrK kvs t i=M at ec ⊢;generalize hpd:ps.map Pi.d=PD;unfold Pi.d;refine⟨rfl,zsu (z:=(p.v:Int)) (y:=L.getD p.v 0) (c:=cm kvs t i) (yd:=.tuple [.int t,.int (i:Int)]) (zd:=.int 0) (key:=kTI t i) (j:=p.v) (ds:=L.map .int) (kvs:=M) rfl rfl rfl (by decide +kernel) (λQ hq=>?_) (λQ hq=>?_) (λQ hq=>hq) (by lia) ?_ (zjh (by rw[u4];exact hl)) rfl ec ?_⟩
  ·walk_at"dd";exact⟨_,rfl,hq⟩
  ·walk_at"dd";exact hq
  ·rw[wH,wD,v7,u8 hl];rfl
  ·refine⟨.sh (.int (i:Int)),.sh (.tuple [.int (p.u:Int),.int (p.v:Int),.int (p.len:Int),.int p.pr,p.g.d]),?_⟩;unfold inc;rw[yR];rfl
 ·rintro U ⟨s1,s2,rfl⟩;rw[uaJ];walk_at"f";walk_at"dd";rw[uaL]at q;exact⟨_,rfl,q⟩
end
noncomputable def pl(ps:List Pi)(i:Nat):Nat:=((ps[i]?).map Pi.len).getD 0
noncomputable def zt1(ps:List Pi)(i:Nat):Nat:=((ps[i]?).map Pi.u).getD 0
noncomputable def zzb(ps:List Pi)(i t:Nat):Int:=((ps[i]?).map λp=>p.g.at t).getD 0
noncomputable def dueF(n:Nat)(k am l h:Int):Nat:=if k < 0 \/ (n:Int)<=k then 0 else if am < 1 then 1 else if l < am then 2 else if h < am then 3 else 4
noncomputable def zui(ps:List Pi)(m:Nat)(ly en:List Int)(k am:Int):Nat:=dueF ps.length k am (zzb ps k.toNat m - en.getD k.toNat 0) (ly.getD (zt1 ps k.toNat) 0)
noncomputable def letT(C C1 C2 C3:Addr)(rooms lying:List Int)(ps:List Pi)(m:Nat)(en:List Int)(kvs:List (List Key×D))(j:Nat)(am:Int):_4.T :=
 pS C C1 C2 C3 rooms (lying.set (zt1 ps j) (lying.getD (zt1 ps j) 0 - am)) ps m (en.set j (en.getD j 0+am)) (putD kvs (kTI ((m:Int)+(pl ps j:Int)) j) (.int (cm kvs ((m:Int)+(pl ps j:Int)) j+am)))
noncomputable def zu6(C C1 C2 C3 C0:Addr):DSpX:=λas Q X=>∃(rooms lying:List Int)(ps:List Pi)(m:Nat)(en:List Int)(kvs:List (List Key×D))(k:Int),as=[.b (pS C C1 C2 C3 rooms lying ps m en kvs),.d (.int k)]/\en.length=ps.length/\(∀p∈ps,p.g.ok)/\ps.length<=24/\-10000000000000000000000000000000000000000 < k/\k < 10000000000000000000000000000000000000000 /\
 (k < 0 \/ (ps.length:Int)<=k->X C0 (.fz .none))/\(0<=k->k < (ps.length:Int)->Q (.fz (.int (zzb ps k.toNat m - en.getD k.toNat 0))) (.fz .none))
noncomputable def zmc(C C1 C2 C3 C0 CA CW CL:Addr):DSpX:=λas Q X=>∃(rooms lying:List Int)(ps:List Pi)(m:Nat)(en:List Int)(kvs:List (List Key×D))(k am:Int),as=[.o (pS C C1 C2 C3 rooms lying ps m en kvs),.d (.int k),.d (.int am)]/\en.length=ps.length/\(∀p∈ps,p.g.ok/\p.u < lying.length)/\ps.length<=24/\kvs.length<=1000000/\AllI kvs/\-10000000000000000000000000000000000000000 < k/\k < 10000000000000000000000000000000000000000/\-10000000000000000000000000000000000000000 < am/\am < 10000000000000000000000000000000000000000/\(∀j,j < ps.length->-10000000000000000000000000000000000000000 < zzb ps j m - en.getD j 0/\zzb ps j m - en.getD j 0 < 10000000000000000000000000000000000000000) /\
 (zui ps m lying en k am=0->X C0 (pS C C1 C2 C3 rooms lying ps m en kvs))/\(zui ps m lying en k am=1->X CA (pS C C1 C2 C3 rooms lying ps m en kvs))/\(zui ps m lying en k am=2->X CW (pS C C1 C2 C3 rooms lying ps m en kvs))/\(zui ps m lying en k am=3->X CL (pS C C1 C2 C3 rooms lying ps m en kvs)) /\
 (zui ps m lying en k am=4->Q (.fz (.int (lying.getD (zt1 ps k.toNat) 0 - am))) (letT C C1 C2 C3 rooms lying ps m en kvs k.toNat am))
section
variable {P:Program}{w:World}{K:Fg}{mg:Str->Option Value}{base:Heap}{jB jD jC jA jO jM jQ jH:Addr}
theorem zaf(jE:Cls K jA)(T:TopMeth K jA "room_in" "Play.room_in" zo4)(jT:mg "len"=none)(qD:Cls K jD)(kT:Cls K jB)(kN:Cls K jC)(jG:NoAttr K jA "moment")(jI:NoAttr K jA "entered")(jJ:NoAttr K jA "pipes")(jS:NoAttr K jA "gates")(jW:zsb P w K mg base jB "width_at" 1 ["self", "moment"] (spT K (zk1 jB)))(kI:zsb P w K mg base jD "width_at" 1 ["self", "moment"] (spT K (zp1 jD)))(kG:zsb P w K mg base jC "width_at" 1 ["self", "moment"] (spT K (zl1 jC)))(qF:XCls K "NoPipe" jO):zju P w K mg base jA "room_in" 2 ["self", "pipe"] (spX K (zu6 jA jB jD jC jO)):=by
 refine zql jE T zp3 (by walk_at"h") (zn81 λas Qd Xd h=>by obtain⟨_,_,_,_,_,_,_,rfl,_⟩:=h;rfl) (zxt ?_);walk_at"g";have nd:=zp3.nd;refine⟨_,λex=>(dSeq (dIf (dNot (zuz (zxy fLe fLt (dC (.int 0)) (dVar 1) (dCB fLen (zic (dPV (pFld jA "pipes" (pVar 0))) dNil))))) (zfl jO (zic (zce (dJT 17 (dJI (dVar 1) dJN))) dNil) ex) ztz)
   (dRet (cE (dOp fSub (eN (zi01 "width_at" [(jB,(zk1 jB)),(jD,(zp1 jD)),(jC,(zl1 jC))] (pIx (pFld jA "gates" (pVar 0)) (dVar 1)) (zic (dPE (pFld jA "moment" (pVar 0))) dNil))) (dOp fIx (dPV (pFld jA "entered" (pVar 0))) (zsg 1)))))),(zd0 (zf4 (zka (zvg zpb1 zyt zc0 (pv 1) (zb1 (zw1 (K:=K) rfl) rfl jT zjc (za0 (zg1 (K:=K) rfl (pv 0) rfl) zg0)))) (zi0 (zae zy8 qF rfl rfl (za0 (zub (zfb (zbe (K:=K) rfl hr (pv 1) zpq))) zg0))) zx0)
   (zi0 (ze1 (zu0 zel (zgo (P:=P) (w:=w) (K:=K) (mg:=mg) (base:=base) (k:=1) rfl rfl rfl rfl rfl (rmn hr) (pix w K hr (zg1 (K:=K) rfl (pv 0) rfl) (pv 1)) (za0 (zg1 (K:=K) rfl (pv 0) rfl) zg0)) (pix w K hr (zg1 (K:=K) rfl (pv 0) rfl) (pv 1)))))),λex=>(zpa (zr21 (zoc (zt0 (zkk r_le r_lt zr0 (zn0 1) (zth zqn (zz0 (RfP.v (zu1 jE jJ (zl0 0))) zs1))))) (zhe (ze0 (zvb (zlb (l:=17) (by decide +kernel) (zjn (zn0 1) zas))) zs0)) (zvh zy0))
   (zvh (zf1 (RfE.c (zk0 znz (RfE.v (RfN.ex (zrr (tab:=[(jB,(zk1 jB)),(jD,(zp1 jD)),(jC,(zl1 jC))]) (tab3 ⟨_,jW⟩ ⟨_,kI⟩ ⟨_,kG⟩) (za7 (zu1 jE jS (zl0 0)) (zn0 1)) (ze0 (RfP.e (zu1 jE jG (zl0 0))) zs0)))) (RfE.v (zk0 r_ix (RfP.v (zu1 jE jI (zl0 0))) (zb0 1)))))))),?_⟩
 rintro as Qd Xd a ⟨rooms,lying,ps,m,en,kvs,k,rfl,el,hok,hl,k0,k1,qx,q⟩;unfold pS;walk_at"ds";walk_at"a";rw[u4];refine two (λz1=>two (λz2=>?_) λz2=>hJ _ ?_) λz1=>?_
 ·exact⟨⟨k0,k1⟩,λ_ _=>qx (.inr (by lia))⟩
 ·clear hJ;obtain⟨j,rfl⟩:=xX z1;have lk:j < ps.length:=by lia
  have q:=q (by lia) (by lia);rw[wH]at q;obtain⟨p,hk⟩:∃p,ps[j]?=some p:=⟨_,u8 lk⟩
  have ew:zzb ps j m=p.g.at m:=by unfold zzb;rw[hk];rfl
  rw[ew]at q;have ok:=hok p (wT hk);walk_at"dd";refine⟨j,_,zjh (by rw[u4];exact lk),by rw[wD,hk];rfl,?_⟩;have ge:atI (en.map wK) ((j:Nat):Int)=some (.int (en.getD j 0)):=zjf (by lia) (by rw[wH,wD,v7,u8 (by lia)];rfl);obtain⟨u,v,ln,pr,g⟩:=p;have fin:∀x:Int,x=g.at m->∃d,atI (en.map wK) ((j:Nat):Int)=some d/\fSub (.int x) d λd=>Qd (.fz d) (.fz .none):=λx hx=>⟨_,ge,by rw[hx];exact q⟩
  cases g with
 |st x =>
   unfold Gt.ob;walk_at"dd";exact⟨_,wJ,x,m,rfl,fin _ rfl⟩
 |la x f =>
   unfold Gt.ob;walk_at"dd";exact⟨_,v8 _ wJ,x,f,m,rfl,fin _ rfl⟩
 |ti x y t =>
   unfold Gt.ob;walk_at"dd";exact⟨_,v8 _ (v8 _ wJ),x,y,t,m,rfl,ok.1,ok.2,fin _ rfl⟩
 ·exact⟨⟨k0,k1⟩,λ_ _=>qx (.inl (by lia))⟩
theorem zlg:FnScope ["self", "pipe", "amount", "left", "start", "place"] ["self", "pipe", "amount"] (zh0 zoe):=by walk_at"sc"
theorem zrj(jE:Cls K jA)(T:TopMeth K jA "let" "Play.let" zoe)(jI:NoAttr K jA "entered")(jL:NoAttr K jA "lying")(jP:NoAttr K jA "coming")(jJ:NoAttr K jA "pipes")(jG:NoAttr K jA "moment")(qT:zju P w K mg base jA "room_in" 2 ["self", "pipe"] (spX K (zu6 jA jB jD jC jO)))(kX:XCls K "NoAmount" jM)(kZ:XCls K "TooWide" jQ)(kQ:XCls K "TooLittle" jH):zju P w K mg base jA "let" 3 ["self", "pipe", "amount"] (spX K (zmc jA jB jD jC jO jM jQ jH)):=by
 refine zql jE T zlg (by walk_at"h") (zn81 λas Qd Xd h=>by obtain⟨_,_,_,_,_,_,_,_,rfl,_⟩:=h;rfl) (zxt ?_);walk_at"g";have nd:=zlg.nd;refine⟨_,λex=>(dSeq (zp61 3 (zd51 false jA "room_in" (zu6 jA jB jD jC jO) (pVar 0) (aD (dVar 1) aNil)) ex)
   (dSeq (dIf (zuz (dOp fLt (zsg 2) (dC (.int 1)))) (zfl jM (zic (zce (dJI (dVar 2) (dJT 25 dJN))) dNil) ex) ztz)
   (dSeq (dIf (zuz (dOp fGt (zsg 2) (zsg 3))) (zfl jQ (zic (zce (dJT 9 (dJI (dVar 1) (dJT 14 (dJI (dVar 3) (dJT 5 dJN)))))) dNil) ex) ztz)
   (dSeq (dAsg (dOp fIx (dOp fIx (dPV (pFld jA "pipes" (pVar 0))) (zsg 1)) (dC (.int 0))) (gN 4))
   (dSeq (dIf (zuz (dOp fGt (zsg 2) (dOp fIx (dPV (pFld jA "lying" (pVar 0))) (zsg 4)))) (zfl jH (zic (zce (dJT 18 (dJI (dVar 1) (dJT 14 (dJI (dVar 2) dJN))))) dNil) ex) ztz)
   (dSeq (zd91 (λi j=>i+j) (pFld jA "entered" (pVar 0)) (dVar 1) (dVar 2))
   (dSeq (zd91 (λi j=>i - j) (pFld jA "lying" (pVar 0)) (dVar 4) (dVar 2))
   (dSeq (dAsg (dTup (zic (dOp fAdd (dPV (pFld jA "moment" (pVar 0))) (dOp fIx (dOp fIx (dPV (pFld jA "pipes" (pVar 0))) (zsg 1)) (dC (.int 2)))) (zic (dVar 1) dNil))) (gN 5))
   (dSeq (dPut (pFld jA "coming" (pVar 0)) (dVar 5) (dOp fAdd (zsa1 (pFld jA "coming" (pVar 0)) (dVar 5) (dC (.int 0))) (zsg 2)))
   (dRet (cE (dOp fIx (dPV (pFld jA "lying" (pVar 0))) (zsg 4))))))))))))),(zd0 (pset 3 nd (zkr (k:=2) rfl rfl rfl rfl rfl (rmn hr) zzd (pv 0) (za0 (pv 1) zg0)))
   (zd0 (zf4 (zv0 zyt (pv 2) zc0 (zd1 _)) (zi0 (zae zy8 kX rfl rfl (za0 (zub (zbe (K:=K) rfl hr (pv 2) (zfb zpq))) zg0))) zx0)
   (zd0 (zf4 (zv0 zp21 (pv 2) (pv 3) (zd1 _)) (zi0 (zae zy8 kZ rfl rfl (za0 (zub (zfb (zbe (K:=K) rfl hr (pv 1) (zfb (zbe (K:=K) rfl hr (pv 3) (zfb zpq)))))) zg0))) zx0)
   (zd0 (pset 4 nd (pix w K hr (pix w K hr (zg1 (K:=K) rfl (pv 0) rfl) (pv 1)) zc0))
   (zd0 (zf4 (zv0 zp21 (pv 2) (pix w K hr (zg1 (K:=K) rfl (pv 0) rfl) (pv 4)) (zd1 _)) (zi0 (zae zy8 kQ rfl rfl (za0 (zub (zfb (zbe (K:=K) rfl hr (pv 1) (zfb (zbe (K:=K) rfl hr (pv 2) zpq))))) zg0))) zx0)
   (zd0 (zwq (zg1 (K:=K) rfl (pv 0) rfl) (pv 1) (zsc1 (K:=K) (Room.units hr) rfl) (pv 2) zh41 (zjo (Room.units hr)))
   (zd0 (zwq (zg1 (K:=K) rfl (pv 0) rfl) (pv 4) (zsc1 (K:=K) (Room.units hr) rfl) (pv 2) znc1 (zjo (Room.units hr)))
   (zd0 (pset 5 nd (zz4 (za0 (zu0 (za1 (K:=K) rfl) (zg1 (K:=K) rfl (pv 0) rfl) (pix w K hr (pix w K hr (zg1 (K:=K) rfl (pv 0) rfl) (pv 1)) zc0)) (za0 (pv 1) zg0))))
   (zd0 (zxh (zu0 (za1 (K:=K) rfl) (zde (K:=K) rfl ğd ğg PySem.F.type_dict_get (zu41 (Room.units hr)) (zg1 (K:=K) rfl (pv 0) rfl) (za0 (pv 5) (za0 zc0 zg0))) (pv 2)) (zei (zg1 (K:=K) rfl (pv 0) rfl) (pv 5) (zjo (Room.units hr))))
   (zi0 (ze1 (pix w K hr (zg1 (K:=K) rfl (pv 0) rfl) (pv 4))))))))))))),λex=>(zpa (zqy (i:=3) (zjq false qT (zl0 0) (at_d (zn0 1) zd3)))
   (zpa (zr21 (zt0 (zk0 r_lt (zb0 2) rvi)) (zhe (ze0 (zvb (zjn (zn0 2) (zlb (l:=25) (by decide +kernel) zas))) zs0)) (zvh zy0))
   (zpa (zr21 (zt0 (zk0 r_gt (zb0 2) (zb0 3))) (zhe (ze0 (zvb (zlb (l:=9) (by decide +kernel) (zjn (zn0 1) (zlb (l:=14) (by decide +kernel) (zjn (zn0 3) (zlb (l:=5) (by decide +kernel) zas)))))) zs0)) (zvh zy0))
   (zpa (zvh (zi1 (zk0 r_ix (RfE.v (zk0 r_ix (RfP.v (zu1 jE jJ (zl0 0))) (zb0 1))) rvi) (rgn 4)))
   (zpa (zr21 (zt0 (zk0 r_gt (zb0 2) (RfE.v (zk0 r_ix (RfP.v (zu1 jE jL (zl0 0))) (zb0 4))))) (zhe (ze0 (zvb (zlb (l:=18) (by decide +kernel) (zjn (zn0 1) (zlb (l:=14) (by decide +kernel) (zjn (zn0 2) zas))))) zs0)) (zvh zy0))
   (zpa (zvh (zqv (zu1 jE jI (zl0 0)) (zn0 1) (zn0 2)))
   (zpa (zvh (zqv (zu1 jE jL (zl0 0)) (zn0 4) (zn0 2)))
   (zpa (zvh (zi1 (zrc (ze0 (zk0 zf6 (RfP.v (zu1 jE jG (zl0 0))) (RfE.v (zk0 r_ix (RfE.v (zk0 r_ix (RfP.v (zu1 jE jJ (zl0 0))) (zb0 1))) rvi))) (ze0 (zn0 1) zs0))) (rgn 5)))
   (zpa (zvh (zru (zk0 zf6 (RfE.v (zu31 (zu1 jE jP (zl0 0)) (zn0 5) zr0)) (zb0 2)) (zu1 jE jP (zl0 0)) (zn0 5)))
   (zvh (zf1 (RfE.c (zk0 r_ix (RfP.v (zu1 jE jL (zl0 0))) (zb0 4)))))))))))))),?_⟩
 rintro as Qd Xd a ⟨rooms,lying,ps,m,en,kvs,k,am,rfl,el,hok,hl,hkv,hai,k0,k1,a0,a1,hw,q0,q1,q2,q3,q⟩;unfold letT pS at q;unfold pS at q0 q1 q2 q3 ⊢;walk_at"ds";walk_at"a";refine⟨rooms,lying,ps,m,en,kvs,k,rfl,el,λp hp=>(hok p hp).1,hl,k0,k1,λz=>⟨_,rfl,q0 (if_pos z)⟩,λz1 z2=>hJ _ ?_⟩;clear hJ;obtain⟨j,rfl⟩:=xX z1;have lk:j < ps.length:=by lia
 have ec:zui ps m lying en (j:Int) am=if am < 1 then 1 else if zzb ps j m - en.getD j 0 < am then 2 else if lying.getD (zt1 ps j) 0 < am then 3 else 4:=by
  unfold zui dueF;rw[if_neg (by lia),wH]
 rw[ec]at q1 q2 q3 q;rw[wH]at q ⊢;obtain⟨p,hk⟩:∃p,ps[j]?=some p:=⟨_,u8 lk⟩
 obtain⟨ok,hu⟩:=hok p (wT hk);have es:zt1 ps j=p.u:=by unfold zt1;rw[hk];rfl
 have epl:pl ps j=p.len:=by unfold pl;rw[hk];rfl
 obtain⟨w0,w1⟩:=hw j lk;rw[es]at q3 q;rw[epl]at q;generalize zzb ps j m - en.getD j 0=left at q1 q2 q3 q w0 w1 ⊢;have he:en[j]?=some (en.getD j 0):=by rw[v7,u8 (by lia)];rfl
 have hy:lying[p.u]?=some (lying.getD p.u 0):=by rw[v7,u8 hu];rfl
 have hc:=ze31 hai ((m:Int)+(p.len:Int)) j;generalize en.getD j 0=e at he q;generalize lying.getD p.u 0=y at hy q3 q;generalize cm kvs ((m:Int)+(p.len:Int)) j=c0 at hc q;walk_at"a";refine two (λz=>⟨⟨a0,a1⟩,λ_ _=>⟨_,rfl,q1 (if_pos z)⟩⟩) λz3=>hJ _ ?_;walk_at"c";refine two (λz=>⟨⟨k0,k1⟩,⟨w0,w1⟩,λ_ _=>⟨_,rfl,q2 (by rw[if_neg z3,if_pos z])⟩⟩) λz4=>hJ _ ?_;clear hJ;have gp:atI (ps.map Pi.d) ((j:Nat):Int)=some (.tuple [.int (p.u:Int),.int (p.v:Int),.int (p.len:Int),.int p.pr,p.g.d]):=zjf (by lia) (by rw[wH,wD,hk];rfl);have gy:atI (lying.map wK) ((p.u:Nat):Int)=some (.int y):=zjf (by lia) (by rw[wH,wD,hy];rfl);walk_at"a";refine⟨_,gp,?_⟩;walk_at"dd";refine⟨_,rfl,hJ _ ?_⟩;walk_at"c";refine⟨_,gy,?_⟩;walk_at"dd";refine two (λz=>⟨⟨k0,k1⟩,⟨a0,a1⟩,λ_ _=>⟨_,rfl,q3 (by rw[if_neg z3,if_neg z4,if_pos z])⟩⟩) λz5=>hJ _ ?_;clear hJ;have q:=q (by rw[if_neg z3,if_neg z4,if_neg z5]);walk_at"a";refine⟨by lia,_,by rw[wH,wD,he];rfl,?_⟩;walk_at"dd";refine⟨j,zjh (by rw[u4];lia),hJ _ ?_⟩;walk_at"c";refine⟨by lia,_,by rw[wH,wD,hy];rfl,?_⟩;walk_at"dd";refine⟨p.u,zjh (by rw[u4];exact hu),hJ _ ?_⟩;walk_at"c";refine⟨_,gp,?_⟩;walk_at"dd";refine⟨_,rfl,hJ _ ?_⟩;walk_at"c";refine⟨[.inl ((m:Int)+(p.len:Int)),.inl (j:Int)],rfl,?_⟩;unfold kTI at hc q;rw[hc];walk_at"dd";refine⟨[.inl ((m:Int)+(p.len:Int)),.inl (j:Int)],rfl,by lia,hJ _ ?_⟩;clear hJ;walk_at"dd";rw[yR,yR]at q;refine⟨_,zjf (by lia) (by rw[wH,xI (by rw[u4];exact hu)]),_,rfl,q⟩
end
structure Le where
 t:Nat
 at_:Nat
 am:Int
noncomputable def Le.d(l:Le):D:=.tuple [.int (l.t:Int),.int (l.at_:Int),.int l.am]
noncomputable def sL(L:List Le)(f:Le->Int):Int:=(L.map f).sum
theorem zgn(f:Le->Int):sL [] f=0:=rfl
theorem zs2(l:Le)(L:List Le)(f:Le->Int):sL (l :: L) f=f l+sL L f:=by unfold sL;simp
theorem zt21(L M:List Le)(f:Le->Int):sL (L++M) f=sL L f+sL M f:=by unfold sL;simp
theorem ztw{h:List Int}{v:Nat}(hv:v < h.length)(c:Int)(x:Nat):(inc h v c).getD x 0=h.getD x 0+if v=x then c else 0:=by
 unfold inc;rw[v7,xL];by_cases e:v=x
 ·subst e;rw[if_pos rfl,if_pos hv,if_pos rfl];rfl
 ·rw[if_neg e,if_neg e,<- v7];lia
noncomputable def zpf(c:Le->Prop)[DecidablePred c](g:Le->Nat):List Le->List Int->List Int
|[],h=>h
|l :: r,h=>zpf c g r (if c l then inc h (g l) l.am else h)
theorem zmb(c:Le->Prop)[DecidablePred c](g:Le->Nat):∀(L:List Le)(h:List Int),(zpf c g L h).length=h.length
|[],_=>rfl
|l :: r,h=>by
  show(zpf c g r _).length=_;rw[zmb c g r];split
  ·exact zfm _ _ _
  ·rfl
theorem zcg(c:Le->Prop)[DecidablePred c](g:Le->Nat):∀(L:List Le)(l:Le)(h:List Int),zpf c g (L++[l]) h=if c l then inc (zpf c g L h) (g l) l.am else zpf c g L h
|[],_,_=>rfl
|_ :: r,l,h=>zcg c g r l _
theorem zgf(c:Le->Prop)[DecidablePred c](g:Le->Nat):∀(L:List Le)(h:List Int),(∀l∈L,g l < h.length)->∀x,(zpf c g L h).getD x 0=h.getD x 0+sL L λl=>if c l/\g l=x then l.am else 0
|[],h,_,x=>by show h.getD x 0=_;rw[zgn];lia
|l :: r,h,hg,x=>by
  show(zpf c g r _).getD x 0=_;have hl:=hg l wJ;rw[zs2];by_cases e:c l
  ·rw[if_pos e,zgf c g r _ (λl' hl'=>by rw[zfm];exact hg l' (v8 _ hl')) x,ztw hl];by_cases z:g l=x
   ·rw[if_pos z,if_pos ⟨e,z⟩];lia
   ·rw[if_neg z,if_neg (λy=>z y.2)];lia
  ·rw[if_neg e,zgf c g r _ (λl' hl'=>hg l' (v8 _ hl')) x,if_neg (λy=>e y.1)];lia
noncomputable def zag(ps:List Pi)(i:Nat):Nat:=(ps[i]?).map Pi.v |>.getD 0
theorem zro{ps:List Pi}{kvs:List (List Key×D)}{t:Int}{l:List Int}(hv:∀i,i < ps.length->zag ps i < l.length)(x:Nat):∀n,n<=ps.length->(arrL ps kvs t n l).getD x 0=l.getD x 0+sm n λi=>if zag ps i=x then cm kvs t i else 0
|0,_=>by show l.getD x 0=l.getD x 0+0;lia
|n+1,h=>by
  show(inc (arrL ps kvs t n l) (zag ps n) (cm kvs t n)).getD x 0=_;rw[ztw (by rw[zmh];exact hv n (by lia)),zro hv x n (by lia),zig];lia
theorem dbl{ps:List Pi}{c:Le->Prop}[DecidablePred c]{n x:Nat}:∀{L:List Le},(∀l∈L,l.at_ < n)->sm n (λi=>if zag ps i=x then sL L (λl=>if l.at_=i/\c l then l.am else 0)else 0)=sL L λl=>if c l/\zag ps l.at_=x then l.am else 0
|[],_=>by
  rw[zgn,zya (h:=λ_=>0) λk _=>by rw[zgn];split <;> rfl];exact zem n
|l :: r,h=>by
  have ih:=dbl (ps:=ps) (c:=c) (n:=n) (x:=x) (L:=r) λl' hl'=>h l' (v8 _ hl');have hl:=h l wJ;rw[zs2,<- ih,<- zp31 (j:=l.at_) (if c l/\zag ps l.at_=x then l.am else 0) hl,<- zlz];refine zya λk _=>?_;rw[zs2];by_cases e:zag ps k=x
  ·rw[if_pos e,if_pos e];by_cases z:k=l.at_
   ·subst z;by_cases y:c l
    ·rw[if_pos ⟨rfl,y⟩,if_pos rfl,if_pos ⟨y,e⟩]
    ·rw[if_neg (λq=>y q.2),if_pos rfl,if_neg (λq=>y q.1)]
   ·rw[if_neg (λq=>z q.1.symm),if_neg z]
  ·rw[if_neg e,if_neg e];by_cases z:k=l.at_
   ·subst z;rw[if_pos rfl,if_neg (λq=>e q.2)];lia
   ·rw[if_neg z];lia
theorem ztp{a b:List Int}(hl:a.length=b.length)(h:∀x,a.getD x 0=b.getD x 0):a=b:=by
 refine yY hl λi h1 h2=>?_;have:=h i;rw[v7,v7,u8 h1,u8 h2]at this;exact this
noncomputable def cmS(ps:List Pi)(L:List Le)(t i:Nat):Int:=sL L λl=>if l.at_=i/\l.t+pl ps l.at_=t then l.am else 0
theorem zsv{L:List Le}{f:Le->Int}(h:∀l∈L,f l=0):sL L f=0:=by
 induction L with
|nil=>rfl
|cons a r ih=>rw[zs2,h a wJ,ih λl hl=>h l (v8 _ hl)];rfl
theorem zx5(h:List Int)(v:Nat)(c:Int)(hv:v < h.length)(x:Nat):(h.set v c).getD x 0=if v=x then c else h.getD x 0:=by
 rw[v7,xL];by_cases e:v=x
 ·subst e;rw[if_pos rfl,if_pos hv,if_pos rfl];rfl
 ·rw[if_neg e,if_neg e,<- v7]
theorem zuo{ps:List Pi}(h:∀p∈ps,p.v < m)(hi:i < ps.length):zag ps i < m:=by
 unfold zag;rw[u8 hi];exact h _ (zI _)
theorem zaf1{L:List Le}{f:Le->Int}(h:∀l∈L,0<=f l):0<=sL L f:=by
 induction L with
|nil=>exact yZ _
|cons a r ih =>
  have h1:=h a wJ;have h2:=ih λl hl=>h l (v8 _ hl);rw[zs2];lia
theorem zv01(kvs:List (List Key×D))(k:List Key)(d:D):(putD kvs k d).map (·.1)=kvs.map (·.1) \/ k ∉ kvs.map (·.1)/\(putD kvs k d).map (·.1)=kvs.map (·.1)++[k]:=by
 unfold putD;by_cases h:(kvs.any λkv=>decide (kv.1=k))=true
 ·left
  rw[if_pos h,wZ];refine yP λkv _=>?_;show(if kv.1=k then(kv.1,d)else kv).1=kv.1;split <;> rfl
 ·right
  rw[if_neg h,yF];refine⟨λz=>h ?_,rfl⟩;obtain⟨kv,h1,h2⟩:=wU.mp z;exact List.any_eq_true.mpr ⟨kv,h1,by simpa using h2⟩
theorem ziu{kvs:List (List Key×D)}(h:(kvs.map (·.1)).Nodup)(k:List Key)(d:D):((putD kvs k d).map (·.1)).Nodup:=by
 rcases zv01 kvs k d with e|⟨hk,e⟩
 ·rw[e];exact h
 ·rw[e];refine wL.mpr ⟨h,by simp,λa ha b hb=>?_⟩;simp at hb;subst hb;rintro rfl;exact hk ha
theorem zp11{κ:Type}[DecidableEq κ]{kvs:List (κ×D)}{k:κ}{d:D}(h:getA kvs k=some d):(k,d)∈kvs:=by
 unfold getA at h;obtain⟨kv,h1,h2⟩:=wX.mp h;have h3:=List.find?_some h1;have h4:=List.mem_of_find?_eq_some h1;obtain⟨a,b⟩:=kv;simp at h3 h2;subst h3 h2;exact h4
theorem zcn{κ:Type}[DecidableEq κ]:∀{kvs:List (κ×D)}{k:κ}{d:D},(kvs.map (·.1)).Nodup->(k,d)∈kvs->getA kvs k=some d
|(a,b) :: r,k,d,n,h=>by
  rw[zh3];simp only[wM,wG]at n;rcases v6.mp h with h|h
  ·cases h;rw[if_pos rfl]
  ·have:a≠k:=λz=>n.1 (wU.mpr ⟨(k,d),h,z.symm⟩);rw[if_neg this];exact zcn n.2 h
noncomputable def rowL(l:Le):List Int:=[(l.t:Int),(l.at_:Int),l.am]
noncomputable def kRow(kv:List Key×D):List Int:=match kv with
|([.inl a,.inl b],.int c)=>[a,b,c]
|_=>[0]
theorem zvq:∀{a b:List (List Int)},a.Perm b->a.Pairwise (λx y=>lexB y x=false)->b.Pairwise (λx y=>lexB y x=false)->a=b
|[],_,p,_,_=>p.nil_eq
|x :: r,[],p,_,_=>by simp at p
|x :: r,y :: t,p,ha,hb=>by
  have hx:x∈y :: t:=p.mem_iff.mp wJ;have hy:y∈x :: r:=p.mem_iff.mpr wJ;have e:x=y:=by
   rcases v6.mp hx with h|h
   ·exact h
   ·rcases v6.mp hy with h'|h'
    ·exact h'.symm
    ·exact zum ((y0.mp hb).1 x h) ((y0.mp ha).1 y h')
  subst e;rw[zvq (List.Perm.cons_inv p) (y0.mp ha).2 (y0.mp hb).2]
noncomputable def zcj(C C1 C2 C3:Addr):DSpT:=λas Q=>∃(rooms lying:List Int)(ps:List Pi)(m:Nat)(en:List Int)(kvs:List (List Key×D)),as=[.b (pS C C1 C2 C3 rooms lying ps m en kvs)]/\Q (.fz (.int (m:Int))) (.fz .none)
noncomputable def zj9(C C1 C2 C3:Addr):DSpT:=λas Q=>∃(rooms lying:List Int)(ps:List Pi)(m:Nat)(en:List Int)(kvs:List (List Key×D)),as=[.b (pS C C1 C2 C3 rooms lying ps m en kvs)]/\kvs.length < 64/\(∀kv∈kvs,kv.1.length=2)/\plD kvs=(kvs.map kRow).map rowD /\
 ∀W:List (List Int),W.Perm (kvs.map kRow)->W.Pairwise (λa b=>lexB b a=false)->Q (.li (W.map rowD)) (.fz .none)
theorem zb51(kv:List Key×D):kRow kv≠[]:=by
 unfold kRow;split <;> simp
section
variable {P:Program}{w:World}{K:Fg}{mg:Str->Option Value}{base:Heap}{jB jD jC jA:Addr}
theorem zmg:FnScope ["self"] ["self"] (zh0 zne):=by walk_at"sc"
theorem zin(jE:Cls K jA)(T:TopMeth K jA "now" "Play.now" zne)(jG:NoAttr K jA "moment"):zsb P w K mg base jA "now" 1 ["self"] (spT K (zcj jA jB jD jC)):=by
 refine zcd jE T zmg (by walk_at"h") (zof λas Qd h=>by obtain⟨_,_,_,_,_,_,rfl,_⟩:=h;rfl) (zj6 ?_);walk_at"g";have nd:=zmg.nd;refine⟨_,_,(zi0 (ze1 (zg1 (K:=K) rfl (pv 0) rfl))),(zf1 (RfE.c (RfP.e (zu1 jE jG (zl0 0))))),?_⟩;rintro as Qd a ⟨rooms,lying,ps,m,en,kvs,rfl,q⟩;unfold pS;walk_at"ds";walk_at"dd";exact q
theorem zr8:FnScope ["self"] ["self"] (zh0 zn2):=by walk_at"sc"
theorem zid(jE:Cls K jA)(T:TopMeth K jA "under_way" "Play.under_way" zn2)(qR:mg "sorted"=none)(jP:NoAttr K jA "coming"):zsb P w K mg base jA "under_way" 1 ["self"] (spT K (zj9 jA jB jD jC)):=by
 refine zcd jE T zr8 (by walk_at"h") (zof λas Qd h=>by obtain⟨_,_,_,_,_,_,rfl,_⟩:=h;rfl) (zj6 ?_);walk_at"g";have nd:=zr8.nd;refine⟨_,_,(zi0 (ze1 (zb1 (zej (K:=K) rfl) rfl qR zbn (za0 (zk81 (zb7 (sc:=zh0 zn2) (N:=["self"]) (own:=["place", "amount"]) (ix:=[]) rfl rfl rfl (by walk_at"csc") (zc11 (zg1 (K:=K) rfl (pv 0) rfl)) (λ_ _ _ _=>⟨(zte (K:=K) (n:=2) rfl rfl (ze2 (pgn 0 (nds ["place", "amount"])) (ze2 (pgn 1 (nds ["place", "amount"])) zwe))),zea,(zu0 (za1 (K:=K) rfl) (pv 0) (zz4 (za0 (pv 1) zg0)))⟩))) zg0)))),(zf1 (RfF.c (zms znv (zz0 (RfE.v (RfF.e (zou (zu1 jE jP (zl0 0))))) zs1)))),?_⟩;rintro as Qd a ⟨rooms,lying,ps,m,en,kvs,rfl,hk,hk2,hk3,q⟩;unfold pS;walk_at"ds";walk_at"dd";refine⟨by lia,λkv hkv=>?_,_,hk3,λr hr=>?_,by rw[u4];exact hk,q⟩
 ·have:=hk2 kv hkv;exact⟨λz=>by rw[z]at this;simp at this,by lia⟩
 ·obtain⟨kv,_,rfl⟩:=wU.mp hr;exact zb51 kv
end
structure Ag(kvs:List (List Key×D))(W:List Le):Prop where
 nd:(kvs.map (·.1)).Nodup
 nw:W.Pairwise λa b=>a.t=b.t->a.at_≠b.at_
 iff:∀k d,getA kvs k=some d ↔ ∃l∈W,k=kTI (l.t:Int) l.at_/\d=.int l.am
theorem zmm{t t':Nat}(h:kTI (t:Int) i=kTI (t':Int) i'):t=t'/\i=i':=by
 obtain⟨h1,h2⟩:=zww h;exact⟨by lia,h2⟩
section
variable {kvs:List (List Key×D)}{W:List Le}{ps:List Pi}
theorem Ag.ai(A:Ag kvs W):AllI kvs:=λk d e=>by
 obtain⟨l,_,_,e2⟩:=(A.iff k d).mp e;exact⟨_,e2⟩
theorem zy21{t i:Nat}:∀{W:List Le},(W.Pairwise λa b=>a.t=b.t->a.at_≠b.at_)->∀{l:Le},l∈W->l.t=t->l.at_=i->sL W (λx=>if x.at_=i/\x.t=t then x.am else 0)=l.am
|a :: r,h,l,hl,e1,e2=>by
  obtain⟨h1,h2⟩:=y0.mp h;rw[zs2];rcases v6.mp hl with z|z
  ·subst z;rw[if_pos ⟨e2,e1⟩,zsv λx hx=>if_neg λy=>h1 x hx (by lia) (by lia)];lia
  ·rw[if_neg λy=>h1 l z (by lia) (by lia),zy21 h2 z e1 e2];lia
theorem Ag.cmS(A:Ag kvs W)(t i:Nat):sL W (λx=>if x.at_=i/\x.t=t then x.am else 0)=cm kvs (t:Int) i:=by
 unfold cm;cases e:getA kvs (kTI (t:Int) i)with
|none =>
  refine zsv λl hl=>if_neg λy=>?_;have:=(A.iff (kTI (l.t:Int) l.at_) (.int l.am)).mpr ⟨l,hl,rfl,rfl⟩;rw[y.1,y.2,e]at this;cases this
|some d =>
  obtain⟨l,hl,e1,e2⟩:=(A.iff _ _).mp e;obtain⟨h1,h2⟩:=zmm e1;subst e2;exact zy21 A.nw hl h1.symm h2.symm
theorem Ag.perm(A:Ag kvs W):(kvs.map kRow).Perm (W.map rowL):=by
 have e:W.map rowL=(W.map λl=>(kTI (l.t:Int) l.at_,wK l.am)).map kRow:=by rw[wZ];rfl
 rw[e];have nA:kvs.Nodup:=List.Pairwise.imp (λ{a b}(q:a.1≠b.1) z=>q (by rw[z])) (z8.mp A.nd);have nB:(W.map λl=>(kTI (l.t:Int) l.at_,wK l.am)).Nodup:=by
  refine z8.mpr (A.nw.imp λ{a b} q z=>?_);injection z with z1 _;obtain⟨h1,h2⟩:=zmm z1;exact q h1 h2
 refine List.Perm.map _ ((List.perm_ext_iff_of_nodup nA nB).mpr λkv=>⟨λz=>?_,λz=>?_⟩)
 ·obtain⟨k,d⟩:=kv;obtain⟨l,hl,e1,e2⟩:=(A.iff k d).mp (zcn A.nd z);exact wU.mpr ⟨l,hl,by rw[e1,e2]⟩
 ·obtain⟨l,hl,rfl⟩:=wU.mp z;exact zp11 ((A.iff _ _).mpr ⟨l,hl,rfl,rfl⟩)
theorem Ag.len2(A:Ag kvs W):∀kv∈kvs,kv.1.length=2:=λkv h=>by
 obtain⟨k,d⟩:=kv;obtain⟨l,_,e,_⟩:=(A.iff k d).mp (zcn A.nd h);rw[e];rfl
theorem Ag.plD(A:Ag kvs W):plD kvs=(kvs.map kRow).map rowD:=by
 unfold _4.plD;rw[wZ];exact yP λkv h=>by
  obtain⟨k,d⟩:=kv;obtain⟨l,_,e,e2⟩:=(A.iff k d).mp (zcn A.nd h);rw[e,e2];rfl
theorem Ag.len(A:Ag kvs W):kvs.length=W.length:=by
 have:=A.perm.length_eq
 rwa [u4,u4]at this
theorem zwo(kvs:List (List Key×D))(t:Int)(k:List Key)(d:D):∀n,getA (arrK kvs t n) k=some d ↔ (∀j,j < n->k≠kTI t j)/\getA kvs k=some d
|0=>⟨λh=>⟨λj hj=>absurd hj (Nat.not_lt_zero j),h⟩,λh=>h.2⟩
|n+1=>by
  show getA (zgb (arrK kvs t n) (kTI t n)) k=some d ↔ _;rw[zpd];by_cases e:kTI t n=k
  ·rw[if_pos e];exact⟨λh=>(by cases h),λh=>absurd e.symm (h.1 n (by lia))⟩
  ·rw[if_neg e,zwo kvs t k d n];refine⟨λh=>⟨λj hj z=>?_,h.2⟩,λh=>⟨λj hj=>h.1 j (by lia),h.2⟩⟩;rcases xF j n with y|y
   ·exact h.1 j y z
   ·obtain rfl:j=n:=by lia
    exact e z.symm
theorem zzv(kvs:List (List Key×D))(t:Int):∀n,(arrK kvs t n).Sublist kvs
|0=>List.Sublist.refl _
|n+1=>List.Sublist.trans zJ (zzv kvs t n)
noncomputable def ze7(t:Nat)(W:List Le):List Le:=W.filter λl=>decide (l.t≠t)
theorem Ag.go(A:Ag kvs W)(t:Nat)(hn:∀l∈W,l.at_ < n):Ag (arrK kvs (t:Int) n) (ze7 t W):=by
 refine⟨List.Pairwise.sublist ((zzv kvs t n).map _) A.nd,List.Pairwise.sublist zJ A.nw,λk d=>?_⟩;rw[zwo,A.iff];constructor
 ·rintro⟨h,l,hl,rfl,rfl⟩;refine⟨l,yJ.mpr ⟨hl,decide_eq_true λz=>h l.at_ (hn l hl) (by rw[z])⟩,rfl,rfl⟩
 ·rintro⟨l,hl,rfl,rfl⟩;obtain⟨h1,h2⟩:=yJ.mp hl;exact⟨λj _ z=>of_decide_eq_true h2 (zmm z).1,l,h1,rfl,rfl⟩
noncomputable def zfg(t i:Nat)(W:List Le):List Le:=W.filter λl=>decide ¬(l.t=t/\l.at_=i)
theorem Ag.put(A:Ag kvs W){t:Nat}{c:Int}{W':List Le}(h:W'.Perm (zfg t i W++[⟨t,i,c⟩])):Ag (putD kvs (kTI (t:Int) i) (.int c)) W':=by
 have mem:∀l,l∈W' ↔ (l∈W/\¬(l.t=t/\l.at_=i)) \/ l=⟨t,i,c⟩:=λl=>by
  rw[h.mem_iff,u6,zD];unfold zfg;rw[yJ,decide_eq_true_eq]
 refine⟨ziu A.nd _ _,?_,λk d=>?_⟩
 ·refine(List.Perm.pairwise_iff (λ{a b} q z y=>q z.symm y.symm) h).mpr (List.pairwise_append.mpr ⟨List.Pairwise.sublist zJ A.nw,by simp,λa ha b hb z y=>?_⟩);simp at hb;subst hb;exact of_decide_eq_true (yJ.mp ha).2 ⟨z,y⟩
 ·rw[zyr];by_cases e:kTI (t:Int) i=k
  ·rw[if_pos e];subst e;constructor
   ·intro z;cases z;exact⟨_,(mem _).mpr (.inr rfl),rfl,rfl⟩
   ·rintro⟨l,hl,e1,rfl⟩;obtain⟨h1,h2⟩:=zmm e1;rcases(mem l).mp hl with z|z
    ·exact absurd ⟨h1.symm,h2.symm⟩ z.2
    ·rw[z]
  ·rw[if_neg e,A.iff];constructor
   ·rintro⟨l,hl,rfl,rfl⟩;exact⟨l,(mem l).mpr (.inl ⟨hl,λz=>e (by rw[z.1,z.2])⟩),rfl,rfl⟩
   ·rintro⟨l,hl,rfl,rfl⟩;rcases(mem l).mp hl with z|z
    ·exact⟨l,z.1,rfl,rfl⟩
    ·rw[z]at e;exact absurd rfl e
theorem Ag.none:Ag [] []:=⟨by simp,by simp,λk d=>⟨λh=>by simp[getA]at h,λ⟨_,h,_⟩=>by simp at h⟩⟩
noncomputable def zlf(ps:List Pi)(t:Nat)(W:List Le)(ly:List Int):List Int:=zpf (λl=>l.t=t) (λl=>zag ps l.at_) W ly
theorem Ag.come(A:Ag kvs W){ly:List Int}(hv:∀p∈ps,p.v < ly.length)(t:Nat)(hn:∀l∈W,l.at_ < ps.length):arrL ps kvs (t:Int) ps.length ly=zlf ps t W ly:=by
 unfold zlf;refine ztp (by rw[zmh,zmb]) λx=>?_;rw[zro (λi hi=>zuo hv hi) x _ (u3 _),zgf _ _ _ _ (λl hl=>zuo hv (hn l hl)),<- dbl (ps:=ps) (c:=λl=>l.t=t) (n:=ps.length) (x:=x) hn];congr 1;refine zya λi _=>?_;rw[A.cmS t i]
end
theorem zss:∀(h:List Int)(v:Nat)(c:Int),v < h.length->(h.set v c).sum=h.sum - h.getD v 0+c
|a :: r,0,c,_=>by rw[List.set_cons_zero,yS,yS];show c+r.sum=a+r.sum - a+c;lia
|a :: r,v+1,c,h=>by
  rw[List.set_cons_succ,yS,yS,zss r v c (by simpa using h)];show a+(r.sum - r.getD v 0+c)=a+r.sum - r.getD v 0+c;lia
theorem zs71{h:List Int}{v:Nat}(hv:v < h.length)(c:Int):(inc h v c).sum=h.sum+c:=by
 unfold inc;rw[zss _ _ _ hv];lia
theorem zow:∀{h:List Int},(∀x∈h,0<=x)->0<=h.sum/\∀{x:Int},x∈h->x<=h.sum
|[],_=>⟨yZ _,λh=>by simp at h⟩
|a :: r,hh=>by
  have h1:=hh a (by simp);obtain⟨i1,i2⟩:=zow (h:=r) λx hx=>hh x (by simp[hx]);rw[yS];refine⟨by lia,λ{x} hx=>?_⟩;rcases v6.mp hx with z|z
  ·lia
  ·have:=i2 z;lia
theorem zj71{b:Int}:∀{h:List Int},(∀x∈h,x<=b)->h.sum<=b * h.length
|[],_=>by simp
|a :: r,hh=>by
  have h1:=hh a (by simp);have:=zj71 (h:=r) λx hx=>hh x (by simp[hx]);rw[yS,xO];have e:b * ((r.length+1:Nat):Int)=b * r.length+b:=by rw[Int.natCast_add,Int.mul_add];simp
  lia
noncomputable def amS(W:List Le):Int:=sL W λl=>l.am
theorem zzk{ps:List Pi}{t:Nat}:∀{W:List Le}{ly:List Int},(∀l∈W,zag ps l.at_ < ly.length)->(zlf ps t W ly).sum+amS (ze7 t W)=ly.sum+amS W
|[],_,_=>rfl
|l :: r,ly,h=>by
  have hl:=h l (by simp);have hr:∀x∈r,zag ps x.at_ < ly.length:=λx hx=>h x (by simp[hx]);unfold zlf ze7 amS;rw[zs2];show(zpf _ _ r (if l.t=t then inc ly (zag ps l.at_) l.am else ly)).sum+_=_;by_cases e:l.t=t
  ·have ih:=zzk (ps:=ps) (t:=t) (W:=r) (ly:=inc ly (zag ps l.at_) l.am) λx hx=>by rw[zfm];exact hr x hx
   unfold zlf ze7 amS at ih;rw[if_pos e,yG (by simpa using e)];rw[zs71 hl]at ih;lia
  ·have ih:=zzk (ps:=ps) (t:=t) (W:=r) (ly:=ly) hr;unfold zlf ze7 amS at ih;rw[if_neg e,xW (by simpa using e),zs2];lia
theorem zyw{ps:List Pi}{t:Nat}:∀{W:List Le}{ly:List Int},(∀l∈W,1<=l.am)->(∀x∈ly,0<=x)->∀x∈zlf ps t W ly,0<=x
|[],_,_,h=>h
|l :: r,ly,ha,h=>by
  have h1:=ha l (by simp);refine zyw (W:=r) (λx hx=>ha x (by simp[hx])) λx hx=>?_;by_cases e:l.t=t
  ·have hx:x∈(if l.t=t then inc ly (zag ps l.at_) l.am else ly):=hx;rw[if_pos e]at hx;unfold inc at hx;rcases uaM hx with z|z
   ·exact h x z
   ·have:0<=ly.getD (zag ps l.at_) 0:=by
     rw[v7];cases q:ly[zag ps l.at_]? with
    |none=>exact yZ _
    |some y=>exact h y (wT q)
    lia
  ·have hx:x∈(if l.t=t then inc ly (zag ps l.at_) l.am else ly):=hx;rw[if_neg e]at hx;exact h x hx
theorem zi31{A B:List Le}(h:A.Perm B)(f:Le->Int):sL A f=sL B f:=by
 induction h with
|nil=>rfl
|cons x _ ih=>rw[zs2,zs2,ih]
|swap x y l=>rw[zs2,zs2,zs2,zs2];lia
|trans _ _ i1 i2=>rw[i1,i2]
theorem zzq{t i:Nat}:∀W:List Le,amS (zfg t i W)+sL W (λx=>if x.at_=i/\x.t=t then x.am else 0)=amS W
|[]=>rfl
|l :: r=>by
  have ih:=zzq (t:=t) (i:=i) r;unfold amS zfg at ih ⊢;rw[zs2,zs2];by_cases e:l.t=t/\l.at_=i
  ·rw[yG (by simpa using e),if_pos ⟨e.2,e.1⟩];lia
  ·rw[xW (p:=λl:Le=>decide ¬(l.t=t/\l.at_=i)) (decide_eq_true e),zs2,if_neg λz=>e ⟨z.2,z.1⟩];lia
noncomputable def zmz(l:List Int):Le:=match l with
|[a,b,c]=>⟨a.toNat,b.toNat,c⟩
|_=>⟨0,0,0⟩
theorem ztl(l:Le):zmz (rowL l)=l:=by
 obtain⟨t,i,c⟩:=l;show(⟨((t:Int)).toNat,((i:Int)).toNat,c⟩:Le)=_;rw[wH,wH]
theorem zn51{R:List (List Int)}{L:List Le}(h:R.Perm (L.map rowL)):∃W:List Le,R=W.map rowL/\W.Perm L:=by
 refine⟨R.map zmz,?_,?_⟩
 ·rw[wZ];have:∀r∈R,(rowL ∘ zmz) r=r:=λr hr=>by
   obtain⟨l,_,rfl⟩:=wU.mp (h.mem_iff.mp hr);show rowL (zmz (rowL l))=rowL l;rw[ztl]
  rw[yP this,List.map_id']
 ·have:=h.map zmz;rw[wZ]at this;have e:L.map (zmz ∘ rowL)=L:=by
   have:∀l∈L,(zmz ∘ rowL) l=l:=λl _=>ztl l;rw[yP this,List.map_id']
  rwa [e]at this
noncomputable def zif1(k:Nat)(f c:Int):Int:=(f * (2 * (k:Int)+1013)+c) % 999999000001
noncomputable def zdc1(ns:List Int)(k:Nat):Int :=
 (λf:Int=>f * (f / 7 % 99991+3 * (k:Int)+1) % 999999000001) ((zam ns (some ((k:Int) % (1+(ns.length:Int) / 8))) none (some (1+(ns.length:Int) / 8))).foldl (zif1 k) (31 * (k:Int)+5))
noncomputable def zwb:DSp:=λds Q=>∃(ns:List Int)(k:Nat),ds=[.list (ns.map .int),.int (k:Int)]/\k<=1000/\∀m:Int,0<=m->m < 999999000001/\m=zdc1 ns k->Q (.int m)
noncomputable def zge:DSp:=λds Q=>∃n:Int,ds=[.int n]/\0<=n/\∀m:Int,0<=m->m<=1000000000000->Q (.int m)
noncomputable def Gt.okk(g:Gt):Prop:=g.ok/\∀m,0<=g.at m/\g.at m<=2000000000000
noncomputable def zgi:DSp:=λds Q=>∃(c d:Int),ds=[.int c,.int d]/\0<=c/\0<=d/\∀g:Gt,g.okk->Q g.d
noncomputable def zhj:DSp:=λds Q=>∃(ns:List Int)(k n:Nat),ds=[.list (ns.map .int),.int (k:Int),.int (n:Int)]/\k < 24/\2<=n/\n<=12/\∀p:Pi,p.u < n->p.v < n->1<=p.len->p.g.okk->Q p.d
theorem pick_map'{α β:Type}(f:α->β)(xs:List α)(lo hi st:Option Int):zam (xs.map f) lo hi st=(zam xs lo hi st).map f:=by
 unfold zam;rw[u4,k9];congr 1;funext j;rw[wD]
noncomputable def zcc:DSp:=λds Q=>∃(g:Gt)(m:Nat),ds=[g.d,.int (m:Int)]/\g.ok/\Q (.int (g.at m))
theorem zjf1{α β:Type}{xs:List α}{enc:α->D}(ok:β->Prop)(en:β->D){ix:List Nat}{dg:DG}{de:DE}{U:DSt}{Q:List D->Prop}(hz:xs.length<=sizeLine)
  (h:∀x∈xs,dg (enc x) (cST n ix U) λU'=>de U' λr=>∃b,ok b/\r=en b) (q:∀bs:List β,bs.length=xs.length->(∀b∈bs,ok b)->Q (bs.map en)):zj51 (xs.map enc) n ix dg zu51 de U Q:=by
 refine⟨by rw[u4];exact hz,λ_ o=>∃b,ok b/\o=some (en b),λi d e=>?_,λos hl hR=>?_⟩
 ·rw[wD]at e;obtain⟨x,hx,rfl⟩:=wX.mp e;have:=h x (wT hx);have e1:(λr=>∃b,ok b/\some r=some (en b))=λr=>∃b,ok b/\r=en b:=by funext r;simp
  show dg (enc x) (cST n ix U) λU'=>if true=true then de U' λr=>∃b,ok b/\some r=some (en b)else ∃b,ok b/\none=some (en b)
  rw[e1];simp only[if_true];exact this
 ·have key:∀os:List (Option D),(∀o∈os,∃b,ok b/\o=some (en b))->∃bs:List β,bs.length=os.length/\(∀b∈bs,ok b)/\os.filterMap id=bs.map en:=by
   intro os
   induction os with
  |nil=>intro _;exact⟨[],rfl,(λb hb=>by simp at hb),rfl⟩
  |cons o r ih =>
    intro k;obtain⟨b,h1,rfl⟩:=k o (by simp);obtain⟨bs,k1,k2,k3⟩:=ih λo ho=>k o (by simp[ho]);refine⟨b :: bs,by simp[k1],λc hc=>?_,by simp[k3]⟩;rcases v6.mp hc with z|z
    ·rw[z];exact h1
    ·exact k2 c z
  obtain⟨bs,b1,b2,b3⟩:=key os λo ho=>by
   obtain⟨j,hj⟩:=uaI.mp ho;exact hR j o hj
  rw[b3];exact q bs (by rw[b1,hl,u4]) b2
theorem zix{c:Nat}(h:c < 0x110000)(n:Nat):(repS ⟨#[c]⟩ n).cps.all (· < 0x110000)=true:=by
 rw[<- Array.all_toList,ztj];refine List.all_eq_true.mpr λx hx=>?_;obtain⟨l,hl,hx⟩:=List.mem_flatten.mp hx;have:=List.eq_of_mem_replicate hl;subst this;simp at hx;subst hx
 simpa using h
theorem zpw{x y:Str}(hx:x.cps.all (· < 0x110000)=true)(hy:y.cps.all (· < 0x110000)=true):(x++y).cps.all (· < 0x110000)=true:=by
 show(x.cps++y.cps).all _=true;rw[Array.all_append,hx,hy];rfl
theorem zmv(x:Str)(n:Nat):(repS x n).length=n * x.length:=by
 show(repS x n).cps.size=n * x.cps.size;rw[<- xJ,ztj];simp
theorem zz71(x y:Str):(x++y).length=x.length+y.length:=by
 show(x.cps++y.cps).size=_;rw[Array.size_append];rfl
theorem zhb1:(wY "abcdefghijklmnopqrstuvwxyz").length<=16777216:=by decide +kernel
theorem zba1{i:Int}(h0:0<=i)(h1:i < 26):∃c,c < 0x110000/\atI (wY "abcdefghijklmnopqrstuvwxyz").cps.toList i=some c:=by
 have e:((wY "abcdefghijklmnopqrstuvwxyz").cps.toList.length:Int)=26:=by decide +kernel
 obtain⟨x,hx,h⟩:=zdg1 (xs:=(wY "abcdefghijklmnopqrstuvwxyz").cps.toList) h0 (by rw[e];exact h1);exact⟨x,(show ∀c∈(wY "abcdefghijklmnopqrstuvwxyz").cps.toList,c < 0x110000 by decide +kernel) x (wT hx),h⟩
noncomputable def zbj:DSp:=λds Q=>∃(n:Int)(k:Nat),ds=[.int n,.int (k:Int)]/\0<=n/\k<=100/\∀x:Str,x.cps.all (· < 0x110000)=true->Q (.str x)
section
variable {P:Program}{w:World}{K:Fg}{mg:Str->Option Value}{base:Heap}
theorem zqe:FnScope ["script", "k", "step", "found", "cell"] ["script", "k"] (zh0 zdc):=by walk_at"sc"
theorem zlk(M:Md K mg)(T:TopDef K "_law_draw" zdc)(jT:mg "len"=none):Def P w K mg base "_law_draw" 1 ["script", "k"] (spD K zwb):=by
 refine zb8 M T zqe (by walk_at"h") (zft (by walk_at"i")) (zqf ?_);walk_at"g";have nd:=zqe.nd;refine⟨_,_,(zd0 (pset 2 nd (zu0 (za1 (K:=K) rfl) zc0 (zu0 zc1 (zb1 (zw1 (K:=K) rfl) rfl jT zjc (za0 (pv 0) zg0)) zc0)))
   (zd0 (pset 3 nd (zu0 (za1 (K:=K) rfl) (zu0 zt2 zc0 (pv 1)) zc0))
   (zd0 (zqh PassesOwn.never rfl (pi_W (K:=K) rfl (zxu (K:=K) rfl (pv 0) (zmj (zu0 zh1 (pv 1) (pv 2))) ziw (zmj (pv 2)))) (pgn 4 nd) (zi0 (pset 3 nd (zu0 zh1 (zu0 (za1 (K:=K) rfl) (zu0 zt2 (pv 3) (zu0 (za1 (K:=K) rfl) (zu0 zt2 zc0 (pv 1)) zc0)) (pv 4)) zc0))))
   (zi0 (ze1 (zu0 zh1 (zu0 zt2 (pv 3) (zu0 (za1 (K:=K) rfl) (zu0 (za1 (K:=K) rfl) (zu0 zh1 (zu0 zc1 (pv 3) zc0) zc0) (zu0 zt2 zc0 (pv 1))) zc0)) zc0)))))),(zo0 (zi1 (zk0 zf6 rvi (RfE.v (zk0 zac (RfE.v (zth zqn (zz0 (zb0 0) zs1))) rvi))) (rgn 2))
   (zo0 (zi1 (zk0 zf6 (RfE.v (zk0 zlj rvi (zb0 1))) rvi) (rgn 3))
   (zo0 (zqg (za91 (RfF.e (zn91 (zb0 0) (zyp (zk0 zg4 (zb0 1) (zb0 2))) zaw (zyp (zn0 2))))) (rgn 4) (zi1 (zk0 zg4 (RfE.v (zk0 zf6 (RfE.v (zk0 zlj (zb0 3) (RfE.v (zk0 zf6 (RfE.v (zk0 zlj rvi (zb0 1))) rvi)))) (zb0 4))) rvi) (rgn 3)))
   (zf1 (RfE.c (zk0 zg4 (RfE.v (zk0 zlj (zb0 3) (RfE.v (zk0 zf6 (RfE.v (zk0 zf6 (RfE.v (zk0 zg4 (RfE.v (zk0 zac (zb0 3) rvi)) rvi)) (RfE.v (zk0 zlj rvi (zb0 1))))) rvi)))) rvi)))))),?_⟩
 rintro ds Qd ⟨ns,k,rfl,hk,q⟩;walk_at"ds";walk_at"dn";walk_at"a";refine⟨.inl ⟨by decide,by decide⟩,hJ _ ?_⟩;walk_at"c";rw[pick_map',u4];have hst:0 < 1+(ns.length:Int) / 8:=by lia
 unfold zdc1 at q;generalize 1+(ns.length:Int) / 8=st at hst q ⊢;refine⟨by lia,by intro z;cases z;lia,?_⟩;generalize zam ns (some ((k:Int) % st)) none (some st)=L at q ⊢;refine zkb (λi U=>∃(f:Int)(s4:Sl),f=(L.take i).foldl (zif1 k) (31 * (k:Int)+5)/\0<=f/\f < 999999000001/\U=[.sh (.list (ns.map .int)),.sh (.int (k:Int)),.sh (.int st),.sh (.int f),s4]) ⟨31 * (k:Int)+5,.un,rfl,by lia,by lia,rfl⟩ ?_ ?_
 ·rintro i x U hx ⟨f,s4,ef,f0,f1,rfl⟩;walk_at"dd";refine⟨.inl ⟨by decide,by decide⟩,.inl ⟨by lia,by lia⟩,_,_,?_,xY _ (by decide),yH _ (by decide),rfl⟩;rw[List.take_add_one,hx,List.foldl_append,<- ef];rfl
 ·rintro U ⟨f,s4,ef,f0,f1,rfl⟩;rw[zH]at ef;walk_at"f";walk_at"dd";exact⟨.inl ⟨by decide,by decide⟩,.inl ⟨by lia,by lia⟩,q _ (xY _ (by decide)) ⟨yH _ (by decide),by rw[ef]⟩⟩
theorem zxd:FnScope ["number"] ["number"] (zh0 zlc):=by walk_at"sc"
theorem zik(M:Md K mg)(T:TopDef K "_law_size" zlc) :Def P w K mg base "_law_size" 1 ["number"] (spD K zge):=by
 refine zb8 M T zxd (by walk_at"h") (zft (by walk_at"i")) (zqf ?_);walk_at"g";have nd:=zxd.nd;refine⟨_,_,(zi0 (ze1 (zu0 zh1 (zu0 zt2 (zu0 zc1 (pv 0) zc0) zc0) (pix w K hr (zj1 (za0 zc0 (za0 zc0 (za0 (zu0 (za1 (K:=K) rfl) (zu0 zoq zc0 zc0) zc0) zg0)))) (zu0 zh1 (pv 0) zc0))))),(zf1 (RfE.c (zk0 zg4 (RfE.v (zk0 zlj (RfE.v (zk0 zac (zb0 0) rvi)) rvi)) (RfE.v (zk0 r_ix (RfE.v (RfF.e (zo6 (ze0 zr0 (ze0 zr0 (ze0 (zk0 zf6 (RfE.v (zk0 zx31 rvi rvi)) rvi) zs0)))))) (RfE.v (zk0 zg4 (zb0 0) rvi))))))),?_⟩;rintro ds Qd ⟨n,rfl,hn,q⟩;walk_at"ds";walk_at"dd";refine⟨.inr ⟨by decide,by decide⟩,by decide,?_⟩;have h3:n % 3=0 \/ n % 3=1 \/ n % 3=2:=by lia
 rcases h3 with h|h|h
 ·refine⟨_,by rw[h];rfl,?_⟩;walk_at"dd";exact q _ (by lia) (by lia)
 ·refine⟨_,by rw[h];rfl,?_⟩;walk_at"dd";exact q _ (by lia) (by lia)
 ·refine⟨_,by rw[h];rfl,?_⟩;walk_at"dd";exact q _ (by lia) (by lia)
theorem zhf:FnScope ["number", "k", "letters", "sign", "ahead"] ["number", "k"] (zh0 zgc):=by walk_at"sc"
theorem zxk(M:Md K mg)(T:TopDef K "_law_name" zgc) :Def P w K mg base "_law_name" 1 ["number", "k"] (spD K zbj):=by
 refine zb8 M T zhf (by walk_at"h") (zft (by walk_at"i")) (zqf ?_);walk_at"g";have nd:=zhf.nd;refine⟨_,_,(zd0 (pset 2 nd zdj)
   (zd0 (pset 3 nd (pix w K hr (pv 2) (zu0 zh1 (zu0 (za1 (K:=K) rfl) (zu0 zc1 (pv 0) zc0) (zu0 zt2 zc0 (pv 1))) zc0)))
   (zd0 (pset 4 nd (zu0 zt2 (pix w K hr (pv 2) (zu0 zh1 (zu0 zc1 (pv 0) zc0) zc0)) (zu0 zh1 (pv 0) zc0)))
   (zi0 (ze1 (zu0 (za1 (K:=K) rfl) (zu0 (za1 (K:=K) rfl) (pv 4) (pv 3)) (zu0 zt2 (pix w K hr (pv 2) (zu0 zh1 (zu0 zc1 (pv 0) zc0) zc0)) (zu0 zh1 (zu0 zc1 (pv 0) zc0) zc0)))))))),(zo0 (zi1 zni (rgn 2))
   (zo0 (zi1 (zk0 r_ix (zb0 2) (RfE.v (zk0 zg4 (RfE.v (zk0 zf6 (RfE.v (zk0 zac (zb0 0) rvi)) (RfE.v (zk0 zlj rvi (zb0 1))))) rvi))) (rgn 3))
   (zo0 (zi1 (zk0 zlj (RfE.v (zk0 r_ix (zb0 2) (RfE.v (zk0 zg4 (RfE.v (zk0 zac (zb0 0) rvi)) rvi)))) (RfE.v (zk0 zg4 (zb0 0) rvi))) (rgn 4))
   (zf1 (RfE.c (zk0 zf6 (RfE.v (zk0 zf6 (zb0 4) (zb0 3))) (RfE.v (zk0 zlj (RfE.v (zk0 r_ix (zb0 2) (RfE.v (zk0 zg4 (RfE.v (zk0 zac (zb0 0) rvi)) rvi)))) (RfE.v (zk0 zg4 (RfE.v (zk0 zac (zb0 0) rvi)) rvi)))))))))),?_⟩
 rintro ds Qd ⟨n,k,rfl,hn,hk,q⟩;walk_at"ds";walk_at"dn";walk_at"a";obtain⟨c,fc,hc⟩:=zba1 (i:=(n / 20+7 * (k:Int)) % 26) (by lia) (by lia);refine⟨.inl ⟨by decide,by decide⟩,zhb1,c,hc,hJ _ ?_⟩;walk_at"c";obtain⟨c2,fc2,hc2⟩:=zba1 (i:=n / 520 % 26) (by lia) (by lia);have l1:∀c:Nat,(⟨#[c]⟩:Str).length=1:=λ_=>rfl;refine⟨zhb1,c2,hc2,by lia,by rw[l1];lia,by lia,hJ _ ?_⟩;clear hJ;walk_at"dd";obtain⟨c3,fc3,hc3⟩:=zba1 (i:=n / 13520 % 26) (by lia) (by lia);have l2:=zmv ⟨#[c2]⟩ (n % 4).toNat;have l3:=zmv ⟨#[c3]⟩ (n / 4 % 5).toNat;rw[l1]at l2 l3;exact⟨by rw[l2,l1];lia,zhb1,c3,hc3,by lia,by rw[l1];lia,by lia,by rw[zz71,l2,l3,l1];lia,q _ (zpw (zpw (zix fc2 _) (by simpa using fc)) (zix fc3 _))⟩
theorem zie:FnScope ["c", "d", "wide"] ["c", "d"] (zh0 zbc):=by walk_at"sc"
theorem zml(M:Md K mg)(T:TopDef K "_law_gate" zbc)(qA:Def P w K mg base "_law_size" 1 ["number"] (spD K zge)):Def P w K mg base "_law_gate" 2 ["c", "d"] (spD K zgi):=by
 refine zb8 M T zie (by walk_at"h") (zft (by walk_at"i")) (zqf ?_);walk_at"g";have nd:=zie.nd;refine⟨_,_,(zd0 (pset 2 nd (zu0 (za1 (K:=K) rfl) zc0 (zu0 zh1 (zq0 qA (rmn hr) rfl (za0 (pv 1) zg0)) (zu0 zoq zc0 zc0))))
   (zd0 (zf4 (zv0 (zx1 (K:=K) rfl (Room.units hr)) (zu0 zh1 (pv 0) zc0) zc0 (zd1 _)) (zi0 (ze1 (zz4 (za0 zdj (za0 (pv 2) zg0))))) zx0)
   (zd0 (zf4 (zv0 (zx1 (K:=K) rfl (Room.units hr)) (zu0 zh1 (pv 0) zc0) zc0 (zd1 _)) (zi0 (ze1 (zz4 (za0 zdj (za0 (pv 2) (za0 (zu0 zh1 (zu0 zc1 (pv 0) zc0) (pix w K hr (zj1 (za0 zc0 (za0 zc0 zg0))) (zu0 zh1 (zu0 zc1 (pv 0) zc0) zc0))) zg0)))))) zx0)
   (zi0 (ze1 (zz4 (za0 zdj (za0 (pv 2) (za0 (zu0 (za1 (K:=K) rfl) zc0 (zu0 zh1 (zq0 qA (rmn hr) rfl (za0 (zu0 zc1 (pv 0) zc0) zg0)) (zu0 zoq zc0 zc0))) (za0 (zu0 (za1 (K:=K) rfl) zc0 (zu0 zh1 (zu0 zc1 (pv 0) zc0) (pix w K hr (zj1 (za0 zc0 (za0 zc0 zg0))) (zu0 zh1 (zu0 zc1 (pv 0) zc0) zc0)))) zg0)))))))))),(zo0 (zi1 (zk0 zf6 rvi (RfE.v (zk0 zg4 (RfE.v (zn1 (ze0 (zn0 1) zs0))) (RfE.v (zk0 zx31 rvi rvi))))) (rgn 2))
   (zo0 (zy6 (zt0 (zm1 q_eq (RfV.h (RfE.v (zk0 zg4 (zb0 0) rvi))) (RfV.h rvi))) (zf1 (RfE.c (zrc (ze0 zni (ze0 (zn0 2) zs0))))) zy0)
   (zo0 (zy6 (zt0 (zm1 q_eq (RfV.h (RfE.v (zk0 zg4 (zb0 0) rvi))) (RfV.h rvi))) (zf1 (RfE.c (zrc (ze0 zni (ze0 (zn0 2) (ze0 (zk0 zg4 (RfE.v (zk0 zac (zb0 0) rvi)) (RfE.v (zk0 r_ix (RfE.v (RfF.e (zo6 (ze0 zr0 (ze0 zr0 zs0))))) (RfE.v (zk0 zg4 (RfE.v (zk0 zac (zb0 0) rvi)) rvi))))) zs0)))))) zy0)
   (zf1 (RfE.c (zrc (ze0 zni (ze0 (zn0 2) (ze0 (zk0 zf6 rvi (RfE.v (zk0 zg4 (RfE.v (zn1 (ze0 (zk0 zac (zb0 0) rvi) zs0))) (RfE.v (zk0 zx31 rvi rvi))))) (ze0 (zk0 zf6 rvi (RfE.v (zk0 zg4 (RfE.v (zk0 zac (zb0 0) rvi)) (RfE.v (zk0 r_ix (RfE.v (RfF.e (zo6 (ze0 zr0 (ze0 zr0 zs0))))) (RfE.v (zk0 zg4 (RfE.v (zk0 zac (zb0 0) rvi)) rvi))))))) zs0)))))))))),?_⟩
 rintro ds Qd ⟨c,d,rfl,hc,hd,q⟩;walk_at"ds";walk_at"a";refine⟨d,rfl,hd,λm m0 m1=>?_⟩;walk_at"dd";refine⟨by decide,hJ _ ?_⟩;clear hJ;have w1:1<=1+m % 1000000000000:=by lia
 have w2:1+m % 1000000000000<=1000000000000:=by lia
 generalize 1+m % 1000000000000=x at w1 w2;walk_at"a";refine two (λ_=>q (.st x) ⟨trivial,λ_=>by show 0<=x/\x<=_;lia⟩) λ_=>hJ _ ?_;walk_at"c";have h2:c / 12 % 2=0 \/ c / 12 % 2=1:=by lia
 have at4:∀a b:Int,∃r:Nat,0 < r/\r < 1000/\atI [wK 4,wK 61] (c / 12 % 2)=some (.int (r:Int)):=λ_ _=>by
  rcases h2 with h|h
  ·exact⟨4,by decide,by decide,by rw[h];rfl⟩
  ·exact⟨61,by decide,by decide,by rw[h];rfl⟩
 have at19:∃r:Nat,0 < r/\r < 900/\atI [wK 4,wK 19] (c / 12 % 2)=some (.int (r:Int)):=by
  rcases h2 with h|h
  ·exact⟨4,by decide,by decide,by rw[h];rfl⟩
  ·exact⟨19,by decide,by decide,by rw[h];rfl⟩
 obtain⟨r,r0,r1,hr'⟩:=at4 0 0;obtain⟨t,t0,t1,ht⟩:=at19;refine two (λ_=>⟨_,hr',?_⟩) λ_=>hJ _ ?_
 ·have e1:=xY (c / 3) (b:=(r:Int)) (by lia);obtain⟨f,hf⟩:=xX e1;walk_at"dd";rw[hf];refine⟨by lia,q (.la x f) ⟨trivial,λm=>?_⟩⟩;show 0<=(if f<=m then x else 0)/\(if f<=m then x else 0)<=_;split <;> lia
 clear hJ;walk_at"dd";refine⟨_,rfl,by lia,λm' m0' m1'=>?_⟩;walk_at"dd";refine⟨by decide,_,ht,?_⟩;walk_at"dd";have e1:=xY (c / 3) (b:=(t:Int)) (by lia);have e2:=yH (c / 3) (b:=(t:Int)) (by lia);obtain⟨f,hf⟩:=xX e1;rw[hf]at e2 ⊢;refine⟨by lia,?_⟩;have e3:(2:Int)+(f:Nat)=((2+f:Nat):Int):=by lia
 rw[e3];refine q (.ti x _ (2+f)) ⟨⟨by lia,by lia⟩,λm=>?_⟩;show 0<=(if m % (2+f)=0 then x else _)/\(if m % (2+f)=0 then x else _)<=_;split <;> lia
theorem zqd:FnScope ["script", "k", "many", "number", "start", "goal", "length", "gate"] ["script", "k", "many"] (zh0 znc):=by walk_at"sc"
theorem zsk(M:Md K mg)(T:TopDef K "_law_pipe" znc)(jN:Def P w K mg base "_law_draw" 1 ["script", "k"] (spD K zwb))(uT:Def P w K mg base "_law_gate" 2 ["c", "d"] (spD K zgi)):Def P w K mg base "_law_pipe" 3 ["script", "k", "many"] (spD K zhj):=by
 refine zb8 M T zqd (by walk_at"h") (zft (by walk_at"i")) (zqf ?_);walk_at"g";have nd:=zqd.nd;refine⟨_,_,(zd0 (pset 3 nd (zq0 jN (rmn hr) rfl (za0 (pv 0) (za0 (zu0 (za1 (K:=K) rfl) zc0 (zu0 zt2 zc0 (pv 1))) zg0))))
   (zd0 (pset 4 nd (zu0 zh1 (pv 3) (pv 2)))
   (zd0 (pset 5 nd (zu0 zh1 (zu0 (za1 (K:=K) rfl) (zu0 (za1 (K:=K) rfl) (pv 4) zc0) (zu0 zh1 (zu0 zc1 (pv 3) (pv 2)) (zu0 zel (pv 2) zc0))) (pv 2)))
   (zd0 (pset 3 nd (zq0 jN (rmn hr) rfl (za0 (pv 0) (za0 (zu0 (za1 (K:=K) rfl) zc0 (zu0 zt2 zc0 (pv 1))) zg0))))
   (zd0 (pset 6 nd (zu0 (za1 (K:=K) rfl) zc0 (zu0 zh1 (pv 3) zc0)))
   (zd0 (zf4 (zv0 (zx1 (K:=K) rfl (Room.units hr)) (zu0 zh1 (zu0 zc1 (pv 3) zc0) zc0) zc0 (zd1 _)) (zi0 (pset 6 nd (zu0 (za1 (K:=K) rfl) zc0 (zu0 zh1 (zu0 zc1 (pv 3) zc0) zc0)))) zx0)
   (zd0 (pset 7 nd (zq0 uT (rmn hr) rfl (za0 (zq0 jN (rmn hr) rfl (za0 (pv 0) (za0 (zu0 (za1 (K:=K) rfl) zc0 (zu0 zt2 zc0 (pv 1))) zg0))) (za0 (zq0 jN (rmn hr) rfl (za0 (pv 0) (za0 (zu0 (za1 (K:=K) rfl) zc0 (zu0 zt2 zc0 (pv 1))) zg0))) zg0))))
   (zi0 (ze1 (zz4 (za0 (pv 4) (za0 (pv 5) (za0 (pv 6) (za0 (zu0 zh1 (zu0 zc1 (pv 3) zc0) zc0) (za0 (pv 7) zg0))))))))))))))),(zo0 (zi1 (zn1 (ze0 (zn0 0) (ze0 (zk0 zf6 rvi (RfE.v (zk0 zlj rvi (zb0 1)))) zs0))) (rgn 3))
   (zo0 (zi1 (zk0 zg4 (zb0 3) (zb0 2)) (rgn 4))
   (zo0 (zi1 (zk0 zg4 (RfE.v (zk0 zf6 (RfE.v (zk0 zf6 (zb0 4) rvi)) (RfE.v (zk0 zg4 (RfE.v (zk0 zac (zb0 3) (zb0 2))) (RfE.v (zk0 znz (zb0 2) rvi)))))) (zb0 2)) (rgn 5))
   (zo0 (zi1 (zn1 (ze0 (zn0 0) (ze0 (zk0 zf6 rvi (RfE.v (zk0 zlj rvi (zb0 1)))) zs0))) (rgn 3))
   (zo0 (zi1 (zk0 zf6 rvi (RfE.v (zk0 zg4 (zb0 3) rvi))) (rgn 6))
   (zo0 (zy6 (zt0 (zm1 q_eq (RfV.h (RfE.v (zk0 zg4 (RfE.v (zk0 zac (zb0 3) rvi)) rvi))) (RfV.h rvi))) (zi1 (zk0 zf6 rvi (RfE.v (zk0 zg4 (RfE.v (zk0 zac (zb0 3) rvi)) rvi))) (rgn 6)) zy0)
   (zo0 (zi1 (zn1 (ze0 (zn1 (ze0 (zn0 0) (ze0 (zk0 zf6 rvi (RfE.v (zk0 zlj rvi (zb0 1)))) zs0))) (ze0 (zn1 (ze0 (zn0 0) (ze0 (zk0 zf6 rvi (RfE.v (zk0 zlj rvi (zb0 1)))) zs0))) zs0))) (rgn 7))
   (zf1 (RfE.c (zrc (ze0 (zn0 4) (ze0 (zn0 5) (ze0 (zn0 6) (ze0 (zk0 zg4 (RfE.v (zk0 zac (zb0 3) rvi)) rvi) (ze0 (zn0 7) zs0))))))))))))))),?_⟩
 rintro ds Qd ⟨ns,k,n,rfl,hk,hn,hn2,q⟩;walk_at"ds";walk_at"a";refine⟨.inl ⟨by decide,by decide⟩,ns,40+4 * k,by congr 2,by lia,λm m0 m1=>hJ _ ?_⟩;walk_at"c";refine⟨by lia,hJ _ ?_⟩;walk_at"c";have u0:=xY m (b:=(n:Int)) (by lia);have u1:=yH m (b:=(n:Int)) (by lia);have v1:=yH (m % (n:Int)+1+m / (n:Int) % ((n:Int) - 1)) (b:=(n:Int)) (by lia);have v0:=xY (m % (n:Int)+1+m / (n:Int) % ((n:Int) - 1)) (b:=(n:Int)) (by lia);obtain⟨u,hu⟩:=xX u0;obtain⟨v,hv⟩:=xX v0;refine⟨⟨by lia,by lia⟩,by lia,by lia,hJ _ ?_⟩;rw[hv,hu];rw[hv]at v1;rw[hu]at u1;clear hJ hv hu v0 u0;walk_at"a";refine⟨.inl ⟨by decide,by decide⟩,ns,41+4 * k,by congr 2,by lia,λm2 m20 m21=>hJ _ ?_⟩;clear hJ;walk_at"dn";refine zr1 (λU=>∃l:Nat,1<=l/\U=[.sh (.list (ns.map .int)),.sh (.int (k:Int)),.sh (.int (n:Int)),.sh (.int m2),.sh (.int (u:Int)),.sh (.int (v:Int)),.sh (.int (l:Int)),.un]) ?_ ?_
 ·walk_at"dd";refine two (λ_=>⟨(1+m2 / 12 % 20).toNat,by lia,?_⟩) λ_=>⟨(1+m2 % 3).toNat,by lia,?_⟩
  ·rw[show((1+m2 / 12 % 20).toNat:Int)=1+m2 / 12 % 20 by lia]
  ·rw[show((1+m2 % 3).toNat:Int)=1+m2 % 3 by lia]
 rintro U ⟨l,l1,rfl⟩;walk_at"a";refine⟨.inl ⟨by decide,by decide⟩,ns,42+4 * k,by congr 2,by lia,λm3 m30 m31=>?_⟩;walk_at"dd";refine⟨.inl ⟨by decide,by decide⟩,ns,43+4 * k,by congr 2,by lia,λm4 m40 m41=>⟨m3,m4,rfl,m30,m40,λg hg=>hJ _ ?_⟩⟩;clear hJ;walk_at"dd";exact q ⟨u,v,l,_,g⟩ (by show u < n;lia) (by show v < n;lia) l1 hg
theorem zed:FnScope ["gate", "now"] ["gate", "now"] (zh0 zxa):=by walk_at"sc"
theorem zii(M:Md K mg)(T:TopDef K "_law_width" zxa) :Def P w K mg base "_law_width" 1 ["gate", "now"] (spD K zcc):=by
 refine zb8 M T zed (by walk_at"h") (zft (by walk_at"i")) (zqf ?_);walk_at"g";have nd:=zed.nd;refine⟨_,_,(zd0 (zf4 (PW.pt (zvn (zv0 (zx1 (K:=K) rfl (Room.units hr)) (pix w K hr (pv 0) zc0) zdj (zd1 _)) (zvf (zv0 zyt (pv 1) (pix w K hr (pv 0) zc0) (zd1 _))))) (zi0 (ze1 zc0)) zx0)
   (zd0 (zf4 (PW.pt (zvn (zv0 (zx1 (K:=K) rfl (Room.units hr)) (pix w K hr (pv 0) zc0) zdj (zd1 _)) (zvf (zv0 (zwj (K:=K) rfl (Room.units hr)) (zu0 zh1 (pv 1) (pix w K hr (pv 0) zc0)) zc0 (zd1 _))))) (zi0 (ze1 (pix w K hr (pv 0) zc0))) zx0)
   (zi0 (ze1 (pix w K hr (pv 0) zc0))))),(zo0 (zy6 (zzn (zt0 (zm1 q_eq (RfV.h (RfE.v (zk0 r_ix (zb0 0) rvi))) (RfV.h (RfE.v zni)))) (zt0 (zk0 r_lt (zb0 1) (RfE.v (zk0 r_ix (zb0 0) rvi))))) (zf1 (RfE.c zr0)) zy0)
   (zo0 (zy6 (zzn (zt0 (zm1 q_eq (RfV.h (RfE.v (zk0 r_ix (zb0 0) rvi))) (RfV.h (RfE.v zni)))) (zt0 (zm1 q_ne (RfV.h (RfE.v (zk0 zg4 (zb0 1) (RfE.v (zk0 r_ix (zb0 0) rvi))))) (RfV.h rvi)))) (zf1 (RfE.c (zk0 r_ix (zb0 0) rvi))) zy0)
   (zf1 (RfE.c (zk0 r_ix (zb0 0) rvi))))),?_⟩
 rintro ds Qd ⟨g,m,rfl,ok,q⟩;walk_at"ds";cases g with
|st x =>
  unfold Gt.d;walk_at"a";walk_at"k";rw[if_neg (by decide +kernel)];walk_at"b";walk_at"k";rw[if_neg (by decide +kernel)];walk_at"f";walk_at"dd";exact⟨_,rfl,q⟩
|la x f =>
  unfold Gt.d;walk_at"a";walk_at"k";walk_at"k";refine two (λh=>?_) λh=>hJ _ ?_
  ·have e:Gt.at (.la x f) m=0:=if_neg (by lia);rw[e]at q;exact q
  walk_at"c";walk_at"k";rw[if_neg (by decide +kernel)];walk_at"f";walk_at"dd";have e:Gt.at (.la x f) m=x:=if_pos (by lia);rw[e]at q;exact⟨_,rfl,q⟩
|ti x y t =>
  obtain⟨o1,o2⟩:=ok;unfold Gt.d;walk_at"a";walk_at"k";rw[if_neg (by decide +kernel)];walk_at"b";walk_at"k";walk_at"k";refine⟨by lia,two (λh=>⟨_,rfl,?_⟩) λh=>hJ _ ?_⟩
  ·have e:Gt.at (.ti x y t) m=y:=if_neg (by lia);rw[e]at q;exact q
  clear hJ;walk_at"dd";have e:Gt.at (.ti x y t) m=x:=if_pos (by lia);rw[e]at q;exact⟨_,rfl,q⟩
end
noncomputable def zy9:DSp:=λds Q=>∃i:Int,ds=[.int i,.int i]/\Q (.bool true)
noncomputable def zdb:DSp:=λds Q=>∃xs:List Int,ds=[.list (xs.map .int),.list (xs.map .int)]/\xs.length<=1000/\Q (.bool true)
noncomputable def zdd:DSp:=λds Q=>∃xs:List (List Int),ds=[.list (xs.map rowD),.list (xs.map rowD)]/\xs.length<=1000/\(∀l∈xs,l.length<=1000)/\Q (.bool true)
theorem zs{α:Type}:∀{xs:List α}{p:α×α},p∈xs.zip xs->p.1=p.2/\p.1∈xs
|[],_,h=>by simp at h
|x :: r,p,h=>by
  rw[uaF]at h;rcases v6.mp h with e|e
  ·subst e;exact⟨rfl,wJ⟩
  ·exact⟨(zs e).1,v8 _ (zs e).2⟩
section
variable {P:Program}{w:World}{K:Fg}{mg:Str->Option Value}{base:Heap}
theorem zbd:FnScope ["found", "due"] ["found", "due"] (zh0 zta):=by walk_at"sc"
theorem zyi(M:Md K mg)(T:TopDef K "_law_whole" zta)(kt:Kit K)(vW:mg "bool"=none)(vQ:mg "int"=none)(jF:mg "isinstance"=none):Def P w K mg base "_law_whole" 1 ["found", "due"] (spD K zy9):=by
 refine zb8 M T zbd (by walk_at"h") (zft (by walk_at"i")) (zqf ?_);walk_at"g";have nd:=zbd.nd;refine⟨_,_,(zi0 (ze1 (zt41 (zb1 (zee (K:=K) rfl) rfl jF zw0 (za0 (pv 0) (za0 (ztf (v:=.ty "int") rfl vQ zx01 rfl) zg0))) (zt41 (zg41 (zb1 (zee (K:=K) rfl) rfl jF zw0 (za0 (pv 0) (za0 (ztf (v:=.ty "bool") rfl vW zw71 rfl) zg0)))) (znb1 (zkg (zx1 (K:=K) rfl (Room.units hr)) (pv 0) (pv 1) (zd1 _))))))),(zf1 (RfE.c (zkw (zg71 kt (by simp) (zb0 0)) (zkw (zhx (zg71 kt (by simp) (zb0 0))) (zm1 q_eq (RfV.h (zb0 0)) (RfV.h (zb0 1))))))),?_⟩;rintro ds Qd ⟨i,rfl,q⟩;walk_at"ds";walk_at"dd";exact⟨λ_=>trivial,λ_=>trivial,q⟩
theorem zob:FnScope ["found", "due"] ["found", "due"] (zh0 zs5):=by walk_at"sc"
theorem zxg(M:Md K mg)(T:TopDef K "_law_wholes" zs5)(kt:Kit K)(jF:mg "isinstance"=none)(jT:mg "len"=none)(jX:mg "list"=none)(vU:mg "zip"=none)(kA:Def P w K mg base "_law_whole" 1 ["found", "due"] (spD K zy9)):Def P w K mg base "_law_wholes" 2 ["found", "due"] (spD K zdb):=by
 refine zb8 M T zob (by walk_at"h") (zft (by walk_at"i")) (zqf ?_);walk_at"g";have nd:=zob.nd;refine⟨_,_,(zd0 (zf4 (PW.pt (zp81 (zka (zr5 (K:=K) rfl (zb1 (zee (K:=K) rfl) rfl jF zw0 (za0 (pv 0) (za0 (ztf (v:=.ty "list") rfl jX zv8 rfl) zg0))) (λ_=>rfl))) (zbu (zv0 (zwj (K:=K) rfl (Room.units hr)) (zb1 (zw1 (K:=K) rfl) rfl jT zjc (za0 (pv 0) zg0)) (zb1 (zw1 (K:=K) rfl) rfl jT zjc (za0 (pv 1) zg0)) (zd1 _))))) (zi0 (ze1 zpj)) zx0)
   (zi0 (ze1 (zkg (zx1 (K:=K) rfl (Room.units hr)) (zb7 (sc:=zh0 zs5) (N:=["found", "due"]) (own:=["one", "other"]) (ix:=[]) rfl rfl rfl (by walk_at"csc") (zw61 (K:=K) rfl rfl vU (za0 (pv 0) (za0 (pv 1) zg0))) (λ_ _ _ _=>⟨(zte (K:=K) (n:=2) rfl rfl (ze2 (pgn 0 (nds ["one", "other"])) (ze2 (pgn 1 (nds ["one", "other"])) zwe))),(zfn (zka (zr5 (K:=K) rfl (zq0 kA (rmn hr) rfl (za0 (pv 0) (za0 (pv 1) zg0))) (λ_=>rfl)))),zc0⟩)) (zj1 zg0) (zd1 _))))),(zo0 (zy6 (zo81 (zoc (zgd (RfE.v (zg71 kt (by simp) (zb0 0))))) (zt0 (zm1 q_ne (RfV.h (RfE.v (zth zqn (zz0 (zb0 0) zs1)))) (RfV.h (RfE.v (zth zqn (zz0 (zb0 1) zs1))))))) (zf1 (RfE.c zhd)) zy0)
   (zf1 (RfE.c (zm1 q_eq (RfV.h (RfE.v (RfF.e (zp8 (zy91 (zz0 (zb0 0) (zz0 (zb0 1) zs1))) (zpn (zc3 (zt3 (i:=0) (n:=2) (by decide)) (zc3 (zt3 (i:=1) (n:=2) (by decide)) zwf))) (zoc (zgd (RfE.v (zn1 (ze0 (zn0 0) (ze0 (zn0 1) zs0)))))) zr0)))) (zwn zxn))))),?_⟩
 rintro ds Qd ⟨xs,rfl,hl,q⟩;walk_at"ds";walk_at"a";refine⟨λ_=>trivial,hJ _ ?_⟩;clear hJ;walk_at"dd";rw[zko];refine za31 (λ_=>none) (by rw[List.length_zip,sizeLine_eq];lia) (λx hx=>?_) ?_
 ·obtain⟨a,b⟩:=x;obtain⟨e,_⟩:=zs hx;dsimp only at e;subst e;walk_at"cs";walk_at"dd";refine⟨a,rfl,?_⟩;walk_at"dd"
  done
 ·have:∀l:List (Int×Int),l.filterMap (λ_=>(none:Option D))=[]:=λl=>by simp
  rw[this];exact⟨rfl,rfl,q⟩
theorem zca:FnScope ["found", "due", "one", "other"] ["found", "due"] (zh0 zs7):=by walk_at"sc"
theorem zmf(M:Md K mg)(T:TopDef K "_law_comings" zs7)(kt:Kit K)(jF:mg "isinstance"=none)(jT:mg "len"=none)(jX:mg "list"=none)(vR:mg "tuple"=none)(vU:mg "zip"=none)(kE:Def P w K mg base "_law_wholes" 2 ["found", "due"] (spD K zdb)):Def P w K mg base "_law_comings" 3 ["found", "due"] (spD K zdd):=by
 refine zb8 M T zca (by walk_at"h") (zft (by walk_at"i")) (zqf ?_);walk_at"g";have nd:=zca.nd;refine⟨_,_,(zd0 (zf4 (PW.pt (zp81 (zka (zr5 (K:=K) rfl (zb1 (zee (K:=K) rfl) rfl jF zw0 (za0 (pv 0) (za0 (ztf (v:=.ty "list") rfl jX zv8 rfl) zg0))) (λ_=>rfl))) (zbu (zv0 (zwj (K:=K) rfl (Room.units hr)) (zb1 (zw1 (K:=K) rfl) rfl jT zjc (za0 (pv 0) zg0)) (zb1 (zw1 (K:=K) rfl) rfl jT zjc (za0 (pv 1) zg0)) (zd1 _))))) (zi0 (ze1 zpj)) zx0)
   (zd0 (zqh PassesOwn.never rfl (zw61 (K:=K) rfl rfl vU (za0 (pv 0) (za0 (pv 1) zg0))) (zte (K:=K) (n:=2) rfl rfl (ze2 (pgn 2 nd) (ze2 (pgn 3 nd) zwe))) (zi0 (zf4 (PW.pt (zp81 (zka (zr5 (K:=K) rfl (zb1 (zee (K:=K) rfl) rfl jF zw0 (za0 (pv 2) (za0 (ztf (v:=.ty "tuple") rfl vR zyx rfl) zg0))) (λ_=>rfl))) (zbu (zka (zr5 (K:=K) rfl (zq0 kE (rmn hr) rfl (za0 (zp2 (zg2 (K:=K) rfl) rfl jX zv8 (za0 (pv 2) zg0)) (za0 (zp2 (zg2 (K:=K) rfl) rfl jX zv8 (za0 (pv 3) zg0)) zg0))) (λ_=>rfl)))))) (zi0 (ze1 zpj)) zx0)))
   (zi0 (ze1 zpj)))),(zo0 (zy6 (zo81 (zoc (zgd (RfE.v (zg71 kt (by simp) (zb0 0))))) (zt0 (zm1 q_ne (RfV.h (RfE.v (zth zqn (zz0 (zb0 0) zs1)))) (RfV.h (RfE.v (zth zqn (zz0 (zb0 1) zs1))))))) (zf1 (RfE.c zhd)) zy0)
   (zo0 (zqg (zaa1 (ze0 (zn0 0) (ze0 (zn0 1) zs0))) (zpn (zc3 (rgn 2) (zc3 (rgn 3) zwf))) (zy6 (zo81 (zoc (zgd (RfE.v (zg71 kt (by simp) (zb0 2))))) (zoc (zgd (RfE.v (zue (zz0 (RfE.v (RfF.e (zms ztg (zz0 (zb0 2) zs1)))) (zz0 (RfE.v (RfF.e (zms ztg (zz0 (zb0 3) zs1)))) zs1))))))) (zf1 (RfE.c zhd)) zy0))
   (zf1 (RfE.c zhd)))),?_⟩
 rintro ds Qd ⟨xs,rfl,hl,hl2,q⟩;walk_at"ds";walk_at"a";refine⟨λ_=>trivial,hJ _ ?_⟩;walk_at"c";rw[zko];refine zkb (λ_ U=>∃s2 s3:Sl,U=[.sh (.list (xs.map rowD)),.sh (.list (xs.map rowD)),s2,s3]) ⟨.un,.un,rfl⟩ ?_ ?_
 ·rintro i x U hx ⟨s2,s3,rfl⟩;obtain⟨a,b⟩:=x;obtain⟨e,hm⟩:=zs (wT hx);dsimp only at e hm;subst e;unfold rowD;walk_at"dd";refine⟨λ_=>trivial,a,rfl,hl2 a hm,?_⟩;walk_at"dd";exact⟨_,_,rfl⟩
 ·rintro U ⟨s2,s3,rfl⟩;walk_at"f";walk_at"dd";exact q
end
structure Yd(vs:List Va)(ps:List Pi):Prop where
 v1:1<=vs.length
 v12:vs.length<=12
 p24:ps.length<=24
 va:∀v∈vs,0<=v.fill/\v.fill<=v.room/\v.room<=1000000000000/\v.nm.cps.all (· < 0x110000)=true
 pu:∀p∈ps,p.u < vs.length/\p.v < vs.length/\1<=p.len/\p.g.okk
noncomputable abbrev zcb(vs:List Va)(ps:List Pi):D:=.tuple [.list (vs.map Va.d),.list (ps.map Pi.d)]
noncomputable def zsi:DSp:=λds Q=>∃ns:List Int,ds=[.list (ns.map .int)]/\∀vs ps,Yd vs ps->Q (zcb vs ps)
section
variable {P:Program}{w:World}{K:Fg}{mg:Str->Option Value}{base:Heap}
theorem zvd:FnScope ["script", "many", "vats", "k", "room", "fill", "count"] ["script"] (zh0 zu9):=by walk_at"sc"
theorem zyk(M:Md K mg)(T:TopDef K "_law_yard" zu9)(kR:mg "range"=none)(jN:Def P w K mg base "_law_draw" 1 ["script", "k"] (spD K zwb))(qA:Def P w K mg base "_law_size" 1 ["number"] (spD K zge))(uU:Def P w K mg base "_law_name" 1 ["number", "k"] (spD K zbj))(uV:Def P w K mg base "_law_pipe" 3 ["script", "k", "many"] (spD K zhj)):Def P w K mg base "_law_yard" 4 ["script"] (spD K zsi):=by
 refine zb8 M T zvd (by walk_at"h") (zft (by walk_at"i")) (zqf ?_);walk_at"g";have nd:=zvd.nd;refine⟨_,_,(zd0 (pset 1 nd (zu0 (za1 (K:=K) rfl) zc0 (zu0 zh1 (zq0 jN (rmn hr) rfl (za0 (pv 0) (za0 zc0 zg0))) zc0)))
   (zd0 (zf4 (zv0 (zx1 (K:=K) rfl (Room.units hr)) (zu0 zh1 (zq0 jN (rmn hr) rfl (za0 (pv 0) (za0 zc0 zg0))) zc0) zc0 (zd1 _)) (zi0 (pset 1 nd zc0)) zx0)
   (zd0 (pset 2 nd (zj1 zg0))
   (zd0 (zqh PassesOwn.never rfl (zv7 rfl kR (za0 (pv 1) zg0)) (pgn 3 nd) (zd0 (pset 4 nd (zq0 qA (rmn hr) rfl (za0 (zq0 jN (rmn hr) rfl (za0 (pv 0) (za0 (zu0 (za1 (K:=K) rfl) zc0 (zu0 zt2 zc0 (pv 3))) zg0))) zg0)))
   (zd0 (pset 5 nd (zq0 jN (rmn hr) rfl (za0 (pv 0) (za0 (zu0 (za1 (K:=K) rfl) zc0 (zu0 zt2 zc0 (pv 3))) zg0))))
   (zd0 (zf4 (zv0 (zx1 (K:=K) rfl (Room.units hr)) (zu0 zh1 (pv 5) zc0) zc0 (zd1 _)) (zi0 (pset 5 nd (pv 4))) zx0)
   (zi0 (zl8 (zde (K:=K) rfl ğa ğb ğc zh4 (pv 2) (za0 (zz4 (za0 (zq0 uU (rmn hr) rfl (za0 (zq0 jN (rmn hr) rfl (za0 (pv 0) (za0 zc0 zg0))) (za0 (pv 3) zg0))) (za0 (pv 4) (za0 (zu0 zh1 (pv 5) (zu0 (za1 (K:=K) rfl) (pv 4) zc0)) zg0)))) zg0))))))))
   (zd0 (pset 6 nd (zu0 zh1 (zq0 jN (rmn hr) rfl (za0 (pv 0) (za0 zc0 zg0))) zc0))
   (zd0 (zf4 (zv0 (zx1 (K:=K) rfl (Room.units hr)) (zu0 zh1 (zu0 zc1 (zq0 jN (rmn hr) rfl (za0 (pv 0) (za0 zc0 zg0))) zc0) zc0) zc0 (zd1 _)) (zi0 (pset 6 nd zc0)) zx0)
   (zd0 (zf4 (zv0 (zx1 (K:=K) rfl (Room.units hr)) (pv 1) zc0 (zd1 _)) (zi0 (pset 6 nd zc0)) zx0)
   (zi0 (ze1 (zz4 (za0 (pv 2) (za0 (zb7 (sc:=zh0 zu9) (N:=["script", "many", "vats", "k", "room", "fill", "count"]) (own:=["k"]) (ix:=[0,1]) rfl rfl rfl (by walk_at"csc") (zv7 rfl kR (za0 (pv 6) zg0)) (λ_ _ _ _=>⟨(pgn 0 (nds ["k", "script", "many"])),zea,(zq0 uV (rmn hr) rfl (za0 (pv 1) (za0 (pv 0) (za0 (pv 2) zg0))))⟩)) zg0)))))))))))),(zo0 (zi1 (zk0 zf6 rvi (RfE.v (zk0 zg4 (RfE.v (zn1 (ze0 (zn0 0) (ze0 zr0 zs0)))) rvi))) (rgn 1))
   (zo0 (zy6 (zt0 (zm1 q_eq (RfV.h (RfE.v (zk0 zg4 (RfE.v (zn1 (ze0 (zn0 0) (ze0 zr0 zs0)))) rvi))) (RfV.h rvi))) (zi1 zr0 (rgn 1)) zy0)
   (zo0 (zaa (RfF.c (zo6 zs0)))
   (zo0 (zqg (zcf (ze0 (zn0 1) zs0)) (rgn 3) (zo0 (zi1 (zn1 (ze0 (zn1 (ze0 (zn0 0) (ze0 (zk0 zf6 rvi (RfE.v (zk0 zlj rvi (zb0 3)))) zs0))) zs0)) (rgn 4))
   (zo0 (zi1 (zn1 (ze0 (zn0 0) (ze0 (zk0 zf6 rvi (RfE.v (zk0 zlj rvi (zb0 3)))) zs0))) (rgn 5))
   (zo0 (zy6 (zt0 (zm1 q_eq (RfV.h (RfE.v (zk0 zg4 (zb0 5) rvi))) (RfV.h rvi))) (zi1 (zn0 4) (rgn 5)) zy0)
   (zfa (zrw zmi (zl0 2) (ze0 (zrc (ze0 (zn1 (ze0 (zn1 (ze0 (zn0 0) (ze0 zr0 zs0))) (ze0 (zn0 3) zs0))) (ze0 (zn0 4) (ze0 (zk0 zg4 (zb0 5) (RfE.v (zk0 zf6 (zb0 4) rvi))) zs0)))) zs0)))))))
   (zo0 (zi1 (zk0 zg4 (RfE.v (zn1 (ze0 (zn0 0) (ze0 zr0 zs0)))) rvi) (rgn 6))
   (zo0 (zy6 (zt0 (zm1 q_eq (RfV.h (RfE.v (zk0 zg4 (RfE.v (zk0 zac (RfE.v (zn1 (ze0 (zn0 0) (ze0 zr0 zs0)))) rvi)) rvi))) (RfV.h rvi))) (zi1 zr0 (rgn 6)) zy0)
   (zo0 (zy6 (zt0 (zm1 q_eq (RfV.h (zb0 1)) (RfV.h rvi))) (zi1 zr0 (rgn 6)) zy0)
   (zxr 2 [] (zf1 (RfE.c (zrc (ze0 (zn0 2) (ze0 (RfF.e (zp8 (RfI.j (zcf (ze0 (zn0 6) zs0))) (zt3 (i:=0) (n:=1) (by decide)) zwc (zn1 (ze0 (zn0 1) (ze0 (zn0 0) (ze0 (zn0 2) zs0)))))) zs0))))))))))))),?_⟩
 rintro ds Qd ⟨ns,rfl,q⟩;walk_at"ds";walk_at"a";refine⟨ns,0,rfl,by lia,λm m0 m1=>?_⟩;walk_at"dd";walk_at"f";refine zr1 (λU=>∃n:Nat,1<=n/\n<=12/\U=[.sh (.list (ns.map .int)),.sh (.int (n:Int)),.un,.un,.un,.un,.un]) ?_ ?_
 ·walk_at"dd";refine⟨ns,1,rfl,by lia,λm' m0' m1'=>?_⟩;walk_at"dd";refine two (λ_=>⟨12,by lia,by lia,rfl⟩) λ_=>⟨(1+m % 4).toNat,by lia,by lia,?_⟩
  rw[show((1+m % 4).toNat:Int)=1+m % 4 by lia]
 rintro U ⟨n,n1,n2,rfl⟩;walk_at"dn";walk_at"a";refine⟨by lia,by lia,?_⟩;rw[wH];unfold rngD;refine zkb (λi U=>∃(vs:List Va)(s3 s4 s5:Sl),vs.length=i/\(∀v∈vs,0<=v.fill/\v.fill<=v.room/\v.room<=1000000000000/\v.nm.cps.all (· < 0x110000)=true)/\U=[.sh (.list (ns.map .int)),.sh (.int (n:Int)),.ow (.li (vs.map Va.d)),s3,s4,s5,.un]) ⟨[],.un,.un,.un,rfl,by simp,rfl⟩ ?_ ?_
 ·rintro i x U hx ⟨vs,s3,s4,s5,hl,hv,rfl⟩;obtain⟨h1,h2⟩:=wR.mp hx;simp at h1 h2;subst h2;rw[show(0:Int)+(i:Int)=(i:Int) by lia];walk_at"dd";walk_at"a";refine⟨.inl ⟨by decide,by decide⟩,ns,10+2 * i,by congr 2,by lia,λa a0 a1=>⟨a,rfl,a0,λr r0 r1=>hJ _ ?_⟩⟩;walk_at"c";refine⟨.inl ⟨by decide,by decide⟩,ns,11+2 * i,by congr 2,by lia,λb b0 b1=>hJ _ ?_⟩;clear hJ;refine zr1 (λU=>∃f:Int,0<=f/\U=[.sh (.list (ns.map .int)),.sh (.int (n:Int)),.ow (.li (vs.map Va.d)),.sh (.int (i:Int)),.sh (.int r),.sh (.int f),.un]) ?_ ?_
  ·walk_at"dd";exact two (λ_=>⟨r,r0,rfl⟩) λ_=>⟨b,b0,rfl⟩
  rintro U ⟨f,f0,rfl⟩;walk_at"dd";refine⟨ns,9,rfl,by lia,λc c0 c1=>⟨c,i,rfl,c0,by lia,λx fx=>⟨by lia,by rw[u4];lia,vs++[⟨x,r,f % (r+1)⟩],.sh (.int (i:Int)),.sh (.int r),.sh (.int f),by simp[hl],λv hv'=>?_,?_⟩⟩⟩
  ·rcases u6.mp hv' with z|z
   ·exact hv v z
   ·simp at z;subst z;have e1:=xY f (b:=r+1) (by lia);have e2:=yH f (b:=r+1) (by lia);exact⟨e1,by show f % (r+1)<=r;lia,r1,fx⟩
  ·rw[yF];rfl
 ·rintro U ⟨vs,s3,s4,s5,hl,hv,rfl⟩;rw[yI]at hl;walk_at"b";refine⟨ns,2,rfl,by lia,λc c0 c1=>?_⟩;walk_at"dd";walk_at"f";refine zr1 (λU=>∃k:Nat,k<=24/\U=[.sh (.list (ns.map .int)),.sh (.int (n:Int)),.ow (.li (vs.map Va.d)),s3,s4,s5,.sh (.int (k:Int))]) ?_ ?_
  ·walk_at"dd";refine⟨ns,1,rfl,by lia,λm' m0' m1'=>?_⟩;walk_at"dd";refine two (λ_=>⟨24,by lia,rfl⟩) λ_=>⟨(c % 7).toNat,by lia,?_⟩
   rw[show((c % 7).toNat:Int)=c % 7 by lia]
  rintro U ⟨k,k1,rfl⟩;refine zr1 (λU=>∃k:Nat,k<=24/\(k=0 \/ 2<=n)/\U=[.sh (.list (ns.map .int)),.sh (.int (n:Int)),.ow (.li (vs.map Va.d)),s3,s4,s5,.sh (.int (k:Int))]) ?_ ?_
  ·walk_at"dd";exact two (λ_=>⟨0,by lia,.inl rfl,rfl⟩) λ_=>⟨k,k1,.inr (by lia),rfl⟩
  rintro U ⟨k,k1,k2,rfl⟩;walk_at"dd";refine⟨_,_,rfl,rfl,by lia,by lia,?_⟩;rw[wH];unfold rngD;refine zjf1 (λp:Pi=>p.u < n/\p.v < n/\1<=p.len/\p.g.okk) Pi.d (by rw[sizeLine_eq,yI];lia) (λx hx=>?_) λps hp1 hp2=>q vs ps ⟨by lia,by lia,by rw[hp1,yI];exact k1,hv,λp hp=>by rw[hl];exact hp2 p hp⟩;simp at hx;rw[show(0:Int)+(x:Int)=(x:Int) by lia];walk_at"cs";walk_at"dd";exact⟨ns,x,n,rfl,by lia,by lia,n2,λp h1 h2 h3 h4=>⟨p,⟨h1,h2,h3,h4⟩,rfl⟩⟩
end
noncomputable def rwT(m:Nat)(ly left:List Int)(W:List Le):_4.T:=.ls [.fz (.int (m:Int)),.li (ly.map .int),.li (left.map .int),.fz (.list (W.map Le.d))]
noncomputable def zsn(ps:List Pi)(m:Nat):List Int:=ps.map λp=>p.g.at m
theorem zmt{ps:List Pi}(h:i < ps.length):(zsn ps m).getD i 0=zzb ps i m:=by
 unfold zsn zzb;rw[v7,wD]
theorem ga(h:List Int)(v:Nat)(hv:v < h.length):atI (h.map wK) ((v:Nat):Int)=some (.int (h.getD v 0)):=zjf (by lia) (by rw[wH,wD,v7,u8 hv];rfl)
theorem gm{α:Type}{l:List α}(f:α->D){x:α}(h:l[i]?=some x):atI (l.map f) ((i:Nat):Int)=some (f x):=zjf (by lia) (by rw[wH,wD,h];rfl)
theorem zg31(vs:List Va)(ly:List Int):(w9 vs.length).filterMap (λk=>if((vs[k]?).map Va.room).getD 0 < ly.getD k 0 then some (wK (k:Int))else none)=(over (vs.map Va.room) ly).map λk:Nat=>wK (k:Int):=by
 unfold over;rw[k9];have e:((vs.map Va.room).mapIdx λi r=>(i,r))=(w9 vs.length).map λk=>(k,((vs[k]?).map Va.room).getD 0):=by
  refine yY (by simp) λi h1 h2=>?_;simp at h2;simp[h2]
 rw[e,j3];congr 1;funext k;simp only[Function.comp];split <;> rfl
noncomputable def zyf:DSpT:=λas Q=>∃(vs:List Va)(ps:List Pi),as=[.d (zcb vs ps)]/\Yd vs ps/\Q (rwT 0 (vs.map Va.fill) (zsn ps 0) []) (.fz .none)
noncomputable def zk7:DSpT:=λas Q=>∃(vs:List Va)(ps:List Pi)(m:Nat)(ly left:List Int)(W:List Le),as=[.d (zcb vs ps),.b (rwT m ly left W)]/\vs.length<=12/\ly.length=vs.length/\Q (.fz (.list ((over (vs.map Va.room) ly).map λk:Nat=>wK (k:Int)))) (.fz .none)
noncomputable def zkj:Option (Int×Int)->D
|none=>.list []
|some (k,am)=>.list [.int k,.int am]
noncomputable def dueN(vs:List Va)(ps:List Pi)(ly left:List Int):Option (Int×Int)->Int
|none=>if over (vs.map Va.room) ly=[]then -1 else 4
|some (k,am)=>if dueF ps.length k am (left.getD k.toNat 0) (ly.getD (zt1 ps k.toNat) 0)=4 then -1 else dueF ps.length k am (left.getD k.toNat 0) (ly.getD (zt1 ps k.toNat) 0)
noncomputable def zzm:DSpT:=λas Q=>∃(vs:List Va)(ps:List Pi)(m:Nat)(ly left:List Int)(W:List Le)(dd:Option (Int×Int)),as=[.d (zcb vs ps),.b (rwT m ly left W),.d (zkj dd)]/\Yd vs ps/\ly.length=vs.length/\left.length=ps.length/\Q (.fz (.int (dueN vs ps ly left dd))) (.fz .none)
section
variable {P:Program}{w:World}{K:Fg}{mg:Str->Option Value}{base:Heap}
theorem zyc:FnScope ["yard", "left"] ["yard"] (zh0 zc5):=by walk_at"sc"
theorem zhi(M:Md K mg)(T:TopDef K "_law_begin" zc5)(qB:Def P w K mg base "_law_width" 1 ["gate", "now"] (spD K zcc)):Def P w K mg base "_law_begin" 2 ["yard"] (spT K zyf):=by
 refine zb8 M T zyc (by walk_at"h") (zof λas Qd h=>by obtain⟨_,_,rfl,_⟩:=h;rfl) (zj6 ?_);walk_at"g";have nd:=zyc.nd;refine⟨_,_,(zd0 (zwr (i:=1) (sc:=zh0 zc5) (N:=["yard", "left"]) (own:=["pipe"]) (ix:=[]) rfl rfl rfl (by walk_at"csc") nd rfl rfl (pi_W (K:=K) rfl (pix w K hr (pv 0) zc0)) (λ_ _ _ _=>⟨(pgn 0 (nds ["pipe"])),zea,(zq0 qB (rmn hr) rfl (za0 (pix w K hr (pv 0) zc0) (za0 zc0 zg0)))⟩))
   (zi0 (ze1 (zj1 (za0 zc0 (za0 (zb7 (sc:=zh0 zc5) (N:=["yard", "left"]) (own:=["vat"]) (ix:=[]) rfl rfl rfl (by walk_at"csc") (pi_W (K:=K) rfl (pix w K hr (pv 0) zc0)) (λ_ _ _ _=>⟨(pgn 0 (nds ["vat"])),zea,(pix w K hr (pv 0) zc0)⟩)) (za0 (pv 1) (za0 (zj1 zg0) zg0)))))))),(zo0 (zaa (RfF.c (zp8 (ziy (RfE.v (zk0 r_ix (zb0 0) rvi))) (zt3 (i:=0) (n:=1) (by decide)) zwc (zn1 (ze0 (zk0 r_ix (zb0 0) rvi) (ze0 zr0 zs0))))))
   (zux (i:=1) zr0 (RfF.new (zp8 (ziy (RfE.v (zk0 r_ix (zb0 0) rvi))) (zt3 (i:=0) (n:=1) (by decide)) zwc (zk0 r_ix (zb0 0) rvi))) (RfF.e (zo6 zs0)))),?_⟩
 rintro as Qd a ⟨vs,ps,rfl,Yv,q⟩;have h12:=Yv.v12;have h24:=Yv.p24;walk_at"ds";walk_at"a";walk_at"k";refine zq11 (λp=>.int (p.g.at 0)) (by rw[sizeLine_eq];lia) (λp hp=>?_) (hJ _ ?_)
 ·unfold Pi.d;walk_at"cs";walk_at"dd";refine⟨_,rfl,p.g,0,rfl,(Yv.pu p hp).2.2.2.1,?_⟩;walk_at"dd"
 clear hJ;walk_at"dd";refine⟨_,rfl,_,rfl,?_⟩;walk_at"dd";refine zq11 (λv=>.int v.fill) (by rw[sizeLine_eq];lia) (λv _=>?_) ?_
 ·unfold Va.d;walk_at"cs";walk_at"dd";exact⟨_,rfl,rfl⟩
 unfold rwT zsn at q;rw[wZ,wZ]at q;exact q
theorem zc9:FnScope ["yard", "rows"] ["yard", "rows"] (zh0 zf3):=by walk_at"sc"
theorem zre(M:Md K mg)(T:TopDef K "_law_too_full" zf3)(jT:mg "len"=none)(kR:mg "range"=none):Def P w K mg base "_law_too_full" 1 ["yard", "rows"] (spT K zk7):=by
 refine zb8 M T zc9 (by walk_at"h") (zof λas Qd h=>by obtain⟨_,_,_,_,_,_,rfl,_⟩:=h;rfl) (zj6 ?_);walk_at"g";have nd:=zc9.nd;refine⟨_,_,(zi0 (ze1 (zb7 (sc:=zh0 zf3) (N:=["yard", "rows"]) (own:=["k"]) (ix:=[1,0]) rfl rfl rfl (by walk_at"csc") (zv7 rfl kR (za0 (zb1 (zw1 (K:=K) rfl) rfl jT zjc (za0 (pix w K hr (pv 0) zc0) zg0)) zg0)) (λ_ _ _ _=>⟨(pgn 0 (nds ["k", "rows", "yard"])),(zfn (zv0 zp21 (pix w K hr (pix w K hr (pv 1) zc0) (pv 0)) (pix w K hr (pix w K hr (pix w K hr (pv 2) zc0) (pv 0)) zc0) (zd1 _))),(pv 0)⟩)))),(zf1 (RfE.c (RfF.e (zp8 (RfI.j (zcf (ze0 (zth zqn (zz0 (RfE.v (zk0 r_ix (zb0 0) rvi)) zs1)) zs0))) (zt3 (i:=0) (n:=1) (by decide)) (zt0 (zk0 r_gt (RfE.v (zk0 r_ix (RfP.v (za7 (zl0 1) zr0)) (zb0 0))) (RfE.v (zk0 r_ix (RfE.v (zk0 r_ix (RfE.v (zk0 r_ix (zb0 2) rvi)) (zb0 0))) rvi)))) (zn0 0))))),?_⟩;rintro as Qd a ⟨vs,ps,m,ly,left,W,rfl,h12,hl,q⟩;unfold rwT;walk_at"ds";walk_at"dd";walk_at"k";rw[u4,wH];refine⟨by lia,by lia,?_⟩;unfold rngD;refine za31 (λk=>if((vs[k]?).map Va.room).getD 0 < ly.getD k 0 then some (wK (k:Int))else none) (by rw[sizeLine_eq,yI];lia) (λk hk=>?_) ?_
 ·have hk:=x9.mp hk;rw[show(0:Int)+(k:Int)=(k:Int) by lia];have g1:=ga ly k (by lia);obtain⟨v,hv⟩:∃v,vs[k]?=some v:=⟨_,u8 hk⟩
  have g2:=gm Va.d hv;rw[hv];show _;unfold zcb;walk_at"cs";walk_at"dd";refine⟨1,_,rfl,rfl,?_⟩;walk_at"dd";refine⟨_,g1,_,rfl,?_⟩;walk_at"dd";refine⟨_,g2,?_⟩;unfold Va.d;walk_at"dd";walk_at"k";exact two (λz=>(if_pos (c:=v.room < ly.getD k 0) z).symm) λz=>(if_neg (c:=v.room < ly.getD k 0) z).symm
 ·rw[zg31];exact q
theorem zog:FnScope ["yard", "rows", "deed"] ["yard", "rows", "deed"] (zh0 zud):=by walk_at"sc"
theorem zmn(M:Md K mg)(T:TopDef K "_law_due" zud)(vQ:mg "int"=none)(jT:mg "len"=none)(kJ:Def P w K mg base "_law_too_full" 1 ["yard", "rows"] (spT K zk7)):Def P w K mg base "_law_due" 2 ["yard", "rows", "deed"] (spT K zzm):=by
 refine zb8 M T zog (by walk_at"h") (zof λas Qd h=>by obtain⟨_,_,_,_,_,_,_,rfl,_⟩:=h;rfl) (zj6 ?_);walk_at"g";have nd:=zog.nd;refine⟨_,_,(zd0 (zf4 (zv0 (zx1 (K:=K) rfl (Room.units hr)) (pv 2) (zj1 zg0) (zd1 _)) (zi0 (ze1 (pix w K hr (zj1 (za0 (zke1 zj61 zc0) (za0 zc0 zg0))) (zp2 zpm rfl vQ zx01 (za0 (zkg (zwj (K:=K) rfl (Room.units hr)) (zq0 kJ (rmn hr) rfl (za0 (pv 0) (za0 (pv 1) zg0))) (zj1 zg0) (zd1 _)) zg0))))) zx0)
   (zd0 (zf4 (PW.pt (zp81 (zv0 zyt (pix w K hr (pv 2) zc0) zc0 (zd1 _)) (zbu (zv0 zyc1 (pix w K hr (pv 2) zc0) (zb1 (zw1 (K:=K) rfl) rfl jT zjc (za0 (pix w K hr (pv 0) zc0) zg0)) (zd1 _))))) (zi0 (ze1 zc0)) zx0)
   (zd0 (zf4 (zv0 zyt (pix w K hr (pv 2) zc0) zc0 (zd1 _)) (zi0 (ze1 zc0)) zx0)
   (zd0 (zf4 (zv0 zp21 (pix w K hr (pv 2) zc0) (pix w K hr (pix w K hr (pv 1) zc0) (pix w K hr (pv 2) zc0)) (zd1 _)) (zi0 (ze1 zc0)) zx0)
   (zi0 (ze1 (pix w K hr (zj1 (za0 (zke1 zj61 zc0) (za0 zc0 zg0))) (zp2 zpm rfl vQ zx01 (za0 (zkg zp21 (pix w K hr (pv 2) zc0) (pix w K hr (pix w K hr (pv 1) zc0) (pix w K hr (pix w K hr (pix w K hr (pv 0) zc0) (pix w K hr (pv 2) zc0)) zc0)) (zd1 _)) zg0))))))))),(zo0 (zy6 (zt0 (zm1 q_eq (RfV.h (zb0 2)) (zwn zxn))) (zf1 (RfE.c (zk0 r_ix (RfE.v (RfF.e (zo6 (ze0 (zv31 zr0) (ze0 zr0 zs0))))) (RfE.v (zth zff1 (zz0 (RfE.v (zm1 q_ne (RfV.h (RfE.v (RfN.ex (zli (at_d (zn0 0) (at_b (zl0 1) zd3)))))) (zwn zxn))) zs1)))))) zy0)
   (zo0 (zy6 (zo81 (zt0 (zk0 r_lt (RfE.v (zk0 r_ix (zb0 2) rvi)) rvi)) (zt0 (zk0 r_ge (RfE.v (zk0 r_ix (zb0 2) rvi)) (RfE.v (zth zqn (zz0 (RfE.v (zk0 r_ix (zb0 0) rvi)) zs1)))))) (zf1 (RfE.c zr0)) zy0)
   (zo0 (zy6 (zt0 (zk0 r_lt (RfE.v (zk0 r_ix (zb0 2) rvi)) rvi)) (zf1 (RfE.c zr0)) zy0)
   (zo0 (zy6 (zt0 (zk0 r_gt (RfE.v (zk0 r_ix (zb0 2) rvi)) (RfE.v (zk0 r_ix (RfP.v (za7 (zl0 1) zr0)) (RfE.v (zk0 r_ix (zb0 2) rvi)))))) (zf1 (RfE.c zr0)) zy0)
   (zf1 (RfE.c (zk0 r_ix (RfE.v (RfF.e (zo6 (ze0 (zv31 zr0) (ze0 zr0 zs0))))) (RfE.v (zth zff1 (zz0 (RfE.v (zk0 r_gt (RfE.v (zk0 r_ix (zb0 2) rvi)) (RfE.v (zk0 r_ix (RfP.v (za7 (zl0 1) zr0)) (RfE.v (zk0 r_ix (RfE.v (zk0 r_ix (RfE.v (zk0 r_ix (zb0 0) rvi)) (RfE.v (zk0 r_ix (zb0 2) rvi)))) rvi)))))) zs1)))))))))),?_⟩
 rintro as Qd a ⟨vs,ps,m,ly,left,W,dd,rfl,Yv,hl,hlf,q⟩;unfold rwT;cases dd with
|none =>
  unfold zkj;walk_at"ds";walk_at"a";refine⟨rfl,rfl,?_⟩;rw[show xE (.list []) (.list [])=true from rfl,if_pos rfl];refine⟨vs,ps,m,ly,left,W,rfl,Yv.v12,hl,?_⟩;walk_at"dd";have fw:Fit 1 (.list ((over (vs.map Va.room) ly).map λk:Nat=>wK (k:Int))):=zio λr _=>Fit.int _;rw[zy41,List.isEmpty_map];refine⟨fw.shaped (by decide),rfl,?_⟩;unfold dueN at q;by_cases z:over (vs.map Va.room) ly=[]
  ·rw[if_pos z]at q;rw[z];exact⟨_,rfl,q⟩
  ·rw[if_neg z]at q;rw[if_pos (by simpa using z)];exact⟨_,rfl,q⟩
|some x =>
  obtain⟨k,am⟩:=x;unfold zkj;have qe:∀n:Nat,dueF ps.length k am (left.getD k.toNat 0) (ly.getD (zt1 ps k.toNat) 0)=n->Qd (.fz (.int (if n=4 then -1 else(n:Int)))) (.fz .none):=λn e=>by
   have q:Qd (.fz (.int (if dueF ps.length k am (left.getD k.toNat 0) (ly.getD (zt1 ps k.toNat) 0)=4 then -1 else((dueF ps.length k am (left.getD k.toNat 0) (ly.getD (zt1 ps k.toNat) 0):Nat):Int)))) (.fz .none):=q;rw[e]at q;exact q
  unfold dueF at qe;walk_at"ds";walk_at"a";refine⟨rfl,rfl,?_⟩;rw[show xE (.list [.int k,.int am]) (.list [])=false from rfl,if_neg wF];walk_at"b";walk_at"k";refine two (λz=>qe 0 (if_pos (.inl z))) λz=>⟨_,rfl,_,rfl,?_⟩
  walk_at"dd";rw[u4];refine two (λz2=>qe 0 (if_pos (.inr z2))) λz2=>hJ _ ?_;clear hJ;obtain⟨j,rfl⟩:=xX (show 0<=k by lia);have hj:j < ps.length:=by lia
  rw[if_neg (by lia),wH]at qe;obtain⟨p,hp⟩:∃p,ps[j]?=some p:=⟨_,u8 hj⟩
  have pu:=(Yv.pu p (wT hp)).1;have es:zt1 ps j=p.u:=by unfold zt1;rw[hp];rfl
  rw[es]at qe;walk_at"a";walk_at"k";refine two (λz3=>qe 1 (if_pos z3)) λz3=>hJ _ ?_;clear hJ;rw[if_neg z3]at qe;walk_at"a";refine⟨_,rfl,2,_,rfl,rfl,?_⟩;walk_at"dd";walk_at"k";refine⟨_,ga left j (by lia),?_⟩;walk_at"dd";refine two (λz4=>qe 2 (if_pos z4)) λz4=>hJ _ ?_;clear hJ;rw[if_neg z4]at qe;walk_at"dd";refine⟨_,rfl,1,_,rfl,rfl,?_⟩;walk_at"dd";refine⟨_,rfl,_,rfl,?_⟩;walk_at"dd";refine⟨_,gm Pi.d hp,?_⟩;unfold Pi.d;walk_at"dd";walk_at"k";refine⟨_,ga ly p.u (by lia),?_⟩;walk_at"dd";by_cases z5:ly.getD p.u 0 < am
  ·rw[if_pos (by simpa using z5)];exact⟨_,rfl,qe 3 (if_pos z5)⟩
  ·rw[if_neg (by simpa using z5)];exact⟨_,rfl,qe 4 (if_neg z5)⟩
end
noncomputable def zad:DSpT:=λas Q=>∃(vs:List Va)(ps:List Pi)(m:Nat)(ly left:List Int)(W:List Le),as=[.d (zcb vs ps),.o (rwT m ly left W)]/\Yd vs ps/\ly.length=vs.length/\(∀l∈W,l.at_ < ps.length)/\W.length<=1000 /\
 Q (.fz (.int ((m+1:Nat):Int))) (rwT (m+1) (zlf ps (m+1) W ly) (zsn ps (m+1)) (ze7 (m+1) W))
noncomputable def zwd:DSpT:=λas Q=>∃(vs:List Va)(ps:List Pi)(m:Nat)(ly left:List Int)(W:List Le)(j:Nat)(am:Int),as=[.d (zcb vs ps),.o (rwT m ly left W),.d (.int (j:Int)),.d (.int am)]/\Yd vs ps/\ly.length=vs.length/\left.length=ps.length/\j < ps.length/\W.length < 63 /\
 ∀W':List Le,W'.Perm (zfg (m+pl ps j) j W++[⟨m+pl ps j,j,am+sL W (λx=>if x.at_=j/\x.t=m+pl ps j then x.am else 0)⟩])->(W'.map rowL).Pairwise (λa b=>lexB b a=false) ->
  Q (.fz (.int (ly.getD (zt1 ps j) 0 - am))) (rwT m (ly.set (zt1 ps j) (ly.getD (zt1 ps j) 0 - am)) (left.set j (left.getD j 0 - am)) W')
theorem zmd{α:Type}{l:List α}{x:α}(h:l[i]?=some x):l.take (i+1)=l.take i++[x]:=by
 rw[List.take_add_one,h];rfl
theorem zhp(t:Nat)(W:List Le)(x:Le):ze7 t (W++[x])=if x.t=t then ze7 t W else ze7 t W++[x]:=by
 unfold ze7;rw[uaN];by_cases e:x.t=t
 ·rw[if_pos e,yG (by simpa using e)];simp
 ·rw[if_neg e,xW (by simpa using e)];rfl
theorem zwu(t j:Nat)(W:List Le)(x:Le):zfg t j (W++[x])=if x.t=t/\x.at_=j then zfg t j W else zfg t j W++[x]:=by
 unfold zfg;rw[uaN];by_cases e:x.t=t/\x.at_=j
 ·rw[if_pos e,yG (by simpa using e)];simp
 ·rw[if_neg e,xW (p:=λl:Le=>decide ¬(l.t=t/\l.at_=j)) (decide_eq_true e)];rfl
section
variable {P:Program}{w:World}{K:Fg}{mg:Str->Option Value}{base:Heap}
theorem zia:FnScope ["yard", "rows", "later", "comes", "at", "amount"] ["yard", "rows"] (zh0 zm4):=by walk_at"sc"
theorem zif(M:Md K mg)(T:TopDef K "_law_gone_on" zm4)(qB:Def P w K mg base "_law_width" 1 ["gate", "now"] (spD K zcc)):Def P w K mg base "_law_gone_on" 2 ["yard", "rows"] (spT K zad):=by
 refine zb8 M T zia (by walk_at"h") (zof λas Qd h=>by obtain⟨_,_,_,_,_,_,rfl,_⟩:=h;rfl) (zj6 ?_);walk_at"g";have nd:=zia.nd;refine⟨_,_,(zd0 (zxh (zu0 (za1 (K:=K) rfl) (pix w K hr (pv 1) zc0) zc0) (zei (pv 1) zc0 (zjo (Room.units hr))))
   (zd0 (zxh (zb7 (sc:=zh0 zm4) (N:=["yard", "rows", "later", "comes", "at", "amount"]) (own:=["pipe"]) (ix:=[1]) rfl rfl rfl (by walk_at"csc") (pi_W (K:=K) rfl (pix w K hr (pv 0) zc0)) (λ_ _ _ _=>⟨(pgn 0 (nds ["pipe", "rows"])),zea,(zq0 qB (rmn hr) rfl (za0 (pix w K hr (pv 0) zc0) (za0 (pix w K hr (pv 1) zc0) zg0)))⟩)) (zei (pv 1) zc0 (zjo (Room.units hr))))
   (zd0 (pset 2 nd (zj1 zg0))
   (zd0 (zqh PassesOwn.never rfl (pi_W (K:=K) rfl (pix w K hr (pv 1) zc0)) (zte (K:=K) (n:=3) rfl rfl (ze2 (pgn 3 nd) (ze2 (pgn 4 nd) (ze2 (pgn 5 nd) zwe)))) (zi0 (zf4 (zv0 (zx1 (K:=K) rfl (Room.units hr)) (pv 3) (pix w K hr (pv 1) zc0) (zd1 _)) (zi0 (zxh (zu0 (za1 (K:=K) rfl) (pix w K hr (pix w K hr (pv 1) zc0) (pix w K hr (pix w K hr (pix w K hr (pv 0) zc0) (pv 4)) zc0)) (pv 5)) (zei (pix w K hr (pv 1) zc0) (pix w K hr (pix w K hr (pix w K hr (pv 0) zc0) (pv 4)) zc0) (zjo (Room.units hr))))) (zi0 (zl8 (zde (K:=K) rfl ğa ğb ğc zh4 (pv 2) (za0 (zz4 (za0 (pv 3) (za0 (pv 4) (za0 (pv 5) zg0)))) zg0)))))))
   (zd0 (zxh (pv 2) (zei (pv 1) zc0 (zjo (Room.units hr))))
   (zi0 (ze1 (pix w K hr (pv 1) zc0)))))))),(zo0 (zsm (RfE.c (zk0 zf6 (RfP.v (za7 (zl0 1) zr0)) rvi)) (zl0 1) zr0)
   (zo0 (zsm (RfF.c (zp8 (ziy (RfE.v (zk0 r_ix (zb0 0) rvi))) (zt3 (i:=0) (n:=1) (by decide)) zwc (zn1 (ze0 (zk0 r_ix (zb0 0) rvi) (ze0 (RfP.e (za7 (zl0 1) zr0)) zs0))))) (zl0 1) zr0)
   (zo0 (zaa (RfF.c (zo6 zs0)))
   (zo0 (zqg (za91 (RfP.e (za7 (zl0 1) zr0))) (zpn (zc3 (rgn 3) (zc3 (rgn 4) (zc3 (rgn 5) zwf)))) (zy6 (zt0 (zm1 q_eq (RfV.h (zb0 3)) (RfV.h (RfP.v (za7 (zl0 1) zr0))))) (zru (zk0 zf6 (RfE.v (zk0 r_ix (RfP.v (za7 (zl0 1) zr0)) (RfE.v (zk0 r_ix (RfE.v (zk0 r_ix (RfE.v (zk0 r_ix (zb0 0) rvi)) (zb0 4))) rvi)))) (zb0 5)) (za7 (zl0 1) zr0) (zk0 r_ix (RfE.v (zk0 r_ix (RfE.v (zk0 r_ix (zb0 0) rvi)) (zb0 4))) rvi)) (zfa (zrw zmi (zl0 2) (ze0 (zrc (ze0 (zn0 3) (ze0 (zn0 4) (ze0 (zn0 5) zs0)))) zs0)))))
   (zo0 (zxr 2 [] (zsm (RfE.c (zn0 2)) (zl0 1) zr0))
   (zf1 (RfE.c (RfP.e (za7 (zl0 1) zr0))))))))),?_⟩
 rintro as Qd a ⟨vs,ps,m,ly,left,W,rfl,Yv,hl,hw,h1000,q⟩;have h12:=Yv.v12;have h24:=Yv.p24;unfold rwT at q ⊢;walk_at"ds";walk_at"a";refine⟨0,_,rfl,rfl,?_⟩;walk_at"dd";refine⟨0,rfl,hJ _ ?_⟩;clear hJ;rw[show(m:Int)+1=((m+1:Nat):Int) by lia];generalize m+1=n at q ⊢;walk_at"a";walk_at"k";refine zq11 (λp=>.int (p.g.at n)) (by rw[sizeLine_eq];lia) (λp hp=>?_) ⟨2,rfl,hJ _ ?_⟩
 ·unfold Pi.d;walk_at"cs";walk_at"dd";refine⟨_,rfl,0,_,rfl,rfl,?_⟩;walk_at"dd";exact⟨p.g,n,rfl,(Yv.pu p hp).2.2.2.1,rfl⟩
 clear hJ;walk_at"dn";have ew:ps.map (λp=>wK (p.g.at n))=(zsn ps n).map .int:=by unfold zsn;rw[wZ];rfl
 rw[ew];walk_at"a";refine⟨3,_,rfl,rfl,?_⟩;walk_at"dd";refine zkb (λi U=>∃s3 s4 s5:Sl,U=[.sh (zcb vs ps),.io a (.ls [.fz (.int (n:Int)),.li ((zlf ps n (W.take i) ly).map .int),.li ((zsn ps n).map .int),.fz (.list (W.map Le.d))]),.ow (.li ((ze7 n (W.take i)).map Le.d)),s3,s4,s5]) ⟨.un,.un,.un,rfl⟩ ?_ ?_
 ·rintro i l U hx ⟨s3,s4,s5,rfl⟩;have hlt:=hw l (wT hx);obtain⟨p,hp⟩:∃p,ps[l.at_]?=some p:=⟨_,u8 hlt⟩
  have pv:=(Yv.pu p (wT hp)).2.1;have eg:zag ps l.at_=p.v:=by unfold zag;rw[hp];rfl
  have hi:i < W.length:=(wR.mp hx).1;have el:(zlf ps n (W.take i) ly).length=vs.length:=by unfold zlf;rw[zmb,hl]
  have e1:zlf ps n (W.take (i+1)) ly=if l.t=n then inc (zlf ps n (W.take i) ly) p.v l.am else zlf ps n (W.take i) ly:=by
   unfold zlf;rw[zmd hx,zcg,eg]
  have e2:ze7 n (W.take (i+1))=if l.t=n then ze7 n (W.take i)else ze7 n (W.take i)++[l]:=by rw[zmd hx,zhp]
  have ll:(ze7 n (W.take i)).length<=W.length:=wP (yX _ _) (by rw[yA];lia);rw[e1,e2];generalize zlf ps n (W.take i) ly=L at el ⊢;generalize ze7 n (W.take i)=M at ll ⊢;generalize W.map Le.d=WD;refine(show ∀d,d=Le.d l->_ from λd ed=>?_) _ rfl;obtain⟨lt,la,lm⟩:=l;subst ed;show _;dsimp only[Le.d]at pv hp hlt eg e1 e2 ⊢;walk_at"dd";refine⟨0,_,rfl,rfl,?_⟩;walk_at"dd";refine two (λz=>?_) λz=>?_
  ·rw[if_pos (by lia),if_pos (by lia)];refine⟨1,_,rfl,rfl,?_⟩;walk_at"dd";walk_at"k";refine⟨_,gm Pi.d hp,?_⟩;unfold Pi.d;walk_at"dd";walk_at"k";refine⟨_,ga L p.v (by lia),?_⟩;walk_at"dd";refine⟨1,_,rfl,rfl,_,rfl,?_⟩;walk_at"dd";refine⟨_,gm _ hp,?_⟩;walk_at"dd";walk_at"k";refine⟨p.v,zjh (by rw[u4];lia),.sh (.int (lt:Int)),.sh (.int (la:Int)),.sh (.int lm),?_⟩;unfold inc;rw[yR]
  ·rw[if_neg (by lia),if_neg (by lia)];refine⟨by rw[u4];lia,.sh (.int (lt:Int)),.sh (.int (la:Int)),.sh (.int lm),?_⟩;rw[yF];rfl
 ·rintro U ⟨s3,s4,s5,rfl⟩;walk_at"f";rw[zH];walk_at"a";refine⟨_,_,rfl,rfl,3,rfl,hJ _ ?_⟩;clear hJ;walk_at"dd";refine⟨0,_,rfl,rfl,?_⟩;walk_at"dd";exact⟨_,rfl,q⟩
theorem zpb:FnScope ["yard", "rows", "at", "amount", "pipe", "more", "others", "one"] ["yard", "rows", "at", "amount"] (zh0 zo9):=by walk_at"sc"
theorem zlh(M:Md K mg)(T:TopDef K "_law_let_in" zo9)(qR:mg "sorted"=none):Def P w K mg base "_law_let_in" 1 ["yard", "rows", "at", "amount"] (spT K zwd):=by
 refine zb8 M T zpb (by walk_at"h") (zof λas Qd h=>by obtain⟨_,_,_,_,_,_,_,_,rfl,_⟩:=h;rfl) (zj6 ?_);walk_at"g";have nd:=zpb.nd;refine⟨_,_,(zd0 (pset 4 nd (pix w K hr (pix w K hr (pv 0) zc0) (pv 2)))
   (zd0 (zxh (zu0 zel (pix w K hr (pix w K hr (pv 1) zc0) (pix w K hr (pv 4) zc0)) (pv 3)) (zei (pix w K hr (pv 1) zc0) (pix w K hr (pv 4) zc0) (zjo (Room.units hr))))
   (zd0 (zxh (zu0 zel (pix w K hr (pix w K hr (pv 1) zc0) (pv 2)) (pv 3)) (zei (pix w K hr (pv 1) zc0) (pv 2) (zjo (Room.units hr))))
   (zd0 (pset 5 nd (pv 3))
   (zd0 (pset 6 nd (zj1 zg0))
   (zd0 (zqh PassesOwn.never rfl (pi_W (K:=K) rfl (pix w K hr (pv 1) zc0)) (pgn 7 nd) (zi0 (zf4 (PW.pt (zvn (zv0 (zx1 (K:=K) rfl (Room.units hr)) (pix w K hr (pv 7) zc0) (zu0 (za1 (K:=K) rfl) (pix w K hr (pv 1) zc0) (pix w K hr (pv 4) zc0)) (zd1 _)) (zvf (zv0 (zx1 (K:=K) rfl (Room.units hr)) (pix w K hr (pv 7) zc0) (pv 2) (zd1 _))))) (zi0 (pset 5 nd (zu0 (za1 (K:=K) rfl) (pv 5) (pix w K hr (pv 7) zc0)))) (zi0 (zl8 (zde (K:=K) rfl ğa ğb ğc zh4 (pv 6) (za0 (pv 7) zg0)))))))
   (zd0 (zxh (zb1 (zej (K:=K) rfl) rfl qR zbn (za0 (zu0 (za1 (K:=K) rfl) (pv 6) (zj1 (za0 (zz4 (za0 (zu0 (za1 (K:=K) rfl) (pix w K hr (pv 1) zc0) (pix w K hr (pv 4) zc0)) (za0 (pv 2) (za0 (pv 5) zg0)))) zg0))) zg0)) (zei (pv 1) zc0 (zjo (Room.units hr))))
   (zi0 (ze1 (pix w K hr (pix w K hr (pv 1) zc0) (pix w K hr (pv 4) zc0))))))))))),(zo0 (zi1 (zk0 r_ix (RfE.v (zk0 r_ix (zb0 0) rvi)) (zb0 2)) (rgn 4))
   (zo0 (zru (zk0 znz (RfE.v (zk0 r_ix (RfP.v (za7 (zl0 1) zr0)) (RfE.v (zk0 r_ix (zb0 4) rvi)))) (zb0 3)) (za7 (zl0 1) zr0) (zk0 r_ix (zb0 4) rvi))
   (zo0 (zru (zk0 znz (RfE.v (zk0 r_ix (RfP.v (za7 (zl0 1) zr0)) (zb0 2))) (zb0 3)) (za7 (zl0 1) zr0) (zn0 2))
   (zo0 (zi1 (zn0 3) (rgn 5))
   (zo0 (zaa (RfF.c (zo6 zs0)))
   (zo0 (zqg (za91 (RfP.e (za7 (zl0 1) zr0))) (rgn 7) (zy6 (zzn (zt0 (zm1 q_eq (RfV.h (RfE.v (zk0 r_ix (zb0 7) rvi))) (RfV.h (RfE.v (zk0 zf6 (RfP.v (za7 (zl0 1) zr0)) (RfE.v (zk0 r_ix (zb0 4) rvi))))))) (zt0 (zm1 q_eq (RfV.h (RfE.v (zk0 r_ix (zb0 7) rvi))) (RfV.h (zb0 2))))) (zi1 (zk0 zf6 (zb0 5) (RfE.v (zk0 r_ix (zb0 7) rvi))) (rgn 5)) (zfa (zrw zmi (zl0 6) (ze0 (zn0 7) zs0)))))
   (zo0 (zsm (RfE.c (RfF.e (zms znv (zz0 (RfE.v (zk0 zf6 (zb0 6) (RfE.v (RfF.e (zo6 (ze0 (zrc (ze0 (zk0 zf6 (RfP.v (za7 (zl0 1) zr0)) (RfE.v (zk0 r_ix (zb0 4) rvi))) (ze0 (zn0 2) (ze0 (zn0 5) zs0)))) zs0)))))) zs1)))) (zl0 1) zr0)
   (zf1 (RfE.c (zk0 r_ix (RfP.v (za7 (zl0 1) zr0)) (RfE.v (zk0 r_ix (zb0 4) rvi)))))))))))),?_⟩
 rintro as Qd a ⟨vs,ps,m,ly,left,W,j,am,rfl,Yv,hl,hlf,hj,h63,q⟩;have h12:=Yv.v12;have h24:=Yv.p24;obtain⟨p,hp⟩:∃p,ps[j]?=some p:=⟨_,u8 hj⟩
 have pu:=(Yv.pu p (wT hp)).1;have es:zt1 ps j=p.u:=by unfold zt1;rw[hp];rfl
 have el:pl ps j=p.len:=by unfold pl;rw[hp];rfl
 rw[es,el]at q;unfold rwT at q ⊢;walk_at"ds";walk_at"a";walk_at"k";refine⟨_,gm Pi.d hp,hJ _ ?_⟩;clear hJ;unfold Pi.d;walk_at"a";refine⟨1,_,rfl,rfl,?_⟩;walk_at"dd";walk_at"k";refine⟨_,ga ly p.u (by lia),?_⟩;walk_at"dd";refine⟨1,_,rfl,rfl,_,rfl,?_⟩;walk_at"dd";refine⟨p.u,zjh (by rw[u4];lia),hJ _ ?_⟩;walk_at"c";refine⟨2,_,rfl,rfl,?_⟩;walk_at"dd";refine⟨_,ga left j (by lia),?_⟩;walk_at"dd";refine⟨2,_,rfl,rfl,?_⟩;walk_at"dd";refine⟨j,zjh (by rw[u4];lia),hJ _ ?_⟩;clear hJ;walk_at"dn";walk_at"dn";walk_at"a";refine⟨3,_,rfl,rfl,?_⟩;walk_at"dd";refine zkb (λi U=>∃s7:Sl,U=[.sh (zcb vs ps),.io a (.ls [.fz (.int (m:Int)),.li ((ly.map .int).set p.u (.int (ly.getD p.u 0 - am))),.li ((left.map .int).set j (.int (left.getD j 0 - am))),.fz (.list (W.map Le.d))]),.sh (.int (j:Int)),.sh (.int am),.sh (.tuple [.int (p.u:Int),.int (p.v:Int),.int (p.len:Int),.int p.pr,p.g.d]),.sh (.int (am+sL (W.take i) (λx=>if x.at_=j/\x.t=m+p.len then x.am else 0))),.ow (.li ((zfg (m+p.len) j (W.take i)).map Le.d)),s7]) ⟨.un,?_⟩ ?_ ?_
 ·rw[List.take_zero,zgn,zK];rfl
 ·rintro i l U hx ⟨s7,rfl⟩;have hi:i < W.length:=(wR.mp hx).1;have e1:sL (W.take (i+1)) (λx=>if x.at_=j/\x.t=m+p.len then x.am else 0)=sL (W.take i) (λx=>if x.at_=j/\x.t=m+p.len then x.am else 0)+if l.at_=j/\l.t=m+p.len then l.am else 0:=by
   rw[zmd hx,zt21,zs2,zgn,zK]
  have e2:zfg (m+p.len) j (W.take (i+1))=if l.t=m+p.len/\l.at_=j then zfg (m+p.len) j (W.take i)else zfg (m+p.len) j (W.take i)++[l]:=by rw[zmd hx,zwu]
  have ll:(zfg (m+p.len) j (W.take i)).length<=W.length:=wP (yX _ _) (by rw[yA];lia);rw[e1,e2];generalize sL (W.take i) (λx=>if x.at_=j/\x.t=m+p.len then x.am else 0)=sm0;generalize zfg (m+p.len) j (W.take i)=M at ll ⊢;generalize W.map Le.d=WD;obtain⟨lt,la,lm⟩:=l;dsimp only[Le.d];walk_at"dd";refine⟨_,rfl,0,_,rfl,rfl,?_⟩;walk_at"dd";walk_at"k";refine two (λz=>⟨_,rfl,?_⟩) λz=>?_
  ·walk_at"dd";refine two (λz2=>⟨_,rfl,?_⟩) λz2=>?_
   ·rw[if_pos ⟨by lia,by lia⟩,if_pos ⟨by lia,by lia⟩];walk_at"dd";refine⟨.sh (.tuple [.int (lt:Int),.int (la:Int),.int lm]),?_⟩;rw[Int.add_assoc]
   ·rw[if_neg (λy=>z2 (by lia)),if_neg (λy=>z2 (by lia)),zK];refine⟨by rw[u4];lia,.sh (.tuple [.int (lt:Int),.int (la:Int),.int lm]),?_⟩;rw[yF];rfl
  ·rw[if_neg (λy=>z (by lia)),if_neg (λy=>z (by lia)),zK];refine⟨by rw[u4];lia,.sh (.tuple [.int (lt:Int),.int (la:Int),.int lm]),?_⟩;rw[yF];rfl
 ·rintro U ⟨s7,rfl⟩;walk_at"f";rw[zH];generalize sL W (λx=>if x.at_=j/\x.t=m+p.len then x.am else 0)=sm0 at q ⊢;have rl:(zfg (m+p.len) j W).length<=W.length:=yX _ _;walk_at"a";refine⟨0,_,rfl,rfl,?_⟩;walk_at"dd";walk_at"k";refine⟨by rw[u4];lia,(zfg (m+p.len) j W++[(⟨m+p.len,j,am+sm0⟩:Le)]).map rowL,?_,λr hr=>?_,by simp;lia,λR hR hs=>?_⟩
  ·rw[wZ,yF];rfl
  ·obtain⟨l,_,rfl⟩:=wU.mp hr;unfold rowL;simp
  obtain⟨W',rfl,hW⟩:=zn51 hR;refine⟨3,rfl,hJ _ ?_⟩;clear hJ;have q:=q W' hW hs;walk_at"dd";refine⟨1,_,rfl,rfl,?_⟩;walk_at"dd";walk_at"k";rw[yR,yR]at q;rw[wZ];exact⟨_,zjf (by lia) (by rw[wH,xI (by rw[u4];lia)]),_,rfl,q⟩
end
noncomputable def zki:DSpT:=λas Q=>∃(vs:List Va)(ps:List Pi)(m:Nat)(ly left:List Int)(W:List Le)(c:Int),as=[.d (zcb vs ps),.b (rwT m ly left W),.d (.int c)]/\Yd vs ps/\ly.length=vs.length/\left.length=ps.length/\(∀y∈ly,0<=y/\y<=100000000000000)/\(∀y∈left,0<=y/\y<=100000000000000) /\
 Q (.fz (zkj none)) (.fz .none)/\∀k am:Int,-1<=k->k<=(ps.length:Int)->-10000000000000000000000000000000000000000 < am->am < 10000000000000000000000000000000000000000->Q (.fz (zkj (some (k,am)))) (.fz .none)
section
variable {P:Program}{w:World}{K:Fg}{mg:Str->Option Value}{base:Heap}
theorem zme:FnScope ["yard", "rows", "cell", "count", "at", "rest", "left", "held", "most", "more", "some"] ["yard", "rows", "cell"] (zh0 zkc):=by walk_at"sc"
theorem zbl(M:Md K mg)(T:TopDef K "_law_deed" zkc)(jT:mg "len"=none)(vX:mg "max"=none)(wA:mg "min"=none):Def P w K mg base "_law_deed" 1 ["yard", "rows", "cell"] (spT K zki):=by
 refine zb8 M T zme (by walk_at"h") (zof λas Qd h=>by obtain⟨_,_,_,_,_,_,_,rfl,_⟩:=h;rfl) (zj6 ?_);walk_at"g";have nd:=zme.nd;refine⟨_,_,(zd0 (zf4 (zv0 zyt (zu0 zh1 (pv 2) zc0) zc0 (zd1 _)) (zi0 (ze1 (zj1 zg0))) zx0)
   (zd0 (pset 3 nd (zb1 (zw1 (K:=K) rfl) rfl jT zjc (za0 (pix w K hr (pv 0) zc0) zg0)))
   (zd0 (pset 4 nd (zu0 zel (zu0 zh1 (zu0 zc1 (pv 2) zc0) (zu0 (za1 (K:=K) rfl) (pv 3) zc0)) zc0))
   (zd0 (pset 5 nd (zu0 zc1 (zu0 zc1 (pv 2) zc0) (zu0 (za1 (K:=K) rfl) (pv 3) zc0)))
   (zd0 (pset 6 nd zc0)
   (zd0 (pset 7 nd zc0)
   (zd0 (zf4 (zvg zpb1 zyt zc0 (pv 4) (pv 3)) (zd0 (pset 6 nd (pix w K hr (pix w K hr (pv 1) zc0) (pv 4)))
   (zi0 (pset 7 nd (pix w K hr (pix w K hr (pv 1) zc0) (pix w K hr (pix w K hr (pix w K hr (pv 0) zc0) (pv 4)) zc0))))) zx0)
   (zd0 (pset 8 nd (zb1 (zjt rfl) rfl wA zsb1 (za0 (pv 6) (za0 (pv 7) zg0))))
   (zd0 (pset 9 nd (zu0 zc1 (pv 5) zc0))
   (zd0 (pset 10 nd (zj1 (za0 (zu0 (za1 (K:=K) rfl) zc0 (zu0 zh1 (pv 9) (zb1 (zxl rfl) rfl vX zh81 (za0 zc0 (za0 (pv 8) zg0))))) (za0 (zu0 (za1 (K:=K) rfl) zc0 (zu0 zh1 (pv 9) (zb1 (zxl rfl) rfl vX zh81 (za0 zc0 (za0 (pv 8) zg0))))) (za0 (pv 8) (za0 (zu0 (za1 (K:=K) rfl) (pv 8) zc0) (za0 (pv 7) (za0 zc0 zg0))))))))
   (zi0 (ze1 (zj1 (za0 (pv 4) (za0 (pix w K hr (zu0 (za1 (K:=K) rfl) (pv 10) (zj1 (za0 (zu0 zel zc0 (zu0 zh1 (pv 9) (zu0 zoq zc0 zc0))) (za0 (zu0 zh1 (pv 9) (zu0 zoq zc0 zc0)) zg0)))) (zu0 zh1 (pv 5) zc0)) zg0))))))))))))))),(zo0 (zy6 (zt0 (zk0 r_lt (RfE.v (zk0 zg4 (zb0 2) rvi)) rvi)) (zf1 (RfE.c (RfF.e (zo6 zs0)))) zy0)
   (zo0 (zi1 (zth zqn (zz0 (RfE.v (zk0 r_ix (zb0 0) rvi)) zs1)) (rgn 3))
   (zo0 (zi1 (zk0 znz (RfE.v (zk0 zg4 (RfE.v (zk0 zac (zb0 2) rvi)) (RfE.v (zk0 zf6 (zb0 3) rvi)))) rvi) (rgn 4))
   (zo0 (zi1 (zk0 zac (RfE.v (zk0 zac (zb0 2) rvi)) (RfE.v (zk0 zf6 (zb0 3) rvi))) (rgn 5))
   (zo0 (zi1 zr0 (rgn 6))
   (zo0 (zi1 zr0 (rgn 7))
   (zo0 (zy6 (zt0 (zkk r_le r_lt zr0 (zn0 4) (zn0 3))) (zo0 (zi1 (zk0 r_ix (RfP.v (za7 (zl0 1) zr0)) (zb0 4)) (rgn 6))
   (zi1 (zk0 r_ix (RfP.v (za7 (zl0 1) zr0)) (RfE.v (zk0 r_ix (RfE.v (zk0 r_ix (RfE.v (zk0 r_ix (zb0 0) rvi)) (zb0 4))) rvi))) (rgn 7))) zy0)
   (zo0 (zi1 (zth zec1 (zz0 (zb0 6) (zz0 (zb0 7) zs1))) (rgn 8))
   (zo0 (zi1 (zk0 zac (zb0 5) rvi) (rgn 9))
   (zo0 (zi1 (RfF.e (zo6 (ze0 (zk0 zf6 rvi (RfE.v (zk0 zg4 (zb0 9) (RfE.v (zth zo31 (zz0 rvi (zz0 (zb0 8) zs1))))))) (ze0 (zk0 zf6 rvi (RfE.v (zk0 zg4 (zb0 9) (RfE.v (zth zo31 (zz0 rvi (zz0 (zb0 8) zs1))))))) (ze0 (zn0 8) (ze0 (zk0 zf6 (zb0 8) rvi) (ze0 (zn0 7) (ze0 zr0 zs0)))))))) (rgn 10))
   (zf1 (RfE.c (RfF.e (zo6 (ze0 (zn0 4) (ze0 (zk0 r_ix (RfE.v (RfF.e (zjd1 zhf1 (zb0 10) (RfE.v (RfF.e (zo6 (ze0 (zk0 znz rvi (RfE.v (zk0 zg4 (zb0 9) (RfE.v (zk0 zx31 rvi rvi))))) (ze0 (zk0 zg4 (zb0 9) (RfE.v (zk0 zx31 rvi rvi))) zs0)))))))) (RfE.v (zk0 zg4 (zb0 5) rvi))) zs0)))))))))))))))),?_⟩
 rintro as Qd a ⟨vs,ps,m,ly,left,W,c,rfl,Yv,hl,hlf,hly,hle,q0,q1⟩;have h24:=Yv.p24;unfold rwT;unfold zkj at q0 q1;walk_at"ds";walk_at"a";refine two (λz=>q0) λz=>hJ _ ?_;walk_at"c";walk_at"k";walk_at"f";rw[u4];walk_at"a";refine⟨by lia,hJ _ ?_⟩;clear hJ;have k0:=xY (c / 5) (b:=(ps.length:Int)+2) (by lia);have k1:=yH (c / 5) (b:=(ps.length:Int)+2) (by lia);have k0:-1<=c / 5 % ((ps.length:Int)+2) - 1:=by lia
 have k1:c / 5 % ((ps.length:Int)+2) - 1<=(ps.length:Int):=by lia
 generalize c / 5 % ((ps.length:Int)+2) - 1=k at k0 k1 ⊢;walk_at"a";refine⟨by lia,hJ _ ?_⟩;clear hJ;generalize c / 5 / ((ps.length:Int)+2)=rest;walk_at"dn";walk_at"dn";refine zr1 (λU=>∃(lf he:Int),0<=lf/\lf<=100000000000000/\0<=he/\he<=100000000000000/\U=[.sh (zcb vs ps),.bo (.ls [.fz (.int (m:Int)),.li (ly.map .int),.li (left.map .int),.fz (.list (W.map Le.d))]),.sh (.int c),.sh (.int (ps.length:Int)),.sh (.int k),.sh (.int rest),.sh (.int lf),.sh (.int he),.un,.un,.un]) ?_ ?_
 ·walk_at"dd";refine two (λz1=>two (λz2=>?_) λz2=>⟨0,0,by decide,by decide,by decide,by decide,rfl⟩) λz1=>⟨0,0,by decide,by decide,by decide,by decide,rfl⟩
  obtain⟨j,rfl⟩:=xX z1;have hj:j < ps.length:=by lia
  obtain⟨p,hp⟩:∃p,ps[j]?=some p:=⟨_,u8 hj⟩
  have pu:=(Yv.pu p (wT hp)).1;have mg:∀(l:List Int)(i:Nat),i < l.length->l.getD i 0∈l:=λl i hi=>by
   rw[v7,u8 hi];exact zI hi
  have f1:=hle _ (mg left j (by lia));have f2:=hly _ (mg ly p.u (by lia));walk_at"a";refine⟨2,_,rfl,rfl,?_⟩;walk_at"dd";refine⟨_,ga left j (by lia),hJ _ ?_⟩;clear hJ;walk_at"dd";refine⟨1,_,rfl,rfl,?_⟩;walk_at"dd";walk_at"k";refine⟨_,gm Pi.d hp,?_⟩;unfold Pi.d;walk_at"dd";walk_at"k";exact⟨_,ga ly p.u (by lia),_,_,f1.1,f1.2,f2.1,f2.2,rfl⟩
 rintro U ⟨lf,he,a0,a1,b0,b1,rfl⟩;walk_at"a";have m0:0<=(if he < lf then he else lf)/\(if he < lf then he else lf)<=100000000000000:=by split <;> lia
 walk_at"f";generalize(if he < lf then he else lf)=mo at m0 ⊢;obtain⟨m0,m1⟩:=m0;walk_at"dn";walk_at"a";have x0:0 < (if mo > 1 then mo else 1)/\(if mo > 1 then mo else 1)<=100000000000000:=by split <;> lia
 generalize(if mo > 1 then mo else 1)=x at x0 ⊢;refine⟨x0.1,x0.1,hJ _ ?_⟩;clear hJ;have r0:=xY (rest / 8) (b:=x) (by lia);have r1:=yH (rest / 8) (b:=x) (by lia);generalize rest / 8 % x=r at r0 r1 ⊢;walk_at"dd";have h8:rest % 8=0 \/ rest % 8=1 \/ rest % 8=2 \/ rest % 8=3 \/ rest % 8=4 \/ rest % 8=5 \/ rest % 8=6 \/ rest % 8=7:=by lia
 refine⟨by decide,by decide,?_⟩;rcases h8 with h|h|h|h|h|h|h|h <;> rw[h]
 ·exact⟨_,rfl,q1 k _ (by lia) (by lia) (by lia) (by lia)⟩
 ·exact⟨_,rfl,q1 k _ (by lia) (by lia) (by lia) (by lia)⟩
 ·exact⟨_,rfl,q1 k _ (by lia) (by lia) (by lia) (by lia)⟩
 ·exact⟨_,rfl,q1 k _ (by lia) (by lia) (by lia) (by lia)⟩
 ·exact⟨_,rfl,q1 k _ (by lia) (by lia) (by lia) (by lia)⟩
 ·exact⟨_,rfl,q1 k _ (by lia) (by lia) (by lia) (by lia)⟩
 ·exact⟨_,rfl,q1 k _ (by lia) (by lia) (by lia) (by lia)⟩
 ·exact⟨_,rfl,q1 k _ (by lia) (by lia) (by lia) (by lia)⟩
end
theorem zvi:bootBuiltins "ValueError"=some (.type "ValueError"):=by decide +kernel
noncomputable def zsw(c:Nat):List D:=(w9 10).map λj=>.bool (c == j)
theorem zpe{Ds:List Addr}(h:Ds.Nodup)(hl:Ds.length=9){c:Nat}{C:Addr}(hc:Ds[c]?=some C):(Ds.map λD=>PyData.bool (C == D))++[.bool false]=zsw c:=by
 obtain⟨h9,rfl⟩:=wR.mp hc;unfold zsw;refine yY (by simp[hl]) λi h1 h2=>?_;simp at h2;rw[List.getElem_map,uaO];rcases xF i 9 with z|z
 ·rw[List.getElem_append_left (by simpa[hl]using z),List.getElem_map];congr 1;by_cases e:c=i
  ·subst e;simp
  ·have ne:Ds[c]≠Ds[i]'(by lia):=by
    rcases Nat.lt_or_gt_of_ne e with y|y
    ·exact(z7.mp h) c i _ _ y
    ·exact λw=>(z7.mp h) i c _ _ y w.symm
   rw[beq_eq_false_iff_ne.mpr ne,beq_eq_false_iff_ne.mpr e]
 ·obtain rfl:i=9:=by lia
  rw[List.getElem_append_right (by simp[hl])];simp;lia
theorem zk61(c j:Nat):decide ((c:Int)=(j:Int))=(c == j):=by
 by_cases h:c=j
 ·subst h;simp
 ·rw[beq_eq_false_iff_ne.mpr h,decide_eq_false (by lia)]
theorem zgv(c:Nat):Fit 1 (.list (zsw c)):=Fit.lst λd hd=>by
 unfold zsw at hd;obtain⟨j,_,rfl⟩:=wU.mp hd;exact Fit.bl _
structure PlOk(vs:List Va)(ps:List Pi)(m:Nat)(ly en:List Int)(kvs:List (List Key×D)):Prop where
 y:Yd vs ps
 ll:ly.length=vs.length
 el:en.length=ps.length
 kl:kvs.length<=1000
 ai:AllI kvs
 wd:∀j,j < ps.length->-10000000000000000000000000000000000000000 < zzb ps j m - en.getD j 0/\zzb ps j m - en.getD j 0 < 10000000000000000000000000000000000000000
noncomputable def zfi(C C1 C2 C3:Addr):DSpT:=λas Q=>∃(vs:List Va)(ly:List Int)(ps:List Pi)(m:Nat)(en:List Int)(kvs:List (List Key×D))(dd:Option (Int×Int)),as=[.o (pS C C1 C2 C3 (vs.map Va.room) ly ps m en kvs),.d (zkj dd)]/\PlOk vs ps m ly en kvs /\
 (match dd with
|none=>(over (vs.map Va.room) ly≠[]->Q (.fz (.list (zsw 4))) (pS C C1 C2 C3 (vs.map Va.room) ly ps m en kvs))/\(over (vs.map Va.room) ly=[]->Q (.fz (.int ((m+1:Nat):Int))) (pS C C1 C2 C3 (vs.map Va.room) (arrL ps kvs ((m+1:Nat):Int) ps.length ly) ps (m+1) (v9 ps.length 0) (arrK kvs ((m+1:Nat):Int) ps.length)))
|some (k,am)=>-10000000000000000000000000000000000000000 < k/\k < 10000000000000000000000000000000000000000/\-10000000000000000000000000000000000000000 < am/\am < 10000000000000000000000000000000000000000 /\
  (zui ps m ly en k am < 4->Q (.fz (.list (zsw (zui ps m ly en k am)))) (pS C C1 C2 C3 (vs.map Va.room) ly ps m en kvs))/\(zui ps m ly en k am=4->Q (.fz (.int (ly.getD (zt1 ps k.toNat) 0 - am))) (letT C C1 C2 C3 (vs.map Va.room) ly ps m en kvs k.toNat am)))
section
variable {P:Program}{w:World}{K:Fg}{mg:Str->Option Value}{base:Heap}{jB jD jC jA jR jO jM jQ jH jK kS qQ qC kF:Addr}
theorem zrd:FnScope ["play", "deed", "told", "e"] ["play", "deed"] (zh0 ztc):=by walk_at"sc"
theorem zal(M:Md K mg)(T:TopDef K "_law_done" ztc)(kt:Kit K)(qG:mg "ValueError"=none)(jF:mg "isinstance"=none)(jE:Cls K jA)(uH:zju P w K mg base jA "go_on" 3 ["self"] (spX K (zk9 jA jB jD jC jK)))(uW:zju P w K mg base jA "let" 3 ["self", "pipe", "amount"] (spX K (zmc jA jB jD jC jO jM jQ jH)))(qH:XCls K "YardError" jR)(qF:XCls K "NoPipe" jO)(kX:XCls K "NoAmount" jM)(kZ:XCls K "TooWide" jQ)(kQ:XCls K "TooLittle" jH)(kY:XCls K "TooFull" jK)(qS:XCls K "NoMoment" kS)(uX:XCls K "NoRow" qQ)(uM:XCls K "NoName" qC)(qI:XCls K "NoMeasure" kF)(kH:PySem.W.exmOne K (.ref jO) (.ref jR)=some true)(jV:PySem.W.exmOne K (.ref jM) (.ref jR)=some true)(jY:PySem.W.exmOne K (.ref jQ) (.ref jR)=some true)(jU:PySem.W.exmOne K (.ref jH) (.ref jR)=some true)(jZ:PySem.W.exmOne K (.ref jK) (.ref jR)=some true)(kx:KxT K [jO,jM,jQ,jH,jK] [jO,jM,jQ,jH,jK,kS,qQ,qC,kF]):Def P w K mg base "_law_done" 4 ["play", "deed"] (spT K (zfi jA jB jD jC)):=by
 refine zb8 M T zrd (by walk_at"h") (zof λas Qd h=>by obtain⟨_,_,_,_,_,_,_,rfl,_⟩:=h;rfl) (zj6 ?_);walk_at"g";have nd:=zrd.nd;refine⟨_,(dSeq (zua1 K (λex=>(dIf (zuz (dOp fEq (zsg 1) (dF (dLst dNil)))) (zp61 2 (zd51 true jA "go_on" (zk9 jA jB jD jC jK) (pVar 0) aNil) ex) (zp61 2 (zd51 true jA "let" (zmc jA jB jD jC jO jM jQ jH) (pVar 0) (aD (dOp fIx (zsg 1) (dC (.int 0))) (aD (dOp fIx (zsg 1) (dC (.int 1))) aNil))) ex))) [(.ref jR,λC=>dAs 3 (dG [jO,jM,jQ,jH,jK] C (dSeq (dAsg (dF (dLst (zic (dC (.bool (C == jO))) (zic (dC (.bool (C == jM))) (zic (dC (.bool (C == jQ))) (zic (dC (.bool (C == jH))) dNil)))))) (gN 2))
   (dSeq (dAsg (dOp fAdd (zsg 2) (dF (dLst (zic (dC (.bool (C == jK))) (zic (dC (.bool (C == kS))) (zic (dC (.bool (C == qQ))) dNil)))))) (gN 2))
   (dAsg (dOp fAdd (zsg 2) (dF (dLst (zic (dC (.bool (C == qC))) (zic (dC (.bool (C == kF))) (zic (zx91 (dC (.bool true))) dNil)))))) (gN 2))))))])
   (dRet (cE (dVar 2)))),(zd0 (zk31 rfl rfl (λpn xe=>(HandsN.cons (i:=3) (t:=λC ea=>(tSeq (tAsg (zet (zw2 (tCB (rIsE K ea C) (zw2 (tVar 3) (zw2 (tC (.ref jO)) tNil))) (zw2 (tCB (rIsE K ea C) (zw2 (tVar 3) (zw2 (tC (.ref jM)) tNil))) (zw2 (tCB (rIsE K ea C) (zw2 (tVar 3) (zw2 (tC (.ref jQ)) tNil))) (zw2 (tCB (rIsE K ea C) (zw2 (tVar 3) (zw2 (tC (.ref jH)) tNil))) tNil))))) (zih 2)) (tSeq (tAsg (tOp (zct K) (tVar 2) (zet (zw2 (tCB (rIsE K ea C) (zw2 (tVar 3) (zw2 (tC (.ref jK)) tNil))) (zw2 (tCB (rIsE K ea C) (zw2 (tVar 3) (zw2 (tC (.ref kS)) tNil))) (zw2 (tCB (rIsE K ea C) (zw2 (tVar 3) (zw2 (tC (.ref qQ)) tNil))) tNil))))) (zih 2)) (tAsg (tOp (zct K) (tVar 2) (zet (zw2 (tCB (rIsE K ea C) (zw2 (tVar 3) (zw2 (tC (.ref qC)) tNil))) (zw2 (tCB (rIsE K ea C) (zw2 (tVar 3) (zw2 (tC (.ref kF)) tNil))) (zw2 (zp51 (tCB (rIsE K ea C) (zw2 (tVar 3) (zw2 (tC (.ty "ValueError")) tNil)))) tNil))))) (zih 2))))) rfl (.inl (M.got qH.at_)) (by decide) nd rfl rfl (λea oe C hC=>(zd0 (pset 2 nd (zj1 (za0 (zb1 (zc6 rfl hC) rfl jF zw0 (za0 (pv 3) (za0 (zyb (v:=.ref jO) rfl (M.got qF.at_) rfl) zg0))) (za0 (zb1 (zc6 rfl hC) rfl jF zw0 (za0 (pv 3) (za0 (zyb (v:=.ref jM) rfl (M.got kX.at_) rfl) zg0))) (za0 (zb1 (zc6 rfl hC) rfl jF zw0 (za0 (pv 3) (za0 (zyb (v:=.ref jQ) rfl (M.got kZ.at_) rfl) zg0))) (za0 (zb1 (zc6 rfl hC) rfl jF zw0 (za0 (pv 3) (za0 (zyb (v:=.ref jH) rfl (M.got kQ.at_) rfl) zg0))) zg0))))))
   (zd0 (pset 2 nd (zu0 (za1 (K:=K) rfl) (pv 2) (zj1 (za0 (zb1 (zc6 rfl hC) rfl jF zw0 (za0 (pv 3) (za0 (zyb (v:=.ref jK) rfl (M.got kY.at_) rfl) zg0))) (za0 (zb1 (zc6 rfl hC) rfl jF zw0 (za0 (pv 3) (za0 (zyb (v:=.ref kS) rfl (M.got qS.at_) rfl) zg0))) (za0 (zb1 (zc6 rfl hC) rfl jF zw0 (za0 (pv 3) (za0 (zyb (v:=.ref qQ) rfl (M.got uX.at_) rfl) zg0))) zg0))))))
   (zi0 (pset 2 nd (zu0 (za1 (K:=K) rfl) (pv 2) (zj1 (za0 (zb1 (zc6 rfl hC) rfl jF zw0 (za0 (pv 3) (za0 (zyb (v:=.ref qC) rfl (M.got uM.at_) rfl) zg0))) (za0 (zb1 (zc6 rfl hC) rfl jF zw0 (za0 (pv 3) (za0 (zyb (v:=.ref kF) rfl (M.got qI.at_) rfl) zg0))) (za0 (zg41 (zb1 (zc6 rfl hC) rfl jF zw0 (za0 (pv 3) (za0 (ztf (v:=.ty "ValueError") rfl qG zvi rfl) zg0)))) zg0)))))))))) HandsN.nil)) (λD pn xe hx=>(zi0 (zf4 (zv0 (zx1 (K:=K) rfl (Room.units hr)) (pv 1) (zj1 zg0) (zd1 _)) (zi0 (pset 2 nd (zit (k:=3) rfl rfl rfl rfl rfl (rmn hr) hx (pv 0)))) (zi0 (pset 2 nd (zkr (k:=3) rfl rfl rfl rfl rfl (rmn hr) hx (pv 0) (za0 (pix w K hr (pv 1) zc0) (za0 (pix w K hr (pv 1) zc0) zg0)))))))))
   (zi0 (ze1 (pv 2)))),(zo0 (zz21 (λD ex=>(zr21 (zt0 (zm1 q_eq (RfV.h (zb0 1)) (zwn zxn))) (zqy (i:=2) (zjq true uH (zl0 0) zd3)) (zqy (i:=2) (zjq true uW (zl0 0) (at_d (zk0 r_ix (zb0 1) rvi) (at_d (zk0 r_ix (zb0 1) rvi) zd3)))))) (RfHsN.cons (Cs:=[jO,jM,jQ,jH,jK]) (i:=3) (λC hC ea=>(zhw (i:=3) (j:=2) (by decide) (zup (zm3 (zja (cV:=.ref jO) (kx.ex C hC) rfl (kx.one C hC jO (by simp))) (zm3 (zja (cV:=.ref jM) (kx.ex C hC) rfl (kx.one C hC jM (by simp))) (zm3 (zja (cV:=.ref jQ) (kx.ex C hC) rfl (kx.one C hC jQ (by simp))) (zm3 (zja (cV:=.ref jH) (kx.ex C hC) rfl (kx.one C hC jH (by simp))) zol))))) (zhw (i:=3) (j:=2) (by decide) (zbw (zup (zm3 (zja (cV:=.ref jK) (kx.ex C hC) rfl (kx.one C hC jK (by simp))) (zm3 (zja (cV:=.ref kS) (kx.ex C hC) rfl (kx.one C hC kS (by simp))) (zm3 (zja (cV:=.ref qQ) (kx.ex C hC) rfl (kx.one C hC qQ (by simp))) zol))))) (zc71 (zbw (zup (zm3 (zja (cV:=.ref qC) (kx.ex C hC) rfl (kx.one C hC qC (by simp))) (zm3 (zja (cV:=.ref kF) (kx.ex C hC) rfl (kx.one C hC kF (by simp))) (zm3 (za11 (zja (cV:=.ty "ValueError") (kx.ex C hC) rfl (kx.ve C hC))) zol))))))))) (λC hC=>(zo0 (zi1 (RfF.e (zo6 (ze0 zhd (ze0 zhd (ze0 zhd (ze0 zhd zs0)))))) (rgn 2))
   (zo0 (zi1 (zk0 zf6 (zb0 2) (RfE.v (RfF.e (zo6 (ze0 zhd (ze0 zhd (ze0 zhd zs0))))))) (rgn 2))
   (zi1 (zk0 zf6 (zb0 2) (RfE.v (RfF.e (zo6 (ze0 zhd (ze0 zhd (ze0 (zhx zhd) zs0))))))) (rgn 2))))) RfHsN.nil))
   (zf1 (RfE.c (zn0 2)))),?_⟩
 rintro as Qd a ⟨vs,ly,ps,m,en,kvs,dd,rfl,O,q⟩;unfold pS;cases dd with
|none =>
  unfold zkj;walk_at"ds";walk_at"a";refine⟨rfl,rfl,?_⟩;rw[show xE (.list []) (.list [])=true from rfl,if_pos rfl];obtain⟨q1,q2⟩:=q;unfold pS at q1 q2;refine⟨vs.map Va.room,ly,ps,m,en,kvs,rfl,by rw[u4,O.ll],by rw[u4];exact O.y.v12,O.y.p24,λp hp=>by rw[O.ll];exact(O.y.pu p hp).2.1,O.ai,λz=>hJ _ ?_,λz=>?_⟩
  ·clear hJ;have:=q2 z;unfold pS;walk_at"dd";exact⟨_,rfl,this⟩
  ·have:=q1 z;have e:=zpe kx.nd rfl (c:=4) rfl;simp only[wM,yC,beq_self_eq_true,yQ,xR]at e;refine⟨true,jZ,?_⟩;rw[if_pos rfl];refine⟨by simp,?_⟩;walk_at"dn";walk_at"dn";walk_at"dd";walk_at"f";walk_at"dd";rw[e];exact⟨_,rfl,this⟩
|some x =>
  obtain⟨k,am⟩:=x;obtain⟨k0,k1,a0,a1,qx,q⟩:=q;unfold letT pS at q;unfold pS at qx;unfold zkj;walk_at"ds";walk_at"a";refine⟨rfl,rfl,?_⟩;rw[show xE (.list [.int k,.int am]) (.list [])=false from rfl,if_neg wF];refine⟨_,rfl,_,rfl,vs.map Va.room,ly,ps,m,en,kvs,k,am,rfl,O.el,λp hp=>⟨(O.y.pu p hp).2.2.2.1,by rw[O.ll];exact(O.y.pu p hp).1⟩,O.y.p24,by have:=O.kl;lia,O.ai,k0,k1,a0,a1,O.wd,λz=>?_,λz=>?_,λz=>?_,λz=>?_,λz=>hJ _ ?_⟩
  ·have:=qx (by lia);rw[z]at this;have e:=zpe kx.nd rfl (c:=0) rfl;simp only[wM,yC,beq_self_eq_true,yQ,xR]at e;refine⟨true,kH,?_⟩;rw[if_pos rfl];refine⟨by simp,?_⟩;walk_at"dn";walk_at"dn";walk_at"dd";walk_at"f";walk_at"dd";rw[e];exact⟨_,rfl,this⟩
  ·have:=qx (by lia);rw[z]at this;have e:=zpe kx.nd rfl (c:=1) rfl;simp only[wM,yC,beq_self_eq_true,yQ,xR]at e;refine⟨true,jV,?_⟩;rw[if_pos rfl];refine⟨by simp,?_⟩;walk_at"dn";walk_at"dn";walk_at"dd";walk_at"f";walk_at"dd";rw[e];exact⟨_,rfl,this⟩
  ·have:=qx (by lia);rw[z]at this;have e:=zpe kx.nd rfl (c:=2) rfl;simp only[wM,yC,beq_self_eq_true,yQ,xR]at e;refine⟨true,jY,?_⟩;rw[if_pos rfl];refine⟨by simp,?_⟩;walk_at"dn";walk_at"dn";walk_at"dd";walk_at"f";walk_at"dd";rw[e];exact⟨_,rfl,this⟩
  ·have:=qx (by lia);rw[z]at this;have e:=zpe kx.nd rfl (c:=3) rfl;simp only[wM,yC,beq_self_eq_true,yQ,xR]at e;refine⟨true,jU,?_⟩;rw[if_pos rfl];refine⟨by simp,?_⟩;walk_at"dn";walk_at"dn";walk_at"dd";walk_at"f";walk_at"dd";rw[e];exact⟨_,rfl,this⟩
  ·clear hJ;have:=q z;unfold letT pS;walk_at"dd";exact⟨_,rfl,this⟩
end
noncomputable def Kp(x:D):Prop:=∃d,x=.tuple [.list d,.list d]/\∀e∈d,Fit 2 e
theorem zxz(W:List Le):∀e∈(W.map rowL).map rowD,Fit 2 e:=λe he=>by
 obtain⟨r,_,rfl⟩:=wU.mp he;exact Fit.tup λz hz=>by
  obtain⟨i,_,rfl⟩:=wU.mp hz;exact Fit.int i
theorem zav{α:Type}(f:α->Int)(xs:List α):∀e∈xs.map (λx=>wK (f x)),Fit 2 e:=λe he=>by
 obtain⟨r,_,rfl⟩:=wU.mp he;exact Fit.int _
structure Sn(vs:List Va)(ps:List Pi)(m:Nat)(ly left en:List Int)(kvs:List (List Key×D))(W:List Le):Prop where
 y:Yd vs ps
 ll:ly.length=vs.length
 el:en.length=ps.length
 lf:left=(w9 ps.length).map λi=>zzb ps i m - en.getD i 0
 ag:Ag kvs W
 so:(W.map rowL).Pairwise λa b=>lexB b a=false
 wl:W.length < 64
noncomputable def zij(C C1 C2 C3:Addr):DSpT:=λas Q=>∃(vs:List Va)(ps:List Pi)(m:Nat)(ly left en:List Int)(kvs:List (List Key×D))(W:List Le)(turn:Int)(kept:List D),as=[.b (pS C C1 C2 C3 (vs.map Va.room) ly ps m en kvs),.d (zcb vs ps),.b (rwT m ly left W),.d (.int turn),.o (.li kept)]/\Sn vs ps m ly left en kvs W/\(∀x∈kept,Kp x)/\kept.length<=1000 /\
 ∀kept':List D,(∀x∈kept',Kp x)->kept'.length<=kept.length+15->Q (.fz (.bool true)) (.li kept')
section
variable {P:Program}{w:World}{K:Fg}{mg:Str->Option Value}{base:Heap}{jB jD jC jA:Addr}
theorem zyd:FnScope ["play", "yard", "rows", "turn", "kept", "k", "part", "told"] ["play", "yard", "rows", "turn", "kept"] (zh0 zw9):=by walk_at"sc"
theorem zvk(M:Md K mg)(T:TopDef K "_law_seen" zw9)(jT:mg "len"=none)(jX:mg "list"=none)(kR:mg "range"=none)(kA:Def P w K mg base "_law_whole" 1 ["found", "due"] (spD K zy9))(kE:Def P w K mg base "_law_wholes" 2 ["found", "due"] (spD K zdb))(uA:Def P w K mg base "_law_comings" 3 ["found", "due"] (spD K zdd))(kJ:Def P w K mg base "_law_too_full" 1 ["yard", "rows"] (spT K zk7))(jE:Cls K jA)(qE:zsb P w K mg base jA "full" 1 ["self"] (spT K (zt9 jA jB jD jC)))(uN:zsb P w K mg base jA "holds" 1 ["self"] (spT K (zdf jA jB jD jC)))(qM:zsb P w K mg base jA "under_way" 1 ["self"] (spT K (zj9 jA jB jD jC)))(vL:zsb P w K mg base jA "now" 1 ["self"] (spT K (zcj jA jB jD jC)))(uB:zsb P w K mg base jA "room_in" 2 ["self", "pipe"] (spT K (zjb jA jB jD jC))):Def P w K mg base "_law_seen" 4 ["play", "yard", "rows", "turn", "kept"] (spT K (zij jA jB jD jC)):=by
 refine zb8 M T zyd (by walk_at"h") (zof λas Qd h=>by obtain⟨_,_,_,_,_,_,_,_,_,_,rfl,_⟩:=h;rfl) (zj6 ?_);walk_at"g";have nd:=zyd.nd;refine⟨_,_,(zd0 (zqh PassesOwn.never rfl (zv7 rfl kR (za0 zc0 zg0)) (pgn 5 nd) (zd0 (pset 6 nd (zu0 zh1 (zu0 (za1 (K:=K) rfl) (zu0 zt2 (pv 5) (pix w K hr (zj1 (za0 zc0 (za0 zc0 zg0))) (zu0 zh1 (pv 3) zc0))) (zu0 zc1 (pv 3) zc0)) zc0))
   (zd0 (zf4 (PW.pt (zvn (zv0 (zx1 (K:=K) rfl (Room.units hr)) (pv 6) zc0 (zd1 _)) (zvf (zka (zr5 (K:=K) rfl (zq0 kA (rmn hr) rfl (za0 (zib vL (rmn hr) (pv 0)) (za0 (pix w K hr (pv 2) zc0) zg0))) (λ_=>rfl)))))) (zi0 (ze1 zpj)) zx0)
   (zd0 (zf4 (zv0 (zx1 (K:=K) rfl (Room.units hr)) (pv 6) zc0 (zd1 _)) (zd0 (pset 7 nd (zib qE (rmn hr) (pv 0)))
   (zd0 (zf4 (zka (zr5 (K:=K) rfl (zq0 kE (rmn hr) rfl (za0 (pv 7) (za0 (zq0 kJ (rmn hr) rfl (za0 (pv 1) (za0 (pv 2) zg0))) zg0))) (λ_=>rfl))) (zi0 (ze1 zpj)) zx0)
   (zd0 (zf4 (zv0 (zx1 (K:=K) rfl (Room.units hr)) (zu0 zh1 (zu0 zc1 (pv 3) zc0) zc0) zc0 (zd1 _)) (zi0 (zl8 (zde (K:=K) rfl ğa ğb ğc zh4 (pv 7) (za0 zc0 zg0)))) zx0)
   (zi0 (zl8 (zde (K:=K) rfl ğa ğb ğc zh4 (pv 4) (za0 (zz4 (za0 (pv 7) (za0 (zp2 (zg2 (K:=K) rfl) rfl jX zv8 (za0 (pv 7) zg0)) zg0))) zg0))))))) zx0)
   (zd0 (zf4 (zv0 (zx1 (K:=K) rfl (Room.units hr)) (pv 6) zc0 (zd1 _)) (zd0 (pset 7 nd (zib uN (rmn hr) (pv 0)))
   (zd0 (zf4 (zka (zr5 (K:=K) rfl (zq0 kE (rmn hr) rfl (za0 (pv 7) (za0 (pix w K hr (pv 2) zc0) zg0))) (λ_=>rfl))) (zi0 (ze1 zpj)) zx0)
   (zd0 (zf4 (zv0 (zx1 (K:=K) rfl (Room.units hr)) (zu0 zh1 (zu0 zc1 (pv 3) zc0) zc0) zc0 (zd1 _)) (zi0 (zl8 (zde (K:=K) rfl ğa ğb ğc zh4 (pv 7) (za0 (zu0 (za1 (K:=K) rfl) (zde (K:=K) rfl ğa PySem.F.slot_list_pop PySem.F.type_list_pop zfy (pv 7) (za0 zc0 zg0)) zc0) zg0)))) zx0)
   (zi0 (zl8 (zde (K:=K) rfl ğa ğb ğc zh4 (pv 4) (za0 (zz4 (za0 (pv 7) (za0 (zp2 (zg2 (K:=K) rfl) rfl jX zv8 (za0 (pv 7) zg0)) zg0))) zg0))))))) zx0)
   (zd0 (zf4 (zv0 (zx1 (K:=K) rfl (Room.units hr)) (pv 6) zc0 (zd1 _)) (zd0 (pset 7 nd (zib qM (rmn hr) (pv 0)))
   (zd0 (zf4 (zka (zr5 (K:=K) rfl (zq0 uA (rmn hr) rfl (za0 (pv 7) (za0 (pix w K hr (pv 2) zc0) zg0))) (λ_=>rfl))) (zi0 (ze1 zpj)) zx0)
   (zd0 (zf4 (zv0 (zx1 (K:=K) rfl (Room.units hr)) (zu0 zh1 (zu0 zc1 (pv 3) zc0) zc0) zc0 (zd1 _)) (zi0 (zl8 (zgs (K:=K) rfl ğa ğe ğf zqk (pv 7)))) zx0)
   (zi0 (zl8 (zde (K:=K) rfl ğa ğb ğc zh4 (pv 4) (za0 (zz4 (za0 (pv 7) (za0 (zp2 (zg2 (K:=K) rfl) rfl jX zv8 (za0 (pv 7) zg0)) zg0))) zg0))))))) zx0)
   (zi0 (zf4 (zv0 (zx1 (K:=K) rfl (Room.units hr)) (pv 6) zc0 (zd1 _)) (zi0 (zf4 (zka (zr5 (K:=K) rfl (zq0 kE (rmn hr) rfl (za0 (zb7 (sc:=zh0 zw9) (N:=["play", "yard", "rows", "turn", "kept", "k", "part", "told"]) (own:=["j"]) (ix:=[0]) rfl rfl rfl (by walk_at"csc") (zv7 rfl kR (za0 (zb1 (zw1 (K:=K) rfl) rfl jT zjc (za0 (pix w K hr (pv 1) zc0) zg0)) zg0)) (λ_ _ _ _=>⟨(pgn 0 (nds ["j", "play"])),zea,(zez uB (rmn hr) (pv 1) (za0 (pv 0) zg0))⟩)) (za0 (pix w K hr (pv 2) zc0) zg0))) (λ_=>rfl))) (zi0 (ze1 zpj)) zx0)) zx0))))))))
   (zi0 (ze1 zpj))),(zo0 (zqg (zcf (ze0 zr0 zs0)) (rgn 5) (zo0 (zi1 (zk0 zg4 (RfE.v (zk0 zf6 (RfE.v (zk0 zlj (zb0 5) (RfE.v (zk0 r_ix (RfE.v (RfF.e (zo6 (ze0 zr0 (ze0 zr0 zs0))))) (RfE.v (zk0 zg4 (zb0 3) rvi)))))) (RfE.v (zk0 zac (zb0 3) rvi)))) rvi) (rgn 6))
   (zo0 (zy6 (zzn (zt0 (zm1 q_eq (RfV.h (zb0 6)) (RfV.h rvi))) (zoc (zgd (RfE.v (zn1 (ze0 (RfN.ex (ztq (zl0 0) zd3)) (ze0 (RfP.e (za7 (zl0 2) zr0)) zs0))))))) (zf1 (RfE.c zhd)) zy0)
   (zo0 (zy6 (zt0 (zm1 q_eq (RfV.h (zb0 6)) (RfV.h rvi))) (zo0 (zaa (zzr false (zl0 0) zd3))
   (zo0 (zy6 (zoc (zgd (RfE.v (zue (zz0 (zb0 7) (zz0 (RfE.v (RfN.ex (zli (at_d (zn0 1) (at_b (zl0 2) zd3))))) zs1)))))) (zf1 (RfE.c zhd)) zy0)
   (zo0 (zy6 (zt0 (zm1 q_eq (RfV.h (RfE.v (zk0 zg4 (RfE.v (zk0 zac (zb0 3) rvi)) rvi))) (RfV.h rvi))) (zfa (zrw zmi (zl0 7) (ze0 zr0 zs0))) zy0)
   (zxr 7 [] (zfa (zrw zmi (zl0 4) (ze0 (zrc (ze0 (zn0 7) (ze0 (RfF.e (zms ztg (zz0 (zb0 7) zs1))) zs0))) zs0))))))) zy0)
   (zo0 (zy6 (zt0 (zm1 q_eq (RfV.h (zb0 6)) (RfV.h rvi))) (zo0 (zaa (zzr false (zl0 0) zd3))
   (zo0 (zy6 (zoc (zgd (RfE.v (zue (zz0 (zb0 7) (zz0 (RfP.v (za7 (zl0 2) zr0)) zs1)))))) (zf1 (RfE.c zhd)) zy0)
   (zo0 (zy6 (zt0 (zm1 q_eq (RfV.h (RfE.v (zk0 zg4 (RfE.v (zk0 zac (zb0 3) rvi)) rvi))) (RfV.h rvi))) (zx41 (i:=7) (zfc1 zf6 (zrw zi11 (zl0 7) (ze0 zr0 zs0)) zr0)) zy0)
   (zxr 7 [] (zfa (zrw zmi (zl0 4) (ze0 (zrc (ze0 (zn0 7) (ze0 (RfF.e (zms ztg (zz0 (zb0 7) zs1))) zs0))) zs0))))))) zy0)
   (zo0 (zy6 (zt0 (zm1 q_eq (RfV.h (zb0 6)) (RfV.h rvi))) (zo0 (zaa (zzr false (zl0 0) zd3))
   (zo0 (zy6 (zoc (zgd (RfE.v (zue (zz0 (zb0 7) (zz0 (RfP.v (za7 (zl0 2) zr0)) zs1)))))) (zf1 (RfE.c zhd)) zy0)
   (zo0 (zy6 (zt0 (zm1 q_eq (RfV.h (RfE.v (zk0 zg4 (RfE.v (zk0 zac (zb0 3) rvi)) rvi))) (RfV.h rvi))) (zfa (zhz zsj (zl0 7))) zy0)
   (zxr 7 [] (zfa (zrw zmi (zl0 4) (ze0 (zrc (ze0 (zn0 7) (ze0 (RfF.e (zms ztg (zz0 (zb0 7) zs1))) zs0))) zs0))))))) zy0)
   (zy6 (zt0 (zm1 q_eq (RfV.h (zb0 6)) (RfV.h rvi))) (zy6 (zoc (zgd (RfE.v (zue (zz0 (RfE.v (RfF.e (zp8 (RfI.j (zcf (ze0 (zth zqn (zz0 (RfE.v (zk0 r_ix (zb0 1) rvi)) zs1)) zs0))) (zt3 (i:=0) (n:=1) (by decide)) zwc (RfN.ex (ztq (zl0 1) (at_d (zn0 0) zd3)))))) (zz0 (RfP.v (za7 (zl0 2) zr0)) zs1)))))) (zf1 (RfE.c zhd)) zy0) zy0)))))))
   (zf1 (RfE.c zhd))),?_⟩
 rintro as Qd a ⟨vs,ps,m,ly,left,en,kvs,W,turn,kept,rfl,S,hk,h1000,q⟩;have h12:=S.y.v12;have h24:=S.y.p24;unfold pS rwT;walk_at"ds";walk_at"a";unfold rngD;refine zkb (λi U=>∃(kp:List D)(s5 s6 s7:Sl),(∀x∈kp,Kp x)/\kp.length<=kept.length+3 * i/\U=[.bo (.ob jA [("rooms",.li ((vs.map Va.room).map .int)),("lying",.li (ly.map .int)),("pipes",.fz (.list (ps.map Pi.d))),("gates",.ls (ps.map λp=>p.g.ob jB jD jC)),("moment",.fz (.int (m:Int))),("entered",.li (en.map .int)),("coming",.dt kvs)]),.sh (zcb vs ps),.bo (.ls [.fz (.int (m:Int)),.li (ly.map .int),.li (left.map .int),.fz (.list (W.map Le.d))]),.sh (.int turn),.io a (.li kp),s5,s6,s7]) ⟨kept,.un,.un,.un,hk,by lia,rfl⟩ ?_ ?_
 ·rintro i x U hx ⟨kp,s5,s6,s7,hkp,hlen,rfl⟩;obtain⟨h1,h2⟩:=wR.mp hx;simp at h1 h2;subst h2;rw[show(0:Int)+(i:Int)=(i:Int) by lia];walk_at"a";obtain⟨b,b0,b1⟩:∃b:Int,(b=1 \/ b=4)/\atI [wK 1,wK 4] (turn % 2)=some (.int b):=by
   rcases(show turn % 2=0 \/ turn % 2=1 by lia)with h|h <;> rw[h]
   ·exact⟨1,.inl rfl,rfl⟩
   ·exact⟨4,.inr rfl,rfl⟩
  refine⟨_,b1,?_⟩;walk_at"dd";refine⟨.inl ⟨by lia,by lia⟩,hJ _ ?_⟩;clear hJ;generalize((i:Int) * b+turn / 4) % 5=part;refine zr1 (λU=>∃(kp:List D)(s7:Sl),(∀x∈kp,Kp x)/\kp.length<=kept.length+3 * i+0/\U=[.bo (.ob jA [("rooms",.li ((vs.map Va.room).map .int)),("lying",.li (ly.map .int)),("pipes",.fz (.list (ps.map Pi.d))),("gates",.ls (ps.map λp=>p.g.ob jB jD jC)),("moment",.fz (.int (m:Int))),("entered",.li (en.map .int)),("coming",.dt kvs)]),.sh (zcb vs ps),.bo (.ls [.fz (.int (m:Int)),.li (ly.map .int),.li (left.map .int),.fz (.list (W.map Le.d))]),.sh (.int turn),.io a (.li kp),.sh (.int (i:Int)),.sh (.int part),s7]) ?_ ?_
  ·walk_at"dd";refine two (λz=>?_) λz=>⟨kp,_,hkp,by lia,rfl⟩
   refine⟨vs.map Va.room,ly,ps,m,en,kvs,rfl,?_⟩;walk_at"dd";refine⟨0,_,rfl,rfl,?_⟩;walk_at"dd";refine⟨(m:Int),rfl,?_⟩;walk_at"dd";exact⟨kp,_,hkp,by lia,rfl⟩
  clear hkp hlen kp;rintro U ⟨kp,s7,hkp,hlen,rfl⟩;refine zr1 (λU=>∃(kp:List D)(s7:Sl),(∀x∈kp,Kp x)/\kp.length<=kept.length+3 * i+1/\U=[.bo (.ob jA [("rooms",.li ((vs.map Va.room).map .int)),("lying",.li (ly.map .int)),("pipes",.fz (.list (ps.map Pi.d))),("gates",.ls (ps.map λp=>p.g.ob jB jD jC)),("moment",.fz (.int (m:Int))),("entered",.li (en.map .int)),("coming",.dt kvs)]),.sh (zcb vs ps),.bo (.ls [.fz (.int (m:Int)),.li (ly.map .int),.li (left.map .int),.fz (.list (W.map Le.d))]),.sh (.int turn),.io a (.li kp),.sh (.int (i:Int)),.sh (.int part),s7]) ?_ ?_
  ·walk_at"dd";refine two (λz=>?_) λz=>⟨kp,_,hkp,by lia,rfl⟩
   walk_at"a";refine⟨vs.map Va.room,ly,ps,m,en,kvs,rfl,by rw[u4,S.ll],by rw[u4];exact h12,?_⟩;walk_at"dd";walk_at"f";have ol:=zno (vs.map Va.room) ly;rw[u4]at ol;walk_at"a";refine⟨vs,ps,m,ly,left,W,rfl,h12,S.ll,?_⟩;walk_at"dd";refine⟨(over (vs.map Va.room) ly).map λk:Nat=>(k:Int),by rw[wZ];rfl,by rw[u4];lia,?_⟩;walk_at"dd";walk_at"f";refine zr1 (λU=>∃ds:List D,(∀e∈ds,Fit 2 e)/\ds.length<=100/\U=[.bo (.ob jA [("rooms",.li ((vs.map Va.room).map .int)),("lying",.li (ly.map .int)),("pipes",.fz (.list (ps.map Pi.d))),("gates",.ls (ps.map λp=>p.g.ob jB jD jC)),("moment",.fz (.int (m:Int))),("entered",.li (en.map .int)),("coming",.dt kvs)]),.sh (zcb vs ps),.bo (.ls [.fz (.int (m:Int)),.li (ly.map .int),.li (left.map .int),.fz (.list (W.map Le.d))]),.sh (.int turn),.io a (.li kp),.sh (.int (i:Int)),.sh (.int part),.ow (.li ds)]) ?_ ?_
   ·walk_at"dd";exact two (λ_=>⟨by rw[u4];lia,_,zxq (zav _ _) (Fit.int 0),by simp;lia,rfl⟩) λ_=>⟨_,zav _ _,by rw[u4];lia,rfl⟩
   rintro U ⟨ds,fd,ld,rfl⟩;walk_at"dd";refine⟨_,_,rfl,rfl,?_⟩;walk_at"dd";refine⟨by lia,kp++[.tuple [.list ds,.list ds]],_,λx hx=>?_,by simp;lia,rfl⟩;rcases u6.mp hx with y|y
   ·exact hkp x y
   ·simp at y;exact⟨ds,y,fd⟩
  clear hkp hlen kp;rintro U ⟨kp,s7,hkp,hlen,rfl⟩;refine zr1 (λU=>∃(kp:List D)(s7:Sl),(∀x∈kp,Kp x)/\kp.length<=kept.length+3 * i+2/\U=[.bo (.ob jA [("rooms",.li ((vs.map Va.room).map .int)),("lying",.li (ly.map .int)),("pipes",.fz (.list (ps.map Pi.d))),("gates",.ls (ps.map λp=>p.g.ob jB jD jC)),("moment",.fz (.int (m:Int))),("entered",.li (en.map .int)),("coming",.dt kvs)]),.sh (zcb vs ps),.bo (.ls [.fz (.int (m:Int)),.li (ly.map .int),.li (left.map .int),.fz (.list (W.map Le.d))]),.sh (.int turn),.io a (.li kp),.sh (.int (i:Int)),.sh (.int part),s7]) ?_ ?_
  ·walk_at"dd";refine two (λz=>?_) λz=>⟨kp,_,hkp,by lia,rfl⟩
   walk_at"a";refine⟨vs.map Va.room,ly,ps,m,en,kvs,rfl,?_⟩;walk_at"dd";walk_at"b";refine⟨1,_,rfl,rfl,?_⟩;walk_at"dd";refine⟨ly,rfl,by have:=S.ll;lia,?_⟩;walk_at"dd";walk_at"f";refine zr1 (λU=>∃ds:List D,(∀e∈ds,Fit 2 e)/\ds.length<=100/\U=[.bo (.ob jA [("rooms",.li ((vs.map Va.room).map .int)),("lying",.li (ly.map .int)),("pipes",.fz (.list (ps.map Pi.d))),("gates",.ls (ps.map λp=>p.g.ob jB jD jC)),("moment",.fz (.int (m:Int))),("entered",.li (en.map .int)),("coming",.dt kvs)]),.sh (zcb vs ps),.bo (.ls [.fz (.int (m:Int)),.li (ly.map .int),.li (left.map .int),.fz (.list (W.map Le.d))]),.sh (.int turn),.io a (.li kp),.sh (.int (i:Int)),.sh (.int part),.ow (.li ds)]) ?_ ?_
   ·walk_at"dd";refine two (λ_=>?_) λ_=>⟨_,zav _ _,by rw[u4];have:=S.ll;lia,rfl⟩
    have v1:=S.y.v1;have ll:=S.ll;obtain⟨y,r,rfl⟩:∃y r,ly=y :: r:=by
     cases ly with
    |nil=>simp at ll;lia
    |cons y r=>exact⟨y,r,rfl⟩
    refine⟨⟨_,rfl⟩,(⟨rfl,?_⟩:(0:Int)=0/\_)⟩;have rl:r.length<=12:=by simp at ll;lia
    exact⟨.int (y+1),r.map .int,rfl,rfl,by rw[u4];lia,r.map .int++[.int (y+1)],zxq (zav _ _) (Fit.int _),by simp;lia,rfl⟩
   rintro U ⟨ds,fd,ld,rfl⟩;walk_at"dd";refine⟨_,_,rfl,rfl,?_⟩;walk_at"dd";refine⟨by lia,kp++[.tuple [.list ds,.list ds]],_,λx hx=>?_,by simp;lia,rfl⟩;rcases u6.mp hx with y|y
   ·exact hkp x y
   ·simp at y;exact⟨ds,y,fd⟩
  clear hkp hlen kp;rintro U ⟨kp,s7,hkp,hlen,rfl⟩;refine zr1 (λU=>∃(kp:List D)(s7:Sl),(∀x∈kp,Kp x)/\kp.length<=kept.length+3 * i+3/\U=[.bo (.ob jA [("rooms",.li ((vs.map Va.room).map .int)),("lying",.li (ly.map .int)),("pipes",.fz (.list (ps.map Pi.d))),("gates",.ls (ps.map λp=>p.g.ob jB jD jC)),("moment",.fz (.int (m:Int))),("entered",.li (en.map .int)),("coming",.dt kvs)]),.sh (zcb vs ps),.bo (.ls [.fz (.int (m:Int)),.li (ly.map .int),.li (left.map .int),.fz (.list (W.map Le.d))]),.sh (.int turn),.io a (.li kp),.sh (.int (i:Int)),.sh (.int part),s7]) ?_ ?_
  ·walk_at"dd";refine two (λz=>?_) λz=>⟨kp,_,hkp,by lia,rfl⟩
   walk_at"a";refine⟨vs.map Va.room,ly,ps,m,en,kvs,rfl,by rw[S.ag.len];exact S.wl,S.ag.len2,S.ag.plD,λR hR hs=>?_⟩;obtain rfl:R=W.map rowL:=zvq (hR.trans S.ag.perm) hs S.so;walk_at"dd";walk_at"f";have wl:=S.wl;walk_at"a";refine⟨3,_,rfl,rfl,?_⟩;walk_at"dd";refine⟨W.map rowL,by rw[wZ];rfl,by rw[u4];lia,λl hl=>?_,?_⟩
   ·obtain⟨x,_,rfl⟩:=wU.mp hl;unfold rowL;simp
   walk_at"dd";walk_at"f";refine zr1 (λU=>∃ds:List D,(∀e∈ds,Fit 2 e)/\ds.length<=100/\U=[.bo (.ob jA [("rooms",.li ((vs.map Va.room).map .int)),("lying",.li (ly.map .int)),("pipes",.fz (.list (ps.map Pi.d))),("gates",.ls (ps.map λp=>p.g.ob jB jD jC)),("moment",.fz (.int (m:Int))),("entered",.li (en.map .int)),("coming",.dt kvs)]),.sh (zcb vs ps),.bo (.ls [.fz (.int (m:Int)),.li (ly.map .int),.li (left.map .int),.fz (.list (W.map Le.d))]),.sh (.int turn),.io a (.li kp),.sh (.int (i:Int)),.sh (.int part),.ow (.li ds)]) ?_ ?_
   ·walk_at"dd";exact two (λ_=>⟨_,λe he=>by simp at he,by simp,rfl⟩) λ_=>⟨_,zxz W,by simp;lia,rfl⟩
   rintro U ⟨ds,fd,ld,rfl⟩;walk_at"dd";refine⟨_,_,rfl,rfl,?_⟩;walk_at"dd";refine⟨by lia,kp++[.tuple [.list ds,.list ds]],_,λx hx=>?_,by simp;lia,rfl⟩;rcases u6.mp hx with y|y
   ·exact hkp x y
   ·simp at y;exact⟨ds,y,fd⟩
  clear hkp hlen kp;rintro U ⟨kp,s7,hkp,hlen,rfl⟩;walk_at"dd";refine two (λz=>?_) λz=>⟨kp,_,_,_,hkp,by lia,rfl⟩
  walk_at"k";rw[u4,wH];refine⟨by lia,by lia,zq11 (λj=>.int (zzb ps j m - en.getD j 0)) (by rw[sizeLine_eq,yI];lia) (λj hj=>?_) ⟨2,_,rfl,rfl,?_⟩⟩
  ·have hj:=x9.mp hj;rw[show(0:Int)+(j:Int)=(j:Int) by lia];obtain⟨p,hp⟩:∃p,ps[j]?=some p:=⟨_,u8 hj⟩
   have ew:zzb ps j m=p.g.at m:=by unfold zzb;rw[hp];rfl
   rw[ew];walk_at"cs";walk_at"dd";refine⟨vs.map Va.room,ly,ps,m,en,kvs,j,p,en.getD j 0,rfl,hp,by rw[v7,u8 (by have:=S.el;lia)];rfl,(S.y.pu p (wT hp)).2.2.2.1,h24,?_⟩;walk_at"dd"
  walk_at"dd";refine⟨left,by rw[S.lf,wZ];rfl,by rw[S.lf,u4,yI];lia,?_⟩;walk_at"dd";exact⟨kp,_,_,_,hkp,by lia,rfl⟩
 ·rintro U ⟨kp,s5,s6,s7,hkp,hlen,rfl⟩;walk_at"f";walk_at"dd";exact⟨_,rfl,q kp hkp hlen⟩
end
structure Sd where
 m:Nat
 ly:List Int
 en:List Int
 kvs:List (List Key×D)
 W:List Le
noncomputable def zpc(ps:List Pi)(m:Nat)(en:List Int):List Int:=(w9 ps.length).map λi=>zzb ps i m - en.getD i 0
theorem zj3(ps:List Pi)(m:Nat)(en:List Int):(zpc ps m en).length=ps.length:=by simp[zpc]
theorem zqb{ps:List Pi}(h:i < ps.length):(zpc ps m en).getD i 0=zzb ps i m - en.getD i 0:=by
 unfold zpc;rw[v7,wD,List.getElem?_range h];rfl
noncomputable def zpv(C C1 C2 C3:Addr)(vs:List Va)(ps:List Pi)(s:Sd):_4.T:=pS C C1 C2 C3 (vs.map Va.room) s.ly ps s.m s.en s.kvs
noncomputable def zxm(ps:List Pi)(s:Sd):_4.T:=rwT s.m s.ly (zpc ps s.m s.en) s.W
structure SdOk(vs:List Va)(ps:List Pi)(c:Nat)(s:Sd):Prop where
 y:Yd vs ps
 ll:s.ly.length=vs.length
 el:s.en.length=ps.length
 ag:Ag s.kvs s.W
 so:(s.W.map rowL).Pairwise λa b=>lexB b a=false
 wc:s.W.length<=c
 nn:∀x∈s.ly,0<=x
 am:∀l∈s.W,1<=l.am/\l.at_ < ps.length
 eb:∀i,i < ps.length->0<=s.en.getD i 0/\s.en.getD i 0<=zzb ps i s.m
 su:s.ly.sum+amS s.W<=12000000000000
section
variable {vs:List Va}{ps:List Pi}{c:Nat}{s:Sd}
theorem zhm(Yv:Yd vs ps)(h:i < ps.length):0<=zzb ps i m/\zzb ps i m<=2000000000000:=by
 unfold zzb;rw[u8 h];exact(Yv.pu _ (zI h)).2.2.2.2 m
theorem SdOk.mono(S:SdOk vs ps c s){d:Nat}(h:c<=d):SdOk vs ps d s:=⟨S.y,S.ll,S.el,S.ag,S.so,wP S.wc h,S.nn,S.am,S.eb,S.su⟩
theorem SdOk.sn(S:SdOk vs ps c s)(h:c<=63):Sn vs ps s.m s.ly (zpc ps s.m s.en) s.en s.kvs s.W:=⟨S.y,S.ll,S.el,rfl,S.ag,S.so,by have:=S.wc;lia⟩
theorem zfd1{W:List Le}(h:∀l∈W,1<=l.am):0<=amS W:=zaf1 λl hl=>by have:=h l hl;lia
theorem SdOk.lyb(S:SdOk vs ps c s):∀y∈s.ly,0<=y/\y<=100000000000000:=λy hy=>by
 have h1:=(zow S.nn).2 hy;have h2:=zfd1 λl hl=>(S.am l hl).1;have:=S.su;exact⟨S.nn y hy,by lia⟩
theorem SdOk.leb(S:SdOk vs ps c s):∀y∈zpc ps s.m s.en,0<=y/\y<=100000000000000:=λy hy=>by
 obtain⟨i,hi,rfl⟩:=wU.mp hy;have hi:=x9.mp hi;have h1:=S.eb i hi;have h2:=zhm S.y (m:=s.m) hi;lia
theorem SdOk.plk(S:SdOk vs ps c s)(h:c<=63):PlOk vs ps s.m s.ly s.en s.kvs:=by
 refine⟨S.y,S.ll,S.el,by rw[S.ag.len];have:=S.wc;lia,S.ag.ai,λj hj=>?_⟩;have h1:=S.eb j hj;have h2:=zhm S.y (m:=s.m) hj;lia
theorem SdOk.code(k am:Int):dueF ps.length k am ((zpc ps s.m s.en).getD k.toNat 0) (s.ly.getD (zt1 ps k.toNat) 0)=zui ps s.m s.ly s.en k am:=by
 unfold zui;by_cases h:k < 0 \/ (ps.length:Int)<=k
 ·unfold dueF;rw[if_pos h,if_pos h]
 ·rw[zqb (by lia)]
noncomputable def goS(ps:List Pi)(s:Sd):Sd:=⟨s.m+1,zlf ps (s.m+1) s.W s.ly,v9 ps.length 0,arrK s.kvs ((s.m+1:Nat):Int) ps.length,ze7 (s.m+1) s.W⟩
theorem zvw(ps:List Pi)(m:Nat):zpc ps m (v9 ps.length 0)=zsn ps m:=by
 refine ztp (by rw[zj3];simp[zsn]) λx=>?_;by_cases h:x < ps.length
 ·rw[zqb h,zmt h,v7,xK,if_pos h];show _ - 0=_;lia
 ·rw[v7,v7,w8 (by rw[zj3];lia),w8 (by simp[zsn];lia)]
theorem SdOk.go(S:SdOk vs ps c s):SdOk vs ps c (goS ps s):=by
 have hv:∀p∈ps,p.v < s.ly.length:=λp hp=>by rw[S.ll];exact(S.y.pu p hp).2.1
 have sub:(ze7 (s.m+1) s.W).Sublist s.W:=zJ;refine⟨S.y,?_,by simp[goS],S.ag.go (s.m+1) λl hl=>(S.am l hl).2,?_,?_,?_,λl hl=>S.am l (sub.subset hl),λi hi=>?_,?_⟩
 ·show(zlf ps (s.m+1) s.W s.ly).length=_;unfold zlf;rw[zmb,S.ll]
 ·exact List.Pairwise.sublist (sub.map _) S.so
 ·exact wP sub.length_le S.wc
 ·exact zyw (λl hl=>(S.am l hl).1) S.nn
 ·have h2:=zhm S.y (m:=s.m+1) hi;show 0<=(v9 ps.length (0:Int)).getD i 0/\(v9 ps.length (0:Int)).getD i 0<=zzb ps i (s.m+1);rw[v7,xK,if_pos hi];exact⟨yZ _,h2.1⟩
 ·have:=zzk (ps:=ps) (t:=s.m+1) (W:=s.W) (ly:=s.ly) λl hl=>zuo hv (S.am l hl).2;have:=S.su;show(zlf ps (s.m+1) s.W s.ly).sum+amS (ze7 (s.m+1) s.W)<=_;lia
theorem SdOk.goR(S:SdOk vs ps c s):rwT (s.m+1) (zlf ps (s.m+1) s.W s.ly) (zsn ps (s.m+1)) (ze7 (s.m+1) s.W)=zxm ps (goS ps s):=by
 unfold zxm goS;rw[zvw]
theorem SdOk.goP(S:SdOk vs ps c s)(C C1 C2 C3:Addr):pS C C1 C2 C3 (vs.map Va.room) (arrL ps s.kvs ((s.m+1:Nat):Int) ps.length s.ly) ps (s.m+1) (v9 ps.length 0) (arrK s.kvs ((s.m+1:Nat):Int) ps.length)=zpv C C1 C2 C3 vs ps (goS ps s):=by
 rw[S.ag.come (λp hp=>by rw[S.ll];exact(S.y.pu p hp).2.1) (s.m+1) λl hl=>(S.am l hl).2];rfl
noncomputable def letS(ps:List Pi)(s:Sd)(j:Nat)(am:Int)(W':List Le):Sd:=⟨s.m,s.ly.set (zt1 ps j) (s.ly.getD (zt1 ps j) 0 - am),s.en.set j (s.en.getD j 0+am),putD s.kvs (kTI ((s.m:Int)+(pl ps j:Int)) j) (.int (cm s.kvs ((s.m:Int)+(pl ps j:Int)) j+am)),W'⟩
theorem zox{ps:List Pi}(el:en.length=ps.length){j:Nat}(hj:j < ps.length)(am:Int):(zpc ps m en).set j ((zpc ps m en).getD j 0 - am)=zpc ps m (en.set j (en.getD j 0+am)):=by
 refine ztp (by rw[xH,zj3,zj3]) λx=>?_;rw[zx5 _ _ _ (by rw[zj3];exact hj)];by_cases h:x < ps.length
 ·rw[zqb h,zqb hj,zqb h,zx5 _ _ _ (by rw[el];exact hj)];by_cases e:j=x
  ·subst e;rw[if_pos rfl,if_pos rfl];lia
  ·rw[if_neg e,if_neg e]
 ·rw[if_neg (by lia),v7,v7,w8 (by rw[zj3];lia),w8 (by rw[zj3];lia)]
theorem zdy(Yv:Yd vs ps){j:Nat}(hj:j < ps.length):zt1 ps j < vs.length:=by
 unfold zt1;rw[u8 hj];exact(Yv.pu _ (zI hj)).1
theorem zpg1{k:Int}(h:zui ps s.m s.ly s.en k am=4):∃j:Nat,k=(j:Int)/\j < ps.length/\1<=am/\am<=zzb ps j s.m - s.en.getD j 0/\am<=s.ly.getD (zt1 ps j) 0:=by
 unfold zui dueF at h;split at h
 ·cases h
 ·rename_i h1
  split at h
  ·cases h
  ·rename_i h2
   split at h
   ·cases h
   ·rename_i h3
    split at h
    ·cases h
    ·rename_i h4
     obtain⟨j,rfl⟩:=xX (show 0<=k by lia);rw[wH]at h3 h4;exact⟨j,rfl,by lia,by lia,by lia,by lia⟩
theorem SdOk.let_(S:SdOk vs ps c s){j:Nat}{W':List Le}(hj:j < ps.length)(a1:1<=am)(a2:am<=zzb ps j s.m - s.en.getD j 0)(a3:am<=s.ly.getD (zt1 ps j) 0)
  (hW:W'.Perm (zfg (s.m+pl ps j) j s.W++[⟨s.m+pl ps j,j,am+sL s.W (λx=>if x.at_=j/\x.t=s.m+pl ps j then x.am else 0)⟩])) (hs:(W'.map rowL).Pairwise (λa b=>lexB b a=false)):SdOk vs ps (c+1) (letS ps s j am W'):=by
 have hu:=zdy S.y hj;have rs:=zzq (t:=s.m+pl ps j) (i:=j) s.W;have hk:=S.ag.cmS (s.m+pl ps j) j;rw[hk]at hW rs;have hc:0<=cm s.kvs ((s.m+pl ps j:Nat):Int) j:=by
  rw[<- hk];exact zaf1 λl hl=>by have:=(S.am l hl).1;split <;> lia
 have ek:(s.m:Int)+(pl ps j:Int)=((s.m+pl ps j:Nat):Int):=by lia
 refine⟨S.y,by simp[letS,S.ll],by simp[letS,S.el],?_,hs,?_,λx hx=>?_,λl hl=>?_,λi hi=>?_,?_⟩
 ·show Ag (putD s.kvs (kTI ((s.m:Int)+(pl ps j:Int)) j) (.int (cm s.kvs ((s.m:Int)+(pl ps j:Int)) j+am))) W';rw[ek,Int.add_comm];exact S.ag.put hW
 ·show W'.length<=c+1;rw[hW.length_eq,yB];have:(zfg (s.m+pl ps j) j s.W).length<=s.W.length:=yX _ _;have:=S.wc;simp;lia
 ·rcases uaM hx with z|z
  ·exact S.nn x z
  ·lia
 ·rcases u6.mp (hW.mem_iff.mp hl)with z|z
  ·exact S.am l (yJ.mp z).1
  ·have z:=zD.mp z;subst z;exact⟨by show 1<=am+cm s.kvs ((s.m+pl ps j:Nat):Int) j;lia,hj⟩
 ·show 0<=(s.en.set j (s.en.getD j 0+am)).getD i 0/\(s.en.set j (s.en.getD j 0+am)).getD i 0<=zzb ps i s.m;rw[zx5 _ _ _ (by rw[S.el];exact hj)];have:=S.eb i hi;by_cases e:j=i
  ·subst e;rw[if_pos rfl];lia
  ·rw[if_neg e];exact this
 ·have e1:amS W'=amS (zfg (s.m+pl ps j) j s.W)+(am+cm s.kvs ((s.m+pl ps j:Nat):Int) j):=by
   unfold amS;rw[zi31 hW,zt21,zs2,zgn];show _+(am+cm s.kvs ((s.m+pl ps j:Nat):Int) j+0)=_;lia
  have e2:=zss s.ly (zt1 ps j) (s.ly.getD (zt1 ps j) 0 - am) (by rw[S.ll];exact hu);have:=S.su;show(s.ly.set (zt1 ps j) (s.ly.getD (zt1 ps j) 0 - am)).sum+amS W'<=_;lia
theorem SdOk.letR(S:SdOk vs ps c s){j:Nat}(hj:j < ps.length)(am:Int)(W':List Le):rwT s.m (s.ly.set (zt1 ps j) (s.ly.getD (zt1 ps j) 0 - am)) ((zpc ps s.m s.en).set j ((zpc ps s.m s.en).getD j 0 - am)) W'=zxm ps (letS ps s j am W'):=by
 rw[zox S.el hj];rfl
theorem letP(C C1 C2 C3:Addr)(vs:List Va)(ps:List Pi)(s:Sd)(j:Nat)(am:Int)(W':List Le):letT C C1 C2 C3 (vs.map Va.room) s.ly ps s.m s.en s.kvs j am=zpv C C1 C2 C3 vs ps (letS ps s j am W'):=rfl
theorem ztr{b:Int}(vs:List Va)(h:∀v∈vs,v.fill<=b):(vs.map Va.fill).sum<=b * vs.length:=by
 have:=zj71 (b:=b) (h:=vs.map Va.fill) λx hx=>by
  obtain⟨v,hv,rfl⟩:=wU.mp hx;exact h v hv
 rwa [u4]at this
theorem SdOk.start(Yv:Yd vs ps):SdOk vs ps 0 ⟨0,vs.map Va.fill,v9 ps.length 0,[],[]⟩:=by
 refine⟨Yv,by simp,by simp,Ag.none,by simp,by simp,λx hx=>?_,λl hl=>by simp at hl,λi hi=>?_,?_⟩
 ·obtain⟨v,hv,rfl⟩:=wU.mp hx;exact(Yv.va v hv).1
 ·have h2:=zhm Yv (m:=0) hi;show 0<=(v9 ps.length (0:Int)).getD i 0/\(v9 ps.length (0:Int)).getD i 0<=zzb ps i 0;rw[v7,xK,if_pos hi];exact⟨yZ _,h2.1⟩
 ·have h1:=ztr vs (b:=1000000000000) λv hv=>by have:=Yv.va v hv;lia
  have h2:=Yv.v12;show(vs.map Va.fill).sum+0<=_;lia
end
theorem zu21{α:Type}(f:Nat->α)(h:s < 2):[f 0,f 1][s]?=some (f s):=by
 rcases(show s=0 \/ s=1 by lia)with rfl|rfl <;> rfl
noncomputable def upS(S:Nat->Sd)(s:Nat)(x:Sd):Nat->Sd:=λi=>if i=s then x else S i
theorem zlf1{vs:List Va}{ps:List Pi}{c d:Nat}{S:Nat->Sd}{x:Sd}(h:∀i,i < 2->SdOk vs ps c (S i))(hx:SdOk vs ps d x)(hd:c<=d):∀i,i < 2->SdOk vs ps d (upS S s x i):=λi hi=>by
 unfold upS;split
 ·exact hx
 ·exact(h i hi).mono hd
theorem zyb1{vs:List Va}(h:∀v∈vs,v.nm.cps.all (· < 0x110000)=true):Fit 2 (.list (vs.map Va.d)):=zio λv hv=>Fit.tup λe he=>by
 simp at he;rcases he with rfl|rfl|rfl
 ·exact Fit.str (h v hv)
 ·exact Fit.int _
 ·exact Fit.int _
theorem zv91(g:Gt):Fit 1 g.d:=by
 cases g <;> exact Fit.tup λe he=>by
  simp at he;rcases he with rfl|rfl|rfl|rfl <;> first|exact Fit.int _|exact Fit.str (by decide +kernel)
theorem zk11{vs:List Va}{ps:List Pi}(Yv:Yd vs ps):Fit 4 (zcb vs ps):=by
 have f1:=zyb1 λv hv=>(Yv.va v hv).2.2.2;have f2:Fit 3 (.list (ps.map Pi.d)):=zio λp _=>Fit.tup λe he=>by
  simp at he;rcases he with rfl|rfl|rfl|rfl|rfl
  ·exact Fit.int _
  ·exact Fit.int _
  ·exact Fit.int _
  ·exact Fit.int _
  ·exact zv91 _
 exact Fit.tup λe he=>by
  simp at he;rcases he with rfl|rfl
  ·exact f1.mono (by decide)
  ·exact f2
noncomputable def plsT(C C1 C2 C3:Addr)(vs:List Va)(ps:List Pi)(S:Nat->Sd):_4.T:=.ls [zpv C C1 C2 C3 vs ps (S 0),zpv C C1 C2 C3 vs ps (S 1)]
noncomputable def rwsT(ps:List Pi)(S:Nat->Sd):_4.T:=.ls [zxm ps (S 0),zxm ps (S 1)]
theorem zb61{α:Type}(l:List α)(t:Nat):cutG l none (some (t:Int))=l.take t:=by
 unfold cutG;rw[HT.sIx_nat,HT.sIx_none,List.drop_zero,Nat.sub_zero];by_cases h:t<=l.length
 ·rw[Nat.min_eq_left h]
 ·rw[Nat.min_eq_right (by lia),uaP (u3 _),uaP (by lia)]
theorem zkh(f:Nat->T)(hs:s < 2){Q:Nat->T->Prop}(h:Q s (f s)):nIx (.ls [f 0,f 1]) (.int (s:Int)) Q:=⟨s,f s,zjh hs,zu21 f hs,h⟩
theorem zps(C C1 C2 C3:Addr)(vs:List Va)(ps:List Pi)(S:Nat->Sd)(hs:s < 2)(x:Sd):setP (plsT C C1 C2 C3 vs ps S) [.ix s] (zpv C C1 C2 C3 vs ps x)=plsT C C1 C2 C3 vs ps (upS S s x):=by
 rcases(show s=0 \/ s=1 by lia)with rfl|rfl <;> rfl
theorem zuw(ps:List Pi)(S:Nat->Sd)(hs:s < 2)(x:Sd):setP (rwsT ps S) [.ix s] (zxm ps x)=rwsT ps (upS S s x):=by
 rcases(show s=0 \/ s=1 by lia)with rfl|rfl <;> rfl
theorem zc51(S:Nat->Sd)(s:Nat):upS S s (S s)=S:=by
 funext i;unfold upS;split
 ·rename_i h;rw[h]
 ·rfl
theorem zi61(C C1 C2 C3:Addr)(vs:List Va)(ps:List Pi)(S:Nat->Sd)(hs:s < 2)(x:Sd)(j:Nat)(am:Int)(W W':List Le):plsT C C1 C2 C3 vs ps (upS S s (letS ps x j am W))=plsT C C1 C2 C3 vs ps (upS S s (letS ps x j am W')):=by
 rcases(show s=0 \/ s=1 by lia)with rfl|rfl <;> rfl
section
variable {P:Program}{w:World}{K:Fg}{mg:Str->Option Value}{base:Heap}{jB jD jC jA:Addr}
theorem zy51:FnScope ["script", "yard", "handed", "plays", "kept", "rows", "cell", "side", "deed", "due", "found", "told", "turn", "k"] ["script"] (zh0 zt11):=by walk_at"sc"
theorem za21(jX:mg "list"=none)(kR:mg "range"=none)(jN:Def P w K mg base "_law_draw" 1 ["script", "k"] (spD K zwb))(uY:Def P w K mg base "_law_yard" 4 ["script"] (spD K zsi))(kA:Def P w K mg base "_law_whole" 1 ["found", "due"] (spD K zy9))(uZ:Def P w K mg base "_law_done" 4 ["play", "deed"] (spT K (zfi jA jB jD jC)))(qY:Def P w K mg base "_law_begin" 2 ["yard"] (spT K zyf))(vM:Def P w K mg base "_law_due" 2 ["yard", "rows", "deed"] (spT K zzm))(uD:Def P w K mg base "_law_gone_on" 2 ["yard", "rows"] (spT K zad))(uI:Def P w K mg base "_law_let_in" 1 ["yard", "rows", "at", "amount"] (spT K zwd))(vA:Def P w K mg base "_law_deed" 1 ["yard", "rows", "cell"] (spT K zki))(uG:Def P w K mg base "_law_seen" 4 ["play", "yard", "rows", "turn", "kept"] (spT K (zij jA jB jD jC)))(vZ:zdt P w K mg base "Play" jA 4 ["self", "yard"] (spT K (zba jA jB jD jC))) :
  ∀(f:Addr)(cdv:Value)(A:Around)(outer:List Env)(s:Shared)(H:Hp)(E:XK),Room 5 (A.deeper (envOfC "law" (zh0 zt11) s.heap.objs.size f cdv)) ->
   ∃t d,PSs (cxOf CX0 P w K mg base ["script", "yard", "handed", "plays", "kept", "rows", "cell", "side", "deed", "due", "found", "told", "turn", "k"] "law" (zh0 zt11) f cdv A outer s H E).nox (zu3 zt11) t/\RfS K t d/\∀(ns:List Int)(Qd:D->Prop),ns.length<=63->Qd (.bool true)->d { nx:=λ_=>Qd .none,rt:=rD Qd } (zph ["script", "yard", "handed", "plays", "kept", "rows", "cell", "side", "deed", "due", "found", "told", "turn", "k"] [.list (ns.map .int)]):=by
 walk_at"g";have nd:=zy51.nd;refine⟨_,_,(zd0 (pset 1 nd (zq0 uY (rmn hr) rfl (za0 (pv 0) zg0)))
   (zd0 (pset 2 nd (zz4 (za0 (zp2 (zg2 (K:=K) rfl) rfl jX zv8 (za0 (pix w K hr (pv 1) zc0) zg0)) (za0 (zp2 (zg2 (K:=K) rfl) rfl jX zv8 (za0 (pix w K hr (pv 1) zc0) zg0)) zg0))))
   (zd0 (pset 3 nd (zj1 (za0 (zsd vZ (rmn hr) rfl (za0 (pv 2) zg0)) (za0 (zsd vZ (rmn hr) rfl (za0 (pv 2) zg0)) zg0))))
   (zd0 (zf4 (zv0 (zx1 (K:=K) rfl (Room.units hr)) (zu0 zh1 (zq0 jN (rmn hr) rfl (za0 (pv 0) (za0 zc0 zg0))) zc0) zc0 (zd1 _)) (zd0 (zl8 (zgs (K:=K) rfl ğa ğe ğf zqk (pix w K hr (pv 2) zc0)))
   (zi0 (zl8 (zgs (K:=K) rfl ğa ğe ğf zqk (pix w K hr (pv 2) zc0))))) zx0)
   (zd0 (pset 4 nd (zj1 zg0))
   (zd0 (pset 5 nd (zj1 (za0 (zq0 qY (rmn hr) rfl (za0 (pv 1) zg0)) (za0 (zq0 qY (rmn hr) rfl (za0 (pv 1) zg0)) zg0))))
   (zd0 (zqh PassesOwn.never rfl (pi_W (K:=K) rfl (zg01 (sl_W (K:=K) rfl) (pv 0) ziw (zmj zc0))) (pgn 6 nd) (zd0 (pset 7 nd (zu0 zh1 (pv 6) zc0))
   (zd0 (pset 6 nd (zu0 zc1 (pv 6) zc0))
   (zd0 (pset 8 nd (zq0 vA (rmn hr) rfl (za0 (pv 1) (za0 (pix w K hr (pv 5) (pv 7)) (za0 (pv 6) zg0)))))
   (zd0 (pset 9 nd (zq0 vM (rmn hr) rfl (za0 (pv 1) (za0 (pix w K hr (pv 5) (pv 7)) (za0 (pv 8) zg0)))))
   (zd0 (pset 10 nd (zq0 uZ (rmn hr) rfl (za0 (pix w K hr (pv 3) (pv 7)) (za0 (pv 8) zg0))))
   (zd0 (zf4 (PW.pt (zvn (zv0 zyc1 (pv 9) zc0 (zd1 _)) (zvf (zv0 (zwj (K:=K) rfl (Room.units hr)) (pv 10) (zb7 (sc:=zh0 zt11) (N:=["script", "yard", "handed", "plays", "kept", "rows", "cell", "side", "deed", "due", "found", "told", "turn", "k"]) (own:=["k"]) (ix:=[9]) rfl rfl rfl (by walk_at"csc") (zv7 rfl kR (za0 zc0 zg0)) (λ_ _ _ _=>⟨(pgn 0 (nds ["k", "due"])),zea,(zkg (zx1 (K:=K) rfl (Room.units hr)) (pv 1) (pv 0) (zd1 _))⟩)) (zd1 _))))) (zi0 (ze1 zpj)) zx0)
   (zd0 (zf4 (zv0 zyt (pv 9) zc0 (zd1 _)) (zd0 (zf4 (zv0 (zx1 (K:=K) rfl (Room.units hr)) (pv 8) (zj1 zg0) (zd1 _)) (zi0 (pset 11 nd (zq0 uD (rmn hr) rfl (za0 (pv 1) (za0 (pix w K hr (pv 5) (pv 7)) zg0))))) (zi0 (pset 11 nd (zq0 uI (rmn hr) rfl (za0 (pv 1) (za0 (pix w K hr (pv 5) (pv 7)) (za0 (pix w K hr (pv 8) zc0) (za0 (pix w K hr (pv 8) zc0) zg0))))))))
   (zi0 (zf4 (zka (zr5 (K:=K) rfl (zq0 kA (rmn hr) rfl (za0 (pv 10) (za0 (pv 11) zg0))) (λ_=>rfl))) (zi0 (ze1 zpj)) zx0))) zx0)
   (zd0 (zf4 (zv0 (zx1 (K:=K) rfl (Room.units hr)) (zu0 zh1 (zu0 zc1 (pv 6) zc0) zc0) zc0 (zd1 _)) (zi0 znn) zx0)
   (zd0 (pset 12 nd (zu0 zc1 (pv 6) zc0))
   (zi0 (zf4 (zka (zr5 (K:=K) rfl (zq0 uG (rmn hr) rfl (za0 (pix w K hr (pv 3) (pv 7)) (za0 (pv 1) (za0 (pix w K hr (pv 5) (pv 7)) (za0 (pv 12) (za0 (pv 4) zg0)))))) (λ_=>rfl))) (zi0 (ze1 zpj)) zx0))))))))))))
   (zd0 (zqh PassesOwn.never rfl (zv7 rfl kR (za0 zc0 zg0)) (pgn 13 nd) (zi0 (zf4 (zka (zr5 (K:=K) rfl (zq0 uG (rmn hr) rfl (za0 (pix w K hr (pv 3) (pv 13)) (za0 (pv 1) (za0 (pix w K hr (pv 5) (pv 13)) (za0 (zq0 jN (rmn hr) rfl (za0 (pv 0) (za0 (zu0 (za1 (K:=K) rfl) zc0 (pv 13)) zg0))) (za0 (pv 4) zg0)))))) (λ_=>rfl))) (zi0 (ze1 zpj)) zx0)))
   (zd0 (zf4 (PW.pt (zvn (zv0 (zx1 (K:=K) rfl (Room.units hr)) (zu0 zh1 (zq0 jN (rmn hr) rfl (za0 (pv 0) (za0 zc0 zg0))) zc0) zc0 (zd1 _)) (zvf (zv0 (zwj (K:=K) rfl (Room.units hr)) (pv 2) (pv 1) (zd1 _))))) (zi0 (ze1 zpj)) zx0)
   (zi0 (ze1 (zkg (zx1 (K:=K) rfl (Room.units hr)) (zb7 (sc:=zh0 zt11) (N:=["script", "yard", "handed", "plays", "kept", "rows", "cell", "side", "deed", "due", "found", "told", "turn", "k"]) (own:=["told", "twin"]) (ix:=[]) rfl rfl rfl (by walk_at"csc") (pi_W (K:=K) rfl (pv 4)) (λ_ _ _ _=>⟨(zte (K:=K) (n:=2) rfl rfl (ze2 (pgn 0 (nds ["told", "twin"])) (ze2 (pgn 1 (nds ["told", "twin"])) zwe))),(zfn (zv0 (zwj (K:=K) rfl (Room.units hr)) (pv 0) (pv 1) (zd1 _))),(pv 0)⟩)) (zj1 zg0) (zd1 _))))))))))))),(zo0 (zi1 (zn1 (ze0 (zn0 0) zs0)) (rgn 1))
   (zo0 (zaa (RfN.c (zq31 (RfF.new (zms ztg (zz0 (RfE.v (zk0 r_ix (zb0 1) rvi)) zs1))) (RfF.new (zms ztg (zz0 (RfE.v (zk0 r_ix (zb0 1) rvi)) zs1))))))
   (zo0 (zaa (RfN.c (zbx (zeh (zci (at_b (zl0 2) zd3)) (zeh (zci (at_b (zl0 2) zd3)) zyv)))))
   (zo0 (zy6 (zt0 (zm1 q_eq (RfV.h (RfE.v (zk0 zg4 (RfE.v (zn1 (ze0 (zn0 0) (ze0 zr0 zs0)))) rvi))) (RfV.h rvi))) (zo0 (zfa (zhz zsj (za7 (zl0 2) zr0)))
   (zfa (zhz zsj (za7 (zl0 2) zr0)))) zy0)
   (zo0 (zaa (RfF.c (zo6 zs0)))
   (zo0 (zaa (RfN.c (zbx (zeh (zli (at_d (zn0 1) zd3)) (zeh (zli (at_d (zn0 1) zd3)) zyv)))))
   (zo0 (zqg (za91 (zzf1 (zb0 0) zaw (zyp zr0))) (rgn 6) (zo0 (zi1 (zk0 zg4 (zb0 6) rvi) (rgn 7))
   (zo0 (zi1 (zk0 zac (zb0 6) rvi) (rgn 6))
   (zo0 (zaa (zle (at_d (zn0 1) (at_b (za7 (zl0 5) (zn0 7)) (at_d (zn0 6) zd3)))))
   (zo0 (zaa (zle (at_d (zn0 1) (at_b (za7 (zl0 5) (zn0 7)) (at_d (zn0 8) zd3)))))
   (zo0 (zaa (zle (at_o (za7 (zl0 3) (zn0 7)) (at_d (zn0 8) zd3))))
   (zo0 (zy6 (zzn (zt0 (zk0 r_ge (zb0 9) rvi)) (zt0 (zm1 q_ne (RfV.h (zb0 10)) (RfV.h (RfE.v (RfF.e (zp8 (RfI.j (zcf (ze0 zr0 zs0))) (zt3 (i:=0) (n:=1) (by decide)) zwc (zm1 q_eq (RfV.h (zb0 1)) (RfV.h (zb0 0)))))))))) (zf1 (RfE.c zhd)) zy0)
   (zo0 (zy6 (zt0 (zk0 r_lt (zb0 9) rvi)) (zo0 (zy6 (zt0 (zm1 q_eq (RfV.h (zb0 8)) (zwn zxn))) (zaa (zle (at_d (zn0 1) (at_o (za7 (zl0 5) (zn0 7)) zd3)))) (zaa (zle (at_d (zn0 1) (at_o (za7 (zl0 5) (zn0 7)) (at_d (zk0 r_ix (zb0 8) rvi) (at_d (zk0 r_ix (zb0 8) rvi) zd3)))))))
   (zy6 (zoc (zgd (RfE.v (zn1 (ze0 (zn0 10) (ze0 (zn0 11) zs0)))))) (zf1 (RfE.c zhd)) zy0)) zy0)
   (zo0 (zy6 (zt0 (zm1 q_eq (RfV.h (RfE.v (zk0 zg4 (RfE.v (zk0 zac (zb0 6) rvi)) rvi))) (RfV.h rvi))) zw31 zy0)
   (zo0 (zi1 (zk0 zac (zb0 6) rvi) (rgn 12))
   (zn41 (zt31 (ru_c (zle (at_b (za7 (zl0 3) (zn0 7)) (at_d (zn0 1) (at_b (za7 (zl0 5) (zn0 7)) (at_d (zn0 12) (at_o (zl0 4) zd3)))))))) (zf1 (RfE.c zhd)) zy0)))))))))))
   (zo0 (zqg (zcf (ze0 zr0 zs0)) (rgn 13) (zn41 (zt31 (ru_c (zle (at_b (za7 (zl0 3) (zn0 13)) (at_d (zn0 1) (at_b (za7 (zl0 5) (zn0 13)) (at_d (zn1 (ze0 (zn0 0) (ze0 (zk0 zf6 rvi (zb0 13)) zs0))) (at_o (zl0 4) zd3)))))))) (zf1 (RfE.c zhd)) zy0))
   (zo0 (ztc1 2 (zy6 (zzn (zt0 (zm1 q_eq (RfV.h (RfE.v (zk0 zg4 (RfE.v (zn1 (ze0 (zn0 0) (ze0 zr0 zs0)))) rvi))) (RfV.h rvi))) (zt0 (zm1 q_ne (RfV.h (zb0 2)) (RfV.h (zb0 1))))) (zf1 (RfE.c zhd)) zy0))
   (zf1 (RfE.c (zm1 q_eq (RfV.h (RfE.v (RfF.e (zp8 (ziy (zb0 4)) (zpn (zc3 (zt3 (i:=0) (n:=2) (by decide)) (zc3 (zt3 (i:=1) (n:=2) (by decide)) zwf))) (zt0 (zm1 q_ne (RfV.h (zb0 0)) (RfV.h (zb0 1)))) (zn0 0))))) (zwn zxn))))))))))))),?_⟩
 intro ns Qd hns q;walk_at"ds";walk_at"a";refine⟨ns,rfl,λvs ps Yv=>hJ _ ?_⟩;walk_at"c";refine⟨_,rfl,_,rfl,hJ _ ?_⟩;walk_at"c";refine⟨vs,ps,rfl,Yv.v12,Yv.p24,trivial,vs,ps,rfl,Yv.v12,Yv.p24,trivial,hJ _ ?_⟩;clear hJ;refine zr1 (λU=>∃ha hb:List D,(zdc1 ns 3 % 2=0->ha=vs.map Va.d/\hb=ps.map Pi.d)/\U=[.sh (.list (ns.map .int)),.sh (zcb vs ps),.ow (.tp [.li ha,.li hb]),.ow (plsT jA jB jD jC vs ps λ_=>⟨0,vs.map Va.fill,v9 ps.length 0,[],[]⟩),.un,.un,.un,.un,.un,.un,.un,.un,.un,.un]) ?_ ?_
 ·walk_at"dd";refine⟨ns,3,rfl,by lia,λd d0 d1=>?_⟩;walk_at"dd";refine two (λz=>?_) λz=>⟨_,_,λ_=>⟨rfl,rfl⟩,rfl⟩
  walk_at"a";refine⟨0,_,rfl,rfl,?_⟩;walk_at"dd";walk_at"f";walk_at"dd";refine⟨1,_,rfl,rfl,?_⟩;walk_at"dd";exact⟨_,_,λy=>by lia,rfl⟩
 rintro U ⟨ha,hb,hh,rfl⟩;walk_at"dn";walk_at"a";refine⟨vs,ps,rfl,Yv,vs,ps,rfl,Yv,hJ _ ?_⟩;clear hJ;have er:rwT 0 (vs.map Va.fill) (zsn ps 0) []=zxm ps ⟨0,vs.map Va.fill,v9 ps.length 0,[],[]⟩:=by
  unfold zxm;rw[zvw]
 rw[er];walk_at"a";rw[zm01,show cutG ns none (some 63)=ns.take 63 from zb61 ns 63];refine zkb (λi U=>∃(S:Nat->Sd)(kp:List D)(s6 s7 s8 s9 s10 s11 s12 s13:Sl),(∀s,s < 2->SdOk vs ps i (S s))/\(∀x∈kp,Kp x)/\kp.length<=15 * i/\U=[.sh (.list (ns.map .int)),.sh (zcb vs ps),.ow (.tp [.li ha,.li hb]),.ow (plsT jA jB jD jC vs ps S),.ow (.li kp),.ow (rwsT ps S),s6,s7,s8,s9,s10,s11,s12,s13]) ⟨_,[],.un,.un,.un,.un,.un,.un,.un,.un,λ_ _=>SdOk.start Yv,λx hx=>by simp at hx,by simp,rfl⟩ ?_ ?_
 ·rintro i c U hx ⟨S,kp,s6,s7,s8,s9,s10,s11,s12,s13,hS,hkp,hlen,rfl⟩;clear hJ;have hi:i < 63:=by
   have:=(wR.mp hx).1;rw[yA]at this;lia
  obtain⟨s,es,hs⟩:∃s:Nat,c % 2=(s:Int)/\s < 2:=⟨(c % 2).toNat,by lia,by lia⟩
  have O:=hS s hs;walk_at"a";walk_at"f";rw[es];walk_at"a";walk_at"f";generalize c / 2=e;refine zf0 λJ hJ=>?_;have key:∀dd:Option (Int×Int),(∀k am,dd=some (k,am)->-1<=k/\k<=(ps.length:Int)/\-10000000000000000000000000000000000000000 < am/\am < 10000000000000000000000000000000000000000)->J [.sh (.list (ns.map .int)),.sh (zcb vs ps),.ow (.tp [.li ha,.li hb]),.ow (plsT jA jB jD jC vs ps S),.ow (.li kp),.ow (rwsT ps S),.sh (.int e),.sh (.int (s:Int)),.sh (zkj dd),s9,s10,s11,s12,s13]:=λdd hd=>by
   walk_at"b";refine zkh (λi=>zxm ps (S i)) hs ⟨vs,ps,(S s).m,(S s).ly,zpc ps (S s).m (S s).en,(S s).W,dd,rfl,Yv,O.ll,zj3 _ _ _,?_⟩;walk_at"dd";walk_at"f";refine zr1 (λU=>(∃n:Nat,n < 5/\dueN vs ps (S s).ly (zpc ps (S s).m (S s).en) dd=(n:Int)/\U=[.sh (.list (ns.map .int)),.sh (zcb vs ps),.ow (.tp [.li ha,.li hb]),.ow (plsT jA jB jD jC vs ps S),.ow (.li kp),.ow (rwsT ps S),.sh (.int e),.sh (.int (s:Int)),.sh (zkj dd),.sh (.int (dueN vs ps (S s).ly (zpc ps (S s).m (S s).en) dd)),.sh (.list (zsw n)),s11,s12,s13]) \/ (dd=none/\dueN vs ps (S s).ly (zpc ps (S s).m (S s).en) dd=-1/\U=[.sh (.list (ns.map .int)),.sh (zcb vs ps),.ow (.tp [.li ha,.li hb]),.ow (plsT jA jB jD jC vs ps (upS S s (goS ps (S s)))),.ow (.li kp),.ow (rwsT ps S),.sh (.int e),.sh (.int (s:Int)),.sh (zkj dd),.sh (.int (dueN vs ps (S s).ly (zpc ps (S s).m (S s).en) dd)),.sh (.int (((S s).m+1:Nat):Int)),s11,s12,s13]) \/
    (∃(j:Nat)(am:Int),dd=some ((j:Int),am)/\j < ps.length/\1<=am/\am<=zzb ps j (S s).m - (S s).en.getD j 0/\am<=(S s).ly.getD (zt1 ps j) 0/\dueN vs ps (S s).ly (zpc ps (S s).m (S s).en) dd=-1/\U=[.sh (.list (ns.map .int)),.sh (zcb vs ps),.ow (.tp [.li ha,.li hb]),.ow (plsT jA jB jD jC vs ps (upS S s (letS ps (S s) j am []))),.ow (.li kp),.ow (rwsT ps S),.sh (.int e),.sh (.int (s:Int)),.sh (zkj dd),.sh (.int (dueN vs ps (S s).ly (zpc ps (S s).m (S s).en) dd)),.sh (.int ((S s).ly.getD (zt1 ps j) 0 - am)),s11,s12,s13])) ?_ ?_
   ·have same:setP (plsT jA jB jD jC vs ps S) [.ix s] (pS jA jB jD jC (vs.map Va.room) (S s).ly ps (S s).m (S s).en (S s).kvs)=plsT jA jB jD jC vs ps S:=by
     have h:=zps jA jB jD jC vs ps S hs (S s);rw[zc51]at h;exact h
    walk_at"dd";refine zkh (λi=>zpv jA jB jD jC vs ps (S i)) hs ⟨trivial,vs,(S s).ly,ps,(S s).m,(S s).en,(S s).kvs,dd,rfl,O.plk (by lia),?_⟩;cases dd with
   |none =>
     refine⟨λz=>.inl ⟨4,by decide,if_neg z,?_⟩,λz=>.inr (.inl ⟨rfl,if_pos z,?_⟩)⟩
     ·rw[same]
     ·rw[O.goP,zps _ _ _ _ _ _ _ hs]
   |some x =>
     obtain⟨k,am⟩:=x;obtain⟨k0,k1,a0,a1⟩:=hd k am rfl;have ed:dueN vs ps (S s).ly (zpc ps (S s).m (S s).en) (some (k,am))=if zui ps (S s).m (S s).ly (S s).en k am=4 then -1 else((zui ps (S s).m (S s).ly (S s).en k am:Nat):Int):=by
      rw[<- SdOk.code];rfl
     have h24:=Yv.p24;refine⟨by lia,by lia,a0,a1,λz=>.inl ⟨zui ps (S s).m (S s).ly (S s).en k am,by lia,by rw[ed,if_neg (by lia)],?_⟩,λz=>.inr (.inr ?_)⟩
     ·rw[same]
     ·obtain⟨j,rfl,hj,b1,b2,b3⟩:=zpg1 z;refine⟨j,am,rfl,hj,b1,b2,b3,by rw[ed,if_pos z],?_⟩;rw[wH,letP _ _ _ _ _ _ _ _ _ [],zps _ _ _ _ _ _ _ hs]
   rintro U hU;refine zr1 (λU'=>U'=U) ?_ ?_
   ·rcases hU with⟨n,hn,hdue,rfl⟩|⟨rfl,hdue,rfl⟩|⟨j,am,rfl,hj,b1,b2,b3,hdue,rfl⟩
    ·rw[hdue];walk_at"dd";rw[if_pos (by lia)];unfold rngD;refine zq11 (λj=>.bool (n == j)) (by rw[sizeLine_eq];simp) (λj hj=>?_) ?_
     ·walk_at"cs";walk_at"dd";rw[<- zk61 n j,show(0:Int)+(j:Int)=(j:Int) by lia]
     ·have fb:=zgv n;have e:=eqv_refl fb;unfold zsw at fb e ⊢;refine⟨fb.shaped (by decide),fb.shaped (by decide),?_⟩;rw[e];trivial
    ·rw[hdue];walk_at"dd"
    ·rw[hdue];walk_at"dd"
   rintro U' rfl;refine zr1 (λU=>∃(S':Nat->Sd)(s9 s10 s11:Sl),(∀i',i' < 2->SdOk vs ps (i+1) (S' i'))/\U=[.sh (.list (ns.map .int)),.sh (zcb vs ps),.ow (.tp [.li ha,.li hb]),.ow (plsT jA jB jD jC vs ps S'),.ow (.li kp),.ow (rwsT ps S'),.sh (.int e),.sh (.int (s:Int)),.sh (zkj dd),s9,s10,s11,s12,s13]) ?_ ?_
   ·rcases hU with⟨n,hn,hdue,rfl⟩|⟨rfl,hdue,rfl⟩|⟨j,am,rfl,hj,b1,b2,b3,hdue,rfl⟩
    ·rw[hdue];walk_at"dd";rw[if_neg (by lia)];exact⟨S,_,_,_,λi' h=>(hS i' h).mono (by lia),rfl⟩
    ·rw[hdue];walk_at"dd";refine zf0 λJ hJ=>?_;unfold zkj;walk_at"dd";refine⟨rfl,rfl,?_⟩;rw[show xE (.list []) (.list [])=true from rfl,if_pos rfl];refine zkh (λi=>zxm ps (S i)) hs ⟨trivial,vs,ps,(S s).m,(S s).ly,zpc ps (S s).m (S s).en,(S s).W,rfl,Yv,O.ll,λl hl=>(O.am l hl).2,by have:=O.wc;lia,?_⟩;rw[O.goR];dsimp only;rw[zuw _ _ hs];walk_at"f";walk_at"dd";walk_at"k";exact⟨upS S s (goS ps (S s)),_,_,_,zlf1 hS (O.go.mono (xQ i)) (xQ i),rfl⟩
    ·rw[hdue];walk_at"dd";refine zf0 λJ hJ=>?_;unfold zkj;walk_at"dd";refine⟨rfl,rfl,?_⟩;rw[show xE (.list [.int (j:Int),.int am]) (.list [])=false from rfl,if_neg wF];refine zkh (λi=>zxm ps (S i)) hs ⟨_,rfl,_,rfl,trivial,vs,ps,(S s).m,(S s).ly,zpc ps (S s).m (S s).en,(S s).W,j,am,rfl,Yv,O.ll,zj3 _ _ _,hj,by have:=O.wc;lia,λW' hW hw=>?_⟩;rw[O.letR hj,zi61 _ _ _ _ _ _ _ hs _ _ _ [] W'];dsimp only;rw[zuw _ _ hs];walk_at"f";walk_at"dd";walk_at"k";exact⟨upS S s (letS ps (S s) j am W'),_,_,_,zlf1 hS (O.let_ hj b1 b2 b3 hW hw) (xQ i),rfl⟩
   rintro U ⟨S',s9,s10,s11,hS',rfl⟩;walk_at"a";refine two (λz=>⟨S',kp,_,_,_,_,_,_,_,_,hS',hkp,by lia,rfl⟩) λz=>hJ _ ?_;clear hJ;walk_at"dn";walk_at"dd";refine zkh (λi=>zpv jA jB jD jC vs ps (S' i)) hs (zkh (λi=>zxm ps (S' i)) hs ⟨vs,ps,(S' s).m,(S' s).ly,zpc ps (S' s).m (S' s).en,(S' s).en,(S' s).kvs,(S' s).W,e / 42,kp,rfl,(hS' s hs).sn (by lia),hkp,by lia,λkp' hk' hl'=>⟨true,rfl,?_⟩⟩);rw[if_neg (by decide)];exact⟨S',kp',_,_,_,_,_,_,_,_,hS',hk',by lia,rfl⟩
  walk_at"dd";refine zkh (λi=>zxm ps (S i)) hs ⟨vs,ps,(S s).m,(S s).ly,zpc ps (S s).m (S s).en,(S s).W,e,rfl,Yv,O.ll,zj3 _ _ _,O.lyb,O.leb,key none (λ_ _ z=>by cases z),λk am k0 k1 a0 a1=>key (some (k,am)) λk' am' z=>?_⟩;cases z;exact⟨k0,k1,a0,a1⟩
 ·rintro U ⟨S,kp,s6,s7,s8,s9,s10,s11,s12,s13,hS,hkp,hlen,rfl⟩;walk_at"f";rw[yA]at hS hlen;walk_at"a";have hn:=yA (i:=63) (l:=ns);unfold rngD;refine zkb (λi' U=>∃(kp:List D)(s13:Sl),(∀x∈kp,Kp x)/\kp.length<=945+15 * i'/\U=[.sh (.list (ns.map .int)),.sh (zcb vs ps),.ow (.tp [.li ha,.li hb]),.ow (plsT jA jB jD jC vs ps S),.ow (.li kp),.ow (rwsT ps S),s6,s7,s8,s9,s10,s11,s12,s13]) ⟨kp,s13,hkp,by lia,rfl⟩ ?_ ?_
  ·rintro s k U hx ⟨kp,s13,hkp,hlen,rfl⟩;obtain⟨hs,h2⟩:=wR.mp hx;simp only[yI,uaO]at hs h2;subst h2;rw[show(0:Int)+(s:Int)=(s:Int) by lia];walk_at"dd";refine zkh (λi=>zpv jA jB jD jC vs ps (S i)) hs (zkh (λi=>zxm ps (S i)) hs ⟨ns,4+s,by congr 2,by lia,λd d0 d1=>⟨vs,ps,(S s).m,(S s).ly,zpc ps (S s).m (S s).en,(S s).en,(S s).kvs,(S s).W,d,kp,rfl,(hS s hs).sn (by lia),hkp,by lia,λkp' hk' hl'=>⟨true,rfl,?_⟩⟩⟩);rw[if_neg (by decide)];exact⟨kp',_,hk',by lia,rfl⟩
  ·rintro U ⟨kp,s13,hkp,hlen,rfl⟩;walk_at"f";refine zr1 (λU=>∃s2:Sl,U=[.sh (.list (ns.map .int)),.sh (zcb vs ps),s2,.ow (plsT jA jB jD jC vs ps S),.ow (.li kp),.ow (rwsT ps S),s6,s7,s8,s9,s10,s11,s12,s13]) ?_ ?_
   ·walk_at"dd";refine .inl ⟨ha,hb,rfl,ns,3,rfl,by lia,λd d0 d1=>?_⟩;walk_at"dd";refine two (λz=>?_) λz=>⟨_,rfl⟩
    obtain⟨rfl,rfl⟩:=hh (by lia);have fy:=zk11 Yv;refine⟨fy.shaped (by decide),fy.shaped (by decide),?_⟩;rw[show xE (.tuple [.list (vs.map Va.d),.list (ps.map Pi.d)]) (zcb vs ps)=true from fy.eqv];exact⟨_,rfl⟩
   rintro U ⟨s2,rfl⟩;walk_at"dd";rw[yI]at hlen;rw[<- List.map_id kp];refine za31 (λ_=>none) (by rw[sizeLine_eq];lia) (λx hx=>?_) ?_
   ·obtain⟨d,rfl,fd⟩:=hkp x hx;have f:Fit 3 (.list d):=Fit.lst fd;have e:=f.eqv;show _;dsimp only[id];walk_at"cs";walk_at"dd";refine⟨f.shaped (by decide),f.shaped (by decide),?_⟩;rw[e];trivial
   ·have:∀l:List D,l.filterMap (λ_=>(none:Option D))=[]:=λl=>by simp
    rw[this];exact⟨rfl,rfl,q⟩
end
theorem all_mk{l:PySem.W.OpenLaw}{w:World}{K:Fg}{h:Heap}{mg:Str->Option Value}{fa:Addr}{jA jB jD jC jK jO jM jQ jH jR kS qQ qC kF:Addr}(X:K.In h)(G:h.Ns mainGlobals mg)(hfa:mg "law"=some (.ref fa))
  (jE:TopCls K "Play" jA)
  (kT:TopCls K "Steady" jB)
  (qD:TopCls K "Late" jD)
  (kN:TopCls K "Tidal" jC)
  (kO:PySem.W.findIn K (.ref jA) "rooms"=some none)
  (jL:PySem.W.findIn K (.ref jA) "lying"=some none)
  (jG:PySem.W.findIn K (.ref jA) "moment"=some none)
  (jI:PySem.W.findIn K (.ref jA) "entered"=some none)
  (jJ:PySem.W.findIn K (.ref jA) "pipes"=some none)
  (jP:PySem.W.findIn K (.ref jA) "coming"=some none)
  (kB:PySem.W.findIn K (.ref jB) "wide"=some none)
  (kU:PySem.W.findIn K (.ref jD) "wide"=some none)
  (kK:PySem.W.findIn K (.ref jD) "since"=some none)
  (kL:PySem.W.findIn K (.ref jC) "wide"=some none)
  (kC:PySem.W.findIn K (.ref jC) "other"=some none)
  (kM:PySem.W.findIn K (.ref jC) "turn"=some none)
  (jS:PySem.W.findIn K (.ref jA) "gates"=some none)
  (vB:TopDef K "_law_draw" zdc)
  (vC:TopDef K "_law_size" zlc)
  (vD:TopDef K "_law_name" zgc)
  (vE:TopDef K "_law_gate" zbc)
  (vF:TopDef K "_law_pipe" znc)
  (vG:TopDef K "_law_yard" zu9)
  (uO:TopDef K "_law_whole" zta)
  (vH:TopMeth K jA "full" "Play.full" zz9)
  (uJ:TopDef K "refuse_full" zs8)
  (uP:TopMeth K jA "go_on" "Play.go_on" zza)
  (qJ:TopMeth K jB "width_at" "Steady.width_at" zc4)
  (qU:TopMeth K jD "width_at" "Late.width_at" zw5)
  (qN:TopMeth K jC "width_at" "Tidal.width_at" zs4)
  (qK:TopMeth K jA "room_in" "Play.room_in" zo4)
  (vN:TopMeth K jA "let" "Play.let" zoe)
  (vI:TopDef K "_law_done" ztc)
  (uQ:TopDef K "_law_width" zxa)
  (uR:TopDef K "_law_begin" zc5)
  (qV:TopDef K "_law_too_full" zf3)
  (vO:TopDef K "_law_due" zud)
  (uE:TopDef K "_law_gone_on" zm4)
  (uK:TopDef K "_law_let_in" zo9)
  (vJ:TopDef K "_law_deed" zkc)
  (uL:TopDef K "_law_wholes" zs5)
  (uF:TopDef K "_law_comings" zs7)
  (uS:TopMeth K jA "holds" "Play.holds" zua)
  (qO:TopMeth K jA "under_way" "Play.under_way" zn2)
  (vP:TopMeth K jA "now" "Play.now" zne)
  (vK:TopDef K "_law_seen" zw9)
  (qP:TopMeth K jC "__init__" "Tidal.__init__" zl5)
  (qL:TopMeth K jB "__init__" "Steady.__init__" ze4)
  (qW:TopMeth K jD "__init__" "Late.__init__" zv5)
  (vT:TopDef K "gate_of" zsh)
  (qX:TopMeth K jA "__init__" "Play.__init__" zq1)
  (wC:TopDef K "law" zt11)
  (kY:XCls K "TooFull" jK)
  (qF:XCls K "NoPipe" jO)
  (kX:XCls K "NoAmount" jM)
  (kZ:XCls K "TooWide" jQ)
  (kQ:XCls K "TooLittle" jH)
  (qH:XCls K "YardError" jR)
  (qS:XCls K "NoMoment" kS)
  (uX:XCls K "NoRow" qQ)
  (uM:XCls K "NoName" qC)
  (qI:XCls K "NoMeasure" kF)
  (kx:KxT K [jO,jM,jQ,jH,jK] [jO,jM,jQ,jH,jK,kS,qQ,qC,kF])
  (kH:PySem.W.exmOne K (.ref jO) (.ref jR)=some true)
  (jV:PySem.W.exmOne K (.ref jM) (.ref jR)=some true)
  (jY:PySem.W.exmOne K (.ref jQ) (.ref jR)=some true)
  (jU:PySem.W.exmOne K (.ref jH) (.ref jR)=some true)
  (jZ:PySem.W.exmOne K (.ref jK) (.ref jR)=some true)
  (qG:PySem.W.nsIn K mainGlobals "ValueError"=some none)
  (vW:PySem.W.nsIn K mainGlobals "bool"=some none)
  (kW:PySem.W.nsIn K mainGlobals "enumerate"=some none)
  (vQ:PySem.W.nsIn K mainGlobals "int"=some none)
  (jF:PySem.W.nsIn K mainGlobals "isinstance"=some none)
  (jT:PySem.W.nsIn K mainGlobals "len"=some none)
  (jX:PySem.W.nsIn K mainGlobals "list"=some none)
  (vX:PySem.W.nsIn K mainGlobals "max"=some none)
  (wA:PySem.W.nsIn K mainGlobals "min"=some none)
  (kR:PySem.W.nsIn K mainGlobals "range"=some none)
  (qR:PySem.W.nsIn K mainGlobals "sorted"=some none)
  (vR:PySem.W.nsIn K mainGlobals "tuple"=some none)
  (vU:PySem.W.nsIn K mainGlobals "zip"=some none) (kt:Kit K)
 :∃fd:FuncData,(∀(s:Shared)(v:Value),BindsTo s fd ⟨[v],[]⟩ [("script",v)])/\∀base:Heap,K.In base->base.Ns mainGlobals mg->FnOk l.prog w K mg base CX0 6 fa fd ["script"] (zz81 K):=by
 have M:Md K mg:=⟨⟨h,X,G⟩⟩
 refine zvf1 M wC hfa zy51 (by walk_at"h") λbase kb nb=>?_;have jN:=zlk (P:=l.prog) (w:=w) (K:=K) (mg:=mg) (base:=base) M vB (M.not jT);have qA:=zik (P:=l.prog) (w:=w) (K:=K) (mg:=mg) (base:=base) M vC;have uU:=zxk (P:=l.prog) (w:=w) (K:=K) (mg:=mg) (base:=base) M vD;have uT:=zml (P:=l.prog) (w:=w) (K:=K) (mg:=mg) (base:=base) M vE qA;have uV:=zsk (P:=l.prog) (w:=w) (K:=K) (mg:=mg) (base:=base) M vF jN uT;have uY:=zyk (P:=l.prog) (w:=w) (K:=K) (mg:=mg) (base:=base) M vG (M.not kR) jN qA uU uV;have kA:=zyi (P:=l.prog) (w:=w) (K:=K) (mg:=mg) (base:=base) M uO kt (M.not vW) (M.not vQ) (M.not jF);have qE:=zfk (P:=l.prog) (w:=w) (K:=K) (mg:=mg) (base:=base) (jD:=jD) (jA:=jA) (jB:=jB) (jC:=jC) jE.cls vH (M.not kW) kO jL;have qZ:=zrf (P:=l.prog) (w:=w) (K:=K) (mg:=mg) (base:=base) (jD:=jD) (jA:=jA) (jB:=jB) (jC:=jC) (jK:=jK) M uJ jE.cls qE kY;have uH:=zrg (P:=l.prog) (w:=w) (K:=K) (mg:=mg) (base:=base) (jD:=jD) (jA:=jA) (jB:=jB) (jC:=jC) (jK:=jK) jE.cls uP (M.not kW) (M.not jT) jG jI jJ jL jP qZ;have jW:=zhc (P:=l.prog) (w:=w) (K:=K) (mg:=mg) (base:=base) kT.cls qJ kB;have kI:=zje (P:=l.prog) (w:=w) (K:=K) (mg:=mg) (base:=base) qD.cls qU kU kK;have kG:=zkd (P:=l.prog) (w:=w) (K:=K) (mg:=mg) (base:=base) kN.cls qN kL kC kM;have uB:=znf (P:=l.prog) (w:=w) (K:=K) (mg:=mg) (base:=base) (jD:=jD) (jA:=jA) (jB:=jB) (jC:=jC) jE.cls qK (M.not jT) qD.cls kT.cls kN.cls jG jI jJ jS jW kI kG;have qT:=zaf (P:=l.prog) (w:=w) (K:=K) (mg:=mg) (base:=base) (jD:=jD) (jO:=jO) (jA:=jA) (jB:=jB) (jC:=jC) jE.cls qK (M.not jT) qD.cls kT.cls kN.cls jG jI jJ jS jW kI kG qF;have uW:=zrj (P:=l.prog) (w:=w) (K:=K) (mg:=mg) (base:=base) (jD:=jD) (jM:=jM) (jO:=jO) (jA:=jA) (jB:=jB) (jC:=jC) (jH:=jH) (jQ:=jQ) jE.cls vN jI jL jP jJ jG qT kX kZ kQ;have uZ:=zal (P:=l.prog) (w:=w) (K:=K) (mg:=mg) (base:=base) (jD:=jD) (jA:=jA) (jB:=jB) (jC:=jC) M vI kt (M.not qG) (M.not jF) jE.cls uH uW qH qF kX kZ kQ kY qS uX uM qI kH jV jY jU jZ kx;have qB:=zii (P:=l.prog) (w:=w) (K:=K) (mg:=mg) (base:=base) M uQ;have qY:=zhi (P:=l.prog) (w:=w) (K:=K) (mg:=mg) (base:=base) M uR qB;have kJ:=zre (P:=l.prog) (w:=w) (K:=K) (mg:=mg) (base:=base) M qV (M.not jT) (M.not kR);have vM:=zmn (P:=l.prog) (w:=w) (K:=K) (mg:=mg) (base:=base) M vO (M.not vQ) (M.not jT) kJ;have uD:=zif (P:=l.prog) (w:=w) (K:=K) (mg:=mg) (base:=base) M uE qB;have uI:=zlh (P:=l.prog) (w:=w) (K:=K) (mg:=mg) (base:=base) M uK (M.not qR);have vA:=zbl (P:=l.prog) (w:=w) (K:=K) (mg:=mg) (base:=base) M vJ (M.not jT) (M.not vX) (M.not wA);have kE:=zxg (P:=l.prog) (w:=w) (K:=K) (mg:=mg) (base:=base) M uL kt (M.not jF) (M.not jT) (M.not jX) (M.not vU) kA;have uA:=zmf (P:=l.prog) (w:=w) (K:=K) (mg:=mg) (base:=base) M uF kt (M.not jF) (M.not jT) (M.not jX) (M.not vR) (M.not vU) kE;have uN:=zri (P:=l.prog) (w:=w) (K:=K) (mg:=mg) (base:=base) (jD:=jD) (jA:=jA) (jB:=jB) (jC:=jC) jE.cls uS (M.not jX) jL;have qM:=zid (P:=l.prog) (w:=w) (K:=K) (mg:=mg) (base:=base) (jD:=jD) (jA:=jA) (jB:=jB) (jC:=jC) jE.cls qO (M.not qR) jP;have vL:=zin (P:=l.prog) (w:=w) (K:=K) (mg:=mg) (base:=base) (jD:=jD) (jA:=jA) (jB:=jB) (jC:=jC) jE.cls vP jG;have uG:=zvk (P:=l.prog) (w:=w) (K:=K) (mg:=mg) (base:=base) (jD:=jD) (jA:=jA) (jB:=jB) (jC:=jC) M vK (M.not jT) (M.not jX) (M.not kR) kA kE uA kJ jE.cls qE uN qM vL uB;have vY:=zld (P:=l.prog) (w:=w) (K:=K) (mg:=mg) (base:=base) M kN qP kL kC kM;have vV:=zec (P:=l.prog) (w:=w) (K:=K) (mg:=mg) (base:=base) M kT qL kB;have wB:=zve (P:=l.prog) (w:=w) (K:=K) (mg:=mg) (base:=base) M qD qW kU kK;have vS:=znq (P:=l.prog) (w:=w) (K:=K) (mg:=mg) (base:=base) (jD:=jD) (jB:=jB) (jC:=jC) M vT vY vV wB;have vZ:=ztd (P:=l.prog) (w:=w) (K:=K) (mg:=mg) (base:=base) (jD:=jD) (jA:=jA) (jB:=jB) (jC:=jC) M jE qX (M.not jT) (M.not jX) vS kO jL jJ jS jG jI jP;exact za21 (M.not jX) (M.not kR) jN uY kA uZ qY vM uD uI vA uG vZ
end _11
local macro_rules|`(tactic| walk_at "top")=>`(tactic| (refine' ztu ?a ?l ?c ?k;(case a=>k_is);(case l=>k_is);(case c=>k_is);(case k=>k_is)))
local macro_rules|`(tactic| walk_at "topn")=>`(tactic| (refine' zlp ?a ?l ?c ?k ?t ?d;(case a=>k_is);(case l=>k_is);(case c=>k_is);(case k=>k_is);(case t=>k_is);(case d=>rfl)))
local macro_rules|`(tactic| walk_at "meth")=>`(tactic| (refine' zfo ?a ?i ?l ?c ?k;(case a=>k_is);(case i=>k_is);(case l=>k_is);(case c=>k_is);(case k=>k_is)))
local macro_rules|`(tactic| walk_at "cls")=>`(tactic| (refine' zpt ?a ?pg ?hd ?po ?sa ?mk ?kc;(case a=>k_is);(case pg=>k_is);(case hd=>k_is);(case po=>k_is);(case sa=>k_is);(case mk=>k_is);(case kc=>k_is)))
local macro_rules|`(tactic| walk_at "xcl")=>`(tactic| (refine' ⟨?a,?b⟩;(case a=>k_is);(case b=>first|k_exc|k_is)))
local macro_rules|`(tactic| walk_at "exk")=>`(tactic| (refine' ⟨?a,?b,?c,?d,?e,?f,?g,?h⟩;(case a=>first|k_is|rfl);(case b=>k_is);(case c=>k_is);(case d=>k_is);(case e=>k_is);(case f=>k_is);(case g=>k_is);(case h=>k_is)))
local macro_rules|`(tactic| walk_at "kxt")=>`(tactic| (refine' Eq.trans (b:=some true) ?p ?q;(case p=>kit_is);(case q=>rfl)))
local macro_rules|`(tactic| walk_at "kxf")=>`(tactic| (refine' Eq.trans (b:=some false) ?p ?q;(case p=>kit_is);(case q=>rfl)))
namespace PySem.W.Fast
def tw2615145128316973085:=0
def tw3671351938496618705:=0
def tw14263097515010122445:=0
def tw17485812636502926951:=0
def tw5675857835714983980:=0
def tw1216103687977838509:=0
def tw5221152562670166573:=0
def tw11330488237674727536:=0
def tw826533109540271994:=0
def tw3309487336428344410:=0
def tw3136654661443215647:=0
def tw15535345171731772968:=0
def tw6151310496089803033:=0
def tw2923972821054366283:=0
def tw17694391797888242738:=0
def tw5597789824924413834:=0
def tw865606516595980155:=0
def tw2778753523284038839:=0
def tw14601094427027845725:=0
def tw13819752524198612231:=0
def tw17175392809000468177:=0
def tw15334162764108595591:=0
def tw17488020872878096663:=0
def tw5019827828266830167:=0
def tw6465598160557498234:=0
def tw13043192698872749381:=0
def tw11932804753937308620:=0
def tw6890727408144975663:=0
def tw6442403282174647377:=0
def tw12974907182810696140:=0
def tw4840432802583342665:=0
def tw4972434818316701434:=0
def tw9083347311265471993:=0
def tw14116753737020450865:=0
def tw15960513197046801121:=0
def tw15178009643343670218:=0
def tw2345282044200766805:=0
def tw13789372614545643471:=0
def tw4691841722520777633:=0
def tw11650549546175685559:=0
def tw6859532863604452882:=0
def tw963192313840510147:=0
def tw18190573063669066819:=0
def tw14492952148724859821:=0
def tw13899588805903243996:=0
def tw11509695139420885061:=0
def tw3609250801310935348:=0
def tw18118623138461980290:=0
def tw8205603214909211508:=0
def tw15449823733155348105:=0
def tw10260576718342812017:=0
def tw14337456049114269949:=0
def tw4663529646552501074:=0
def tw841490770726529384:=0
def tw15182788643688969035:=0
def tw15556170828208001349:=0
def tw11873122257031015310:=0
def tw13605066995913118157:=0
def tw11471941279862798727:=0
def tw9375394372946122289:=0
def tw9151617391958361875:=0
def tw2130374779381177748:=0
def tw1958216748638209312:=0
def tw9831885157228721331:=0
def tw17060870642736699260:=0
def tw7668673536453191894:=0
def tw7963560149412172004:=0
def tw6805812313880953954:=0
def tw17004222809979696167:=0
def tw15488027087417691150:=0
def tw16783488010397636293:=0
def tw10921103895004064801:=0
def tw10982382085198138792:=0
def tw5304450371466098893:=0
def tw7172236567909617614:=0
def tw1438056629283927848:=0
def tw16527818273152654356:=0
def tw222886765166170248:=0
def tw6916187343024098172:=0
def tw1469966545307351440:=0
def tw6026412353096208857:=0
def tw17225366432256559757:=0
def tw6965446465365775964:=0
def tw12337374435920418338:=0
def tw5981626354983837094:=0
def tw1656781380154240157:=0
def tw3279931553297515938:=0
def tw15954178246316627180:=0
def tw1589178482951310248:=0
def tw4495473213817253197:=0
def tw12750559879703926434:=0
def tw11440594260016478426:=0
def tw8643793690032631718:=0
def tw16726010539218673813:=0
def tw7861983862689683770:=0
def tw10041407912547888561:=0
def tw10248866759211594237:=0
def tw10564881261261063791:=0
def tw8639149222922191982:=0
def tw15206145522286686562:=0
def tw7883703980506190023:=0
def tw5823037708249630482:=0
def tw18031394098519194168:=0
def tw12286800879713560910:=0
def tw6735236840389579195:=0
def tw8951631377134767382:=0
def tw3135600295099830204:=0
def tw614878038498268828:=0
def tw10454054587411444780:=0
def tw5544597151236696891:=0
def tw6199273956372459582:=0
def tw1294196368249821515:=0
def tw2025978376331676190:=0
def tw4701861154231560887:=0
def tw15171332002726828476:=0
def tw754429079487259126:=0
def tw11137614012356529861:=0
def tw15440111202733041474:=0
def tw5867758707089649858:=0
def tw11940309304610390124:=0
def tw1492059474546825957:=0
def tw6269590898091266878:=0
def tw8555397122795552093:=0
def tw16043191833597894455:=0
def tw14607459432597164163:=0
def tw17000537707628440295:=0
def tw2464530859932815921:=0
def tw15706267019792289478:=0
def tw12485845672923196274:=0
def tw4405565794988071090:=0
def tw827664189155358919:=0
def tw15503136465003659228:=0
def tw6100503759608598805:=0
def tw17944988466667994724:=0
def tw17057326072388484508:=0
def tw8877793980601581247:=0
def tw15051445801326101406:=0
def tw4916042461693502369:=0
def tw9280925778384006968:=0
def tw16185739573953274279:=0
def tw521887915197455198:=0
def tw15400663888328774882:=0
def tw14622300509857833999:=0
def tw8223035008114321517:=0
def tw2168393974718474997:=0
def tw17184547437755085508:=0
def tw12018893738445910638:=0
def tw12596944264629726420:=0
def tw5599154943537131510:=0
def tw4678053606049348225:=0
def tw12602735149068119484:=0
def tw5396528850035051826:=0
def tw8271292751234215017:=0
def tw5440398820225100711:=0
def tw15254760787270878264:=0
def tw1011916091346150416:=0
def tw17811476308996303830:=0
def tw9151582672495568680:=0
def tw16959272754465025518:=0
def tw7897292228039351595:=0
def tw12192161442307245246:=0
def tw6276287456144482036:=0
def tw2093383002939137692:=0
def tw9028139053208242358:=0
def tw4653243241263229632:=0
def tw14532858614310238851:=0
def tw18097712960740845346:=0
def tw1242871070185865813:=0
def tw12571992356065076258:=0
def tw11204322243594496658:=0
def tw5560023651127212368:=0
def tw3244601558142011048:=0
def tw1747583329557798695:=0
def tw13232023942017105540:=0
def tw14036284080322306188:=0
def tw11058390900964353083:=0
def tw3991483611928077749:=0
def tw8301724916350601153:=0
def tw11030393232287355858:=0
def tw9595964579100003559:=0
def tw17730366673676273429:=0
def tw11719612950610108907:=0
def tw6808399253429058933:=0
def tw3127592873982735988:=0
def tw18177737985245045052:=0
def tw8559978875544366795:=0
def tw16980764937571659658:=0
def tw13369208526894341135:=0
def tw11957962257520267187:=0
def tw18345227398959220239:=0
def tw8335465532040056380:=0
def tw17387436527460378617:=0
def tw5041581074363509066:=0
def tw14865623981255889628:=0
def tw15776296633128811479:=0
def tw7708445224886662782:=0
def tw13427916452697128286:=0
def tw7481658871519148492:=0
def tw13994733638526932268:=0
def tw3235436335804373561:=0
def tw17437141628119838399:=0
def tw15142979541711285050:=0
def tw13478760706604615698:=0
def tw9567168442397741102:=0
def tw5354517413669158813:=0
def tw16402869999412178846:=0
def tw6247460463974086632:=0
def tw3560498140652875908:=0
def tw14599252619864674267:=0
def tw10610562756045028979:=0
def tw16606812903860608637:=0
def tw13333632643659207150:=0
def tw15900501155530367233:=0
def tw9244350001517041638:=0
def tw10414693610603964072:=0
def tw12305108428544065388:=0
def tw13408406920096764205:=0
def tw5800041858697445850:=0
def tw14987631763326861217:=0
def tw4324664908645676076:=0
def tw6640212724116641841:=0
def tw15564995281422763402:=0
def tw1553166574225707513:=0
def tw3177925808677635940:=0
def tw14712543914957494815:=0
def tw11566977138287479012:=0
def tw14403147001664478015:=0
def tw11639366897326926815:=0
def tw1626931112590595303:=0
def tw16665502278737957810:=0
def tw4689991095693231131:=0
def tw9505074159403326644:=0
def tw11407835308557071681:=0
def tw5896174027547459821:=0
def tw14822180883141883310:=0
def tw3047100799747964655:=0
def tw15611322212323279516:=0
def tw12530969807896195873:=0
def tw9273595932508098369:=0
def tw4901709647244970500:=0
def tw3485761273859600537:=0
def tw15437018234096184883:=0
def tw9742551970921272366:=0
def tw11782808688438937252:=0
def tw30369899537740584:=0
def tw7864001734199365483:=0
def tw8102241362974543018:=0
def tw2589123820743614557:=0
def tw10264376528052652130:=0
def tw11209208296030209386:=0
def tw3740025640694211118:=0
def tw15671957837074450157:=0
def tw14309829661657503133:=0
def tw16911592920182475253:=0
def tw10964581174928665339:=0
def tw16243646804208194833:=0
def tw2484090614548877587:=0
def tw3647174766319007634:=0
def tw8201165161228538868:=0
def tw10895228221679635525:=0
def tw5013947651081561624:=0
def tw2283466586608567135:=0
def tw4143096568464764066:=0
def tw17561063098006607520:=0
def tw10369524757609443042:=0
def tw714195657328881602:=0
def tw17587110458610049316:=0
def tw7188546330937809153:=0
def tw18355521473409161168:=0
def tw6028221366794572959:=0
def tw10897103954691250047:=0
def tw14542009405373725605:=0
def tw16126278827027731153:=0
def tw11337405906090515668:=0
def tw9570006030664400354:=0
def tw18387566628949134198:=0
def tw1893398170991406695:=0
def tw8493575290458382737:=0
def tw14393243936008256693:=0
def tw1706855490019573585:=0
def tw10241980625722768677:=0
def tw18110147953682036167:=0
def tw6061144258931630057:=0
def tw13741915859169311786:=0
def tw6928050427378356414:=0
def tw1637494298361452218:=0
def tw13310368321763558877:=0
def tw8181420532843459859:=0
def tw11695685510367961852:=0
def tw6637326750077980159:=0
def tw7744425169384109367:=0
def tw8763381314586264753:=0
def tw2600963631739461594:=0
def tw13570351192150856017:=0
def tw17085395156345449673:=0
def tw8564396079907531356:=0
def tw2657440831336283762:=0
def tw17413397682121184963:=0
def tw8578218828015143312:=0
def tw14173336809075777108:=0
def tw15317929841674715119:=0
def tw8723527073170301222:=0
def tw13657594446959644376:=0
def tw15253849088284843883:=0
def tw17935104176807550138:=0
def tw10603086404157327298:=0
def tw9911878474183404683:=0
def tw2057081249676862983:=0
def tw16425062515121222955:=0
def tw5017616307440677070:=0
def tw17115228855479972421:=0
def tw7732752323605926649:=0
def tw11484534407535894734:=0
def tw9734062117278214073:=0
def tw15304232716885783338:=0
def tw4410785380406256855:=0
def tw1024804433198262080:=0
def tw9917201091014685875:=0
def tw3210029128299785499:=0
def tw728298237769509445:=0
def tw12269855651296109254:=0
def tw9614106001852695907:=0
def tw17020814797624411783:=0
def tw6659220208427930727:=0
def tw3853274226540344004:=0
def tw7129052971985749424:=0
def tw3081003275737599101:=0
def tw17004736291408744546:=0
def tw6479833559799803826:=0
def tw17579488583407332962:=0
def tw614641823313399780:=0
def tw76299667717876545:=0
def tw12236872259525947719:=0
def tw14148754387062226697:=0
def tw17210677238000166499:=0
def tw15090735552080409736:=0
def tw6385987407941800883:=0
def tw10141746647320260043:=0
def tw7253946677978628375:=0
def tw1437406845922678083:=0
def tw10818574140321732743:=0
def tw5047399083143730642:=0
def tw6269013164822914445:=0
def tw11598287901034370993:=0
def tw1022937646368876381:=0
def tw777905970134520437:=0
def tw4754116047383770508:=0
def tw13204868694422728901:=0
def tw17409418181500405928:=0
def tw8769163917066002458:=0
def tw3607102053974413581:=0
def tw12112352265772834785:=0
def tw17340026156409516597:=0
def tw12255391968616095129:=0
def tw5397129073568702018:=0
def tw17496616949360818033:=0
def tw3146281913163867633:=0
def tw13507190725416330283:=0
def tw1402710366513344890:=0
def tw3063046174064225052:=0
def tw5469974520913639443:=0
def tw13989204890261622743:=0
def tw15179695932914442424:=0
def tw6248583697978823870:=0
def tw7601952195880165990:=0
def tw13100265511560838830:=0
def tw11876823489543152692:=0
def tw5321602659120069688:=0
def tw385938727586913445:=0
def tw3043132129642462300:=0
def tw10132903607056239408:=0
def tw16269242032654010367:=0
def tw12338803484656968868:=0
def tw12690713663710068163:=0
def tw6405192662646627648:=0
def tw13277456129225586693:=0
def tw17121175535306216029:=0
def tw12737996700943252593:=0
def tw14496776736618201800:=0
def tw15087921273364475978:=0
def tw16979515670258966528:=0
def tw3019013690710723785:=0
def tw6704836929174482991:=0
def tw23388688102794229:=0
def tw17135353197286780090:=0
def tw10619383481916869692:=0
def tw93115556102245919:=0
def tw151630075322981460:=0
def tw9060843982066229205:=0
def tw14315307066891841894:=0
def tw16759998276606282569:=0
def tw10289416259345601833:=0
def tw2722643952162894051:=0
def tw3478991686209930308:=0
def tw10446853104583197782:=0
def tw3337410241851957326:=0
def tw1182072859414641473:=0
def tw16755030118086061277:=0
def tw13086373718908755100:=0
def tw8966470524869645925:=0
def tw10127222370795642006:=0
def tw2771487825508576605:=0
def tw7826014365316936311:=0
def tw11224101766595506699:=0
def tw4922236624574734820:=0
def tw5918594520212590944:=0
def tw4631403826225526403:=0
def tw2290962097301187137:=0
def tw1778291311058842659:=0
def tw8717693652429568705:=0
def tw13309099715728513920:=0
def tw12745151891054496688:=0
def tw5555994410961611746:=0
def tw7093627344422501988:=0
def tw35793244021523350:=0
def tw5449525268575410824:=0
def tw18034651115923559191:=0
def tw6125348324106507710:=0
def tw3261812066282472874:=0
def tw15041071917952589788:=0
def tw6239026004287350605:=0
def tw11491919001462986859:=0
def tw16583243088086836921:=0
def tw6302076773898626777:=0
def tw488744795581181972:=0
def tw12092936792965516744:=0
def tw9165539101107110047:=0
def tw7773426982969592996:=0
def tw3601524125175691820:=0
def tw383492541311356345:=0
def tw11144427588738049158:=0
def tw11854099446571538124:=0
def tw13523594395651803203:=0
def tw11909748201206814771:=0
def tw7875220662005109928:=0
def tw11036093917507992829:=0
def tw16816922039878782554:=0
def tw15971178997741845260:=0
def tw148570859882919842:=0
def tw6119406189304732241:=0
end PySem.W.Fast
open PySem PySem.W PyProof.Rows _3 _4
set_option maxRecDepth 100000 in
set_option maxHeartbeats 0 in
theorem PySem.Challenge.cw_vatyard_k11_deeds_of_two_plays_holds : PySem.Challenge.rw_vatyard_k11_deeds_of_two_plays.Holds := by
  w_on; o_law; k_head; (case hw => w_witness2)
  k_fill
  refine _3.law_walk (k := 6) (l := PySem.Challenge.rw_vatyard_k11_deeds_of_two_plays) ⟨rfl, by decide, rfl, by decide⟩ rfl rfl (fun w h Yv => PySem.W.kIn_of Yv) ?F
  case F =>
    intro w mg fa h KX G hmg
    refine' _11.all_mk KX G hmg ?jE ?kT ?qD ?kN ?kO ?jL ?jG ?jI ?jJ ?jP ?kB ?kU ?kK ?kL ?kC ?kM ?jS ?vB ?vC ?vD ?vE ?vF ?vG ?uO ?vH ?uJ ?uP ?qJ ?qU ?qN ?qK ?vN ?vI ?uQ ?uR ?qV ?vO ?uE ?uK ?vJ ?uL ?uF ?uS ?qO ?vP ?vK ?qP ?qL ?qW ?vT ?qX ?wC ?kY ?qF ?kX ?kZ ?kQ ?qH ?qS ?uX ?uM ?qI ?kx ?kH ?jV ?jY ?jU ?jZ ?qG ?vW ?kW ?vQ ?jF ?jT ?jX ?vX ?wA ?kR ?qR ?vR ?vU ?kt
    (case jE => walk_at"cls")
    (case kT => walk_at"cls")
    (case qD => walk_at"cls")
    (case kN => walk_at"cls")
    (case kO => k_is)
    (case jL => k_is)
    (case jG => k_is)
    (case jI => k_is)
    (case jJ => k_is)
    (case jP => k_is)
    (case kB => k_is)
    (case kU => k_is)
    (case kK => k_is)
    (case kL => k_is)
    (case kC => k_is)
    (case kM => k_is)
    (case jS => k_is)
    (case vB => walk_at"top")
    (case vC => walk_at"top")
    (case vD => walk_at"top")
    (case vE => walk_at"top")
    (case vF => walk_at"top")
    (case vG => walk_at"top")
    (case uO => walk_at"top")
    (case vH => walk_at"meth")
    (case uJ => walk_at"top")
    (case uP => walk_at"meth")
    (case qJ => walk_at"meth")
    (case qU => walk_at"meth")
    (case qN => walk_at"meth")
    (case qK => walk_at"meth")
    (case vN => walk_at"meth")
    (case vI => walk_at"top")
    (case uQ => walk_at"top")
    (case uR => walk_at"top")
    (case qV => walk_at"top")
    (case vO => walk_at"top")
    (case uE => walk_at"top")
    (case uK => walk_at"top")
    (case vJ => walk_at"top")
    (case uL => walk_at"top")
    (case uF => walk_at"top")
    (case uS => walk_at"meth")
    (case qO => walk_at"meth")
    (case vP => walk_at"meth")
    (case vK => walk_at"top")
    (case qP => walk_at"meth")
    (case qL => walk_at"meth")
    (case qW => walk_at"meth")
    (case vT => walk_at"top")
    (case qX => walk_at"meth")
    (case wC => walk_at"top")
    (case kY => walk_at"xcl")
    (case qF => walk_at"xcl")
    (case kX => walk_at"xcl")
    (case kZ => walk_at"xcl")
    (case kQ => walk_at"xcl")
    (case qH => walk_at"xcl")
    (case qS => walk_at"xcl")
    (case uX => walk_at"xcl")
    (case uM => walk_at"xcl")
    (case qI => walk_at"xcl")
    (case kH => first | kts_exm | k_is)
    (case jV => first | kts_exm | k_is)
    (case jY => first | kts_exm | k_is)
    (case jU => first | kts_exm | k_is)
    (case jZ => first | kts_exm | k_is)
    (case kx => exact⟨(zp0 (by walk_at"exk") (zp0 (by walk_at"exk") (zp0 (by walk_at"exk") (zp0 (by walk_at"exk") (zp0 (by walk_at"exk") zti))))), (zp0 (zp0 (by walk_at"kxt") (zp0 (by walk_at"kxf") (zp0 (by walk_at"kxf") (zp0 (by walk_at"kxf") (zp0 (by walk_at"kxf") (zp0 (by walk_at"kxf") (zp0 (by walk_at"kxf") (zp0 (by walk_at"kxf") (zp0 (by walk_at"kxf") zti))))))))) (zp0 (zp0 (by walk_at"kxf") (zp0 (by walk_at"kxt") (zp0 (by walk_at"kxf") (zp0 (by walk_at"kxf") (zp0 (by walk_at"kxf") (zp0 (by walk_at"kxf") (zp0 (by walk_at"kxf") (zp0 (by walk_at"kxf") (zp0 (by walk_at"kxf") zti))))))))) (zp0 (zp0 (by walk_at"kxf") (zp0 (by walk_at"kxf") (zp0 (by walk_at"kxt") (zp0 (by walk_at"kxf") (zp0 (by walk_at"kxf") (zp0 (by walk_at"kxf") (zp0 (by walk_at"kxf") (zp0 (by walk_at"kxf") (zp0 (by walk_at"kxf") zti))))))))) (zp0 (zp0 (by walk_at"kxf") (zp0 (by walk_at"kxf") (zp0 (by walk_at"kxf") (zp0 (by walk_at"kxt") (zp0 (by walk_at"kxf") (zp0 (by walk_at"kxf") (zp0 (by walk_at"kxf") (zp0 (by walk_at"kxf") (zp0 (by walk_at"kxf") zti))))))))) (zp0 (zp0 (by walk_at"kxf") (zp0 (by walk_at"kxf") (zp0 (by walk_at"kxf") (zp0 (by walk_at"kxf") (zp0 (by walk_at"kxt") (zp0 (by walk_at"kxf") (zp0 (by walk_at"kxf") (zp0 (by walk_at"kxf") (zp0 (by walk_at"kxf") zti))))))))) zti))))), (zp0 (by kit_is) (zp0 (by kit_is) (zp0 (by kit_is) (zp0 (by kit_is) (zp0 (by kit_is) zti))))), by decide⟩)
    (case qG => k_is)
    (case vW => k_is)
    (case kW => k_is)
    (case vQ => k_is)
    (case jF => k_is)
    (case jT => k_is)
    (case jX => k_is)
    (case vX => k_is)
    (case wA => k_is)
    (case kR => k_is)
    (case qR => k_is)
    (case vR => k_is)
    (case vU => k_is)
    (case kt => exact⟨fun t ht T hT => by simp only[List.mem_cons, List.not_mem_nil, or_false]at ht hT; rcases ht with rfl | rfl | rfl | rfl | rfl | rfl <;> rcases hT with rfl | rfl | rfl | rfl | rfl <;> rfl⟩)
