import PyProof.Rows.All
import Wide.All
import OpenK.AllK
import Wide.FinOn
import Lean
import PyProof.EqAt
import PyProof.EqKinds
import PyProof.TupleCall
import PyProof.StrLawsIn
import PyProof.StrLawsJoin
import PyProof.ZipIter
import PyProof.EnumFor
import PyProof.EnumMake
import PyProof.EnumStmt
import PyProof.DictItems
import KE.KPairComp
import KE.KSortTup
import PyProof.DictWalks
import PyProof.Rows.SortWalk
import PyProof.ReprRoads
import PyProof.ReprLen
import PyProof.NsDelKeeps
import PyProof.RulesAs
import PyProof.AttrMissHeap
import KE.KDictOf
import PyProof.MinMaxWalk
import PyProof.ConsumeWalk
import PyProof.ListRange
import KE.KDictLaws
import KE.KRevIter
import PyProof.Rows.RuleM_int
import PySem.Challenge.RW_vatyard_k29_met_where_a_plan_meets
set_option Elab.async false
set_option genSizeOf false
set_option genInjectivity false
set_option bootstrap.genMatcherCode false
set_option compiler.extract_closed false
set_option compiler.extract_closed false
set_option linter.all false
set_option maxRecDepth 100000
set_option maxHeartbeats 4000000
noncomputable section
open List renaming range → u3, length_map → u5, getElem?_eq_getElem → u7, getElem?_map → u8, mem_range → u9, mem_append → vJ, length_append → vK, mem_cons → vL, replicate → vP, mem_map → vQ, getD_eq_getElem?_getD → vS, size_toArray → vT, length_range → vV, map_cons → vW, nodup_cons → vX, map_append → vY, getElem?_eq_some_iff → vZ, map → v6, mem_cons_of_mem → v8, getElem?_eq_none → v9, lookup_cons → wA, flatMap_cons → wB, length_set → wD, mem_of_getElem? → wF, append_assoc → wG, nodup_append → wH, append_nil → wJ, getElem?_append_right → wK, map_map → wL, length_take → wM, getElem?_append_left → wN, mem_cons_self → wR, mem_append_right → wX, length_cons → wY, map_congr_left → wZ, getElem_mem → w6, getElem?_set_self → w8, range_succ → w9, take_length → xA, getElem?_set_ne → xC, lookup → xD, getElem?_set → xE, filterMap_cons → xF, mem_append_left → xG, getElem?_replicate → xI, getElem_range → xK, take_succ → xL, getElem?_range → xM, getElem?_mapIdx → xP, length_drop → xS, any_cons → xT, find?_cons → xU, ext_getElem? → xV, mem_flatMap → xW, flatMap_nil → xX, map_nil → x8, replicate_succ → x9, take_of_length_le → yB, length_replicate → yH, flatten_cons → yI, sum_append → yK, zip_append → yL, take_append_drop → yM, length_singleton → yV, length_nil → yX, mem_singleton → yZ, take_zero → y3, ext_getElem → y4, getElem_map → y6, length_mapIdx → y8, mem_filterMap → zA, length → zD, filterMap_append → zH, eq_nil_of_length_eq_zero → zI, mem_map_of_mem → zM, flatMap_append → zO, sum_cons → zP, zip_cons_cons → zQ, zip_map' → zR, nodup_range → zS, map_set → zT, getElem?_eq_none_iff → zV, mem_filter → zW, any_eq_false → zY, of_mem_zip → z5, all_cons → z6, foldl_cons → z7, length_filterMap_le → k8, filterMap → k9, dropLast_eq_take → j3, pairwise_cons → j6, map_snd_zip → j7, map_id → j8, countP_cons → uaB, take_add_one → uaC, pairwise_append → uaD, getElem?_take_of_lt → uaG, filterMap_map → uaH, length_eq_zero_iff → uaO, map_eq_nil_iff → uaP, range_succ_eq_map → uaS, getLast?_cons → uaU, getLast?_eq_some_iff → uaV, dropLast_concat → uaW, flatten_replicate_singleton → uaX, map_replicate → uaY, drop_of_length_le → uaZ, flatten_append → ua0, find?_cons_of_neg → ua1, countP_le_length → ua2, drop_eq_getElem_cons → ua3
open PySem.PyData renaming int → u4, list → v5, tuple → wV, bool → yC, canLayAll0 → zF, depthAll → zG
open Nat renaming le_refl → u6, ne_of_lt → wC, zero_le → wE, lt_or_ge → wP, lt_of_lt_of_le → wS, le_trans → wU, lt_irrefl → wW, le_of_lt → xR, add_sub_cancel → yD, lt_succ_of_lt → yJ, add_mul → yN, mul_le_mul_right → yO, ne_of_gt → yU, le_of_succ_le → yW, le_succ → zC, lt_succ_self → zZ, mul_comm → z8, succ_ne_self → k6, lt_trichotomy → k7, eq_zero_or_pos → j5, min_eq_left → j9, add_assoc → uaA, add_sub_cancel_left → uaT, add_eq_zero_iff → ua4
open PySem.Heap renaming get?_push_of_some → vM, lt_size → vO, get?_push_size → v4, size_push → yG, get?_update_self → uaI, get?_update_other → uaJ, get?_some_iff → uaN
open PySem.Value renaming ref → vN, none → xB, isStrOf → xN, int → yF, isInt → yR, str → yS, bool → yT, type → y9, float → zU
open Int renaming toNat_natCast → vR, le_refl → wQ, emod_nonneg → xY, eq_ofNat_of_zero_le → xZ, emod_lt_of_pos → yE, zero_add → yP, add_zero → yQ, not_lt → zK, natCast_nonneg → zL, le_trans → zN, fmod_eq_emod_of_nonneg → uaF, fdiv_eq_ediv_of_nonneg → uaM
open Bool renaming false_ne_true → vU, false_eq_true → xO, eq_iff_iff → zB, and_eq_true → zE, not_eq_true → z9, and_eq_true_iff → uaL
open Sum renaming inl → v7, inr → xQ
open Option renaming some → wI, map_eq_some_iff → wO, isSome_iff_exists → xH, isSome_map → yY, bind_eq_some_iff → j4, isSome_some → uaK
open Array renaming length_toList → wT, getElem?_toList → yA, getElem?_eq_getElem → zJ, toList → zX, toList_inj → kP, append_assoc → uaE, getElem?_eq_none → uaQ, perm_iff_toList_perm → uaR
open PySem.Str renaming ofString → xJ
local macro_rules|`(tactic|walk_at "vi")=>`(tactic|first|exact .inl rfl|exact .inr rfl|assumption)
abbrev Fg:=PySem.W.Frag
open PySem.F renaming plainAttrs_list → ğa, slot_list_append → ğb, type_list_append → ğc, slot_list_extend → ğd, type_list_extend → ğe, slot_dict_get → ğf, plainAttrs_dict → ğg, slot_list_pop → ğh, type_list_pop → ği, slot_dict_getitem → ğj, args_tuple_add_2 → ğk, entry_tuple_add → ğl, args_dict_get_3 → ğm, slot_dict_items → ğn, slot_tuple_add → ğo, entry_dict_get → ğp, type_dict_get → ğq
namespace _2
open PySem PySem.Spec PyProof.Rows
variable {A:Around} {C a b dx it:Addr} {E:Value->Shared->Prop} {K:Fg} {M:Model} {N ps:List Str} {base:Heap} {body:List Stmt} {ch fp:List Addr} {es:List Expr} {f:Value->Value->Sem Value} {g':Array GenState} {i n:Nat} {kw:List (Str×Value)} {mA mg:Str->Option Value} {o:Obj} {op:Operator} {outer:List Env} {pins:List (Addr×Obj)} {pos pos':Pos} {qual x:Str} {s:Shared} {scope:Scope} {tg:Expr} {u:Value} {us:List Value} {w:World}
abbrev Key:=Sum Int Str
def zny:Key->Value->Bool
|.inl k,v=>yR k v
|.inr x,v=>xN x v
def keyH (w:World):Key->Int
|.inl k=>hashInt k
|.inr x=>hashStr w x
theorem zr1:∀ {k:Key} {v:Value},zny k v=true->(∃ i t,k=v7 i/\v=yF i t) \/ (∃ x t,k=xQ x/\v=yS x t)
|.inl i,v,h=>by
  obtain ⟨t,e⟩:=Value.isInt_shape (k:=i) (v:=v) h;exact .inl ⟨i,t,rfl,e⟩
|.inr x,v,h=>by
  obtain ⟨t,e⟩:=Value.isStrOf_shape (x:=x) (v:=v) h;exact .inr ⟨x,t,rfl,e⟩
theorem zqd (i:Int) (t:Tok):zny (.inl i) (.int i t)=true:=by simp [zny,yR]
theorem zvq (x:Str) (t:Tok):zny (.inr x) (.str x t)=true:=by simp [zny,xN]
theorem zf61 (a b:Int):decide ((v7 a:Key)=v7 b)=(a == b):=by
 by_cases e:a=b
 ·subst e;simp
 ·have h:¬ (v7 a:Key)=v7 b:=λ q=>e (v7.inj q);rw [decide_eq_false h];exact (beq_eq_false_iff_ne.mpr e).symm
theorem zy71 (a b:Str):decide ((xQ a:Key)=xQ b)=decide (a=b):=by
 by_cases e:a=b
 ·subst e;simp
 ·have h:¬ (xQ a:Key)=xQ b:=λ q=>e (xQ.inj q);rw [decide_eq_false h,decide_eq_false e]
theorem zy81 (a:Int) (b:Str):decide ((v7 a:Key)=xQ b)=false:=decide_eq_false (λ q=>nomatch q)
theorem zo61 (a:Str) (b:Int):decide ((xQ a:Key)=v7 b)=false:=decide_eq_false (λ q=>nomatch q)
noncomputable def zq1 (prog:Program) (w:World):PySem.KeyKind prog w Key where
 is:=zny
 hash:=keyH w
 inj:=λ v a b ha hb=>by
  rcases zr1 ha with ⟨i,t,rfl,rfl⟩|⟨x,t,rfl,rfl⟩
  ·rcases zr1 hb with ⟨j,u,rfl,e⟩|⟨y,u,rfl,e⟩
   ·injection e with e1 _;rw [e1]
   ·exact nomatch e
  ·rcases zr1 hb with ⟨j,u,rfl,e⟩|⟨y,u,rfl,e⟩
   ·exact nomatch e
   ·injection e with e1 _;rw [e1]
 byValue:=λ k v h=>by
  rcases zr1 h with ⟨i,t,rfl,rfl⟩|⟨x,t,rfl,rfl⟩ <;> rfl
 pyHash:=λ hv h=>by
  rcases zr1 hv with ⟨i,t,rfl,rfl⟩|⟨x,t,rfl,rfl⟩
  ·exact wpAny_pyHash_int h
  ·exact wpAny_pyHash_str h
 eqBool:=λ hu hv h=>by
  rcases zr1 hu with ⟨i,t,rfl,rfl⟩|⟨x,t,rfl,rfl⟩
  ·rcases zr1 hv with ⟨j,u,rfl,rfl⟩|⟨y,u,rfl,rfl⟩
   ·rw [zf61] at h;exact wpAny_eqBool_int h
   ·rw [zy81] at h;exact SeqAt.EqAt.int_str i t y u _ _ _ _ h
  ·rcases zr1 hv with ⟨j,u,rfl,rfl⟩|⟨y,u,rfl,rfl⟩
   ·rw [zo61] at h;exact SeqAt.EqAt.str_int x t j u _ _ _ _ h
   ·rw [zy71] at h;exact wpAny_eqBool_str h
 «strs»:=λ k x t v h=>by
  rcases zr1 h with ⟨i,u,rfl,e⟩|⟨y,u,rfl,e⟩
  ·exact nomatch e
  ·injection e with e1 _
   subst e1
   cases v <;> rfl
theorem zak (prog:Program) (w:World) (i:Int) (t:Tok):(zq1 prog w).is (.inl i) (.int i t)=true:=zqd i t
theorem zgk (prog:Program) (w:World) (x:Str) (t:Tok):(zq1 prog w).is (.inr x) (.str x t)=true:=zvq x t
set_option genInjectivity true in
inductive V where
|non|bl (b:Bool)|int (i:Int)|str (x:Str)|byt (b:Array UInt8)|flt (b:UInt64)|ref (a:Addr)|ty (n:String)
 deriving DecidableEq
noncomputable def RelV:V->Value->Prop
|.non,u=>u=xB
|.bl b,u=>u=yT b
|.int i,u=>∃ t,u=yF i t
|.str x,u=>∃ t,u=yS x t
|.byt b,u=>∃ t,u=Value.bytes b t
|.flt b,u=>∃ t,u=zU b t
|.ref a,u=>u=vN a
|.ty n,u=>u=y9 n
abbrev Vals:List V->List Value->Prop:=Paired RelV
theorem Vals.length {xs:List V} {us:List Value} (r:Vals xs us):xs.length=us.length:=Paired.length r
theorem Vals.get:∀ {xs:List V} {us:List Value} {i:Nat} {x:V},Vals xs us->xs[i]?=some x->∃ u,us[i]?=some u/\RelV x u
|_,_,_,_,.nil,e=>by simp at e
|_,_,0,_,.cons r _,e=>by simp at e;subst e;exact ⟨_,rfl,r⟩
|_,_,i+1,x,.cons _ t,e=>by
  obtain ⟨u,h1,h2⟩:=Vals.get (i:=i) (x:=x) t (by simpa using e);exact ⟨u,by simpa using h1,h2⟩
theorem Vals.set {x:V} {u:Value} (r:RelV x u):∀ {xs:List V} {us:List Value} (i:Nat),Vals xs us->Vals (xs.set i x) (us.set i u)
|_,_,_,.nil=>.nil
|_,_,0,.cons _ t=>.cons r t
|_,_,i+1,.cons q t=>.cons q (Vals.set r i t)
theorem Vals.append:∀ {xs ys:List V} {us ws:List Value},Vals xs us->Vals ys ws->Vals (xs++ys) (us++ws)
|_,_,_,_,.nil,s=>s
|_,_,_,_,.cons r t,s=>.cons r (Vals.append t s)
theorem Vals.take:∀ {xs:List V} {us:List Value} (n:Nat),Vals xs us->Vals (xs.take n) (us.take n)
|_,_,0,_=>.nil
|_,_,_+1,.nil=>.nil
|_,_,n+1,.cons r t=>.cons r (Vals.take n t)
theorem Vals.drop:∀ {xs:List V} {us:List Value} (n:Nat),Vals xs us->Vals (xs.drop n) (us.drop n)
|_,_,0,r=>r
|_,_,_+1,.nil=>.nil
|_,_,n+1,.cons _ t=>Vals.drop n t
theorem Vals.none_of:∀ {xs:List V} {us:List Value} {i:Nat},Vals xs us->xs[i]?=none->us[i]?=none:=λ {xs us i} r e=>by
 have h1:=r.length;have h2:xs.length<=i:=zV.mp e;exact zV.mpr (by lia)
def RelO:Option V->Option Value->Prop
|some v,some u=>RelV v u
|none,none=>True
|_,_=>False
def KV {κ:Type}:List (κ×V)->List (κ×Value)->Prop:=Paired λ (p:κ×V) (q:κ×Value)=>p.1=q.1/\RelV p.2 q.2
def kV:Key->V
|.inl i=>.int i
|.inr x=>.str x
set_option genInjectivity true in
inductive HO where
 /-- a list -/
|lst (xs:List V)
 /-- a tuple (never changes) -/
|tup (xs:List V)
 /-- a dict whose keys are ints and texts;one whose keys are tuples of ints and texts (the empty one is both) -/
|dK (kvs:List (Key×V))|dT (kvs:List (List Key×V))
 /-- a set of ints: its members,its size -/
|set (S:Int->Bool) (n:Nat)
 /-- an instance of the class at C,its dict at dx,its attributes -/
|ins (C dx:Addr) (fs:List (Str×V))
 /-- the dict of the instance at x -/
|own (x:Addr)
 /-- the dict of an exception -/
|xd (fs:List (Str×V))
 /-- a bound method,f of x -/
|met (f x:Addr)
 /-- a range object lo,lo+1,.. below hi -/
|rng (lo hi:Int)
 /-- a thing that is known to the object (the script;a dict while a loop walks it): read,never written while it is so -/
|frz (o:Obj) (u:HO)
 /-- a code object's table -/
|tbl (ps:Array Value)
 /-- any other thing,by what is true of its one object (a def of one's own: SetO a S n:=HO.ext λ h=>..) -/
|ext (φ:Heap->Prop)
abbrev Hp:=Addr->Option HO
def upd (H:Hp) (a:Addr) (o:HO):Hp:=λ b=>if b=a then some o else H b
theorem zn0 {H:Hp} {o:HO}:upd H a o a=some o:=by unfold upd;rw [if_pos rfl]
theorem zr0 {H:Hp} {o:HO} (h:b≠a):upd H a o b=H b:=by unfold upd;rw [if_neg h]
theorem zkb1 {H:Hp} {o u:HO} (h:H a=some o) (h':H b=some u) (d:o≠u):a≠b:=by
 intro e;subst e;rw [h] at h';exact d (wI.inj h')
theorem zz4 {H:Hp} {o:HO} (h:H a=some o) (h':H b=none):a≠b:=by
 intro e;subst e;rw [h] at h';cases h'
section
variable (P:Program) (w:World)
noncomputable def ObjOk (H:Hp) (h:Heap) (a:Addr):HO->Prop
|.lst xs=>xs.length<=sizeLine/\∃ (its:List Value) (n:Nat),Vals xs its/\h.get? a=some { cls:=.type "list",data:=.seq its.toArray n }
|.tup xs=>xs.length<=sizeLine/\∃ its:List Value,Vals xs its/\IsTup h a its.toArray
|.dK kvs=>kvs.length<=sizeLine/\(a == sysModules)=false/\∃ vs,KV kvs vs/\h.DictOf (zq1 P w) a vs
|.dT kvs=>kvs.length<=sizeLine/\(a == sysModules)=false/\∃ xs:List (List Key×Addr×Value),
   Paired (λ (p:List Key×V) (q:List Key×Addr×Value)=>p.1=q.1/\H q.2.1=some (.tup (p.1.map kV))/\RelV p.2 q.2.2) kvs xs /\
   ∃ o es ep,h.get? a=some o/\o.ExactDict/\o.data=.dict es ep/\es.toList=xs.map (entryOfKey (tupleKind (zq1 P w)))/\(xs.map (·.1)).Nodup
|.set S n=>h.SetOf (intKind P w) a S n
|.ins C dx fs=>H dx=some (.own a)/\fs.length<=1000/\dx≠a/\h.get? a=some (PySem.W.instObj C dx) /\
   ∃ mA,h.Ns1 dx mA/\(∀ f,RelO (fs.lookup f) (mA f))/\PySem.Within mA (fs.map (·.1))
|.own _=>∃ o,h.get? a=some o
|.xd fs=>∃ mA,h.Ns1 a mA/\∀ f,RelO (fs.lookup f) (mA f)
|.rng lo hi=>∃ t u v,h.get? a=some { cls:=.type "range",data:=.fields #[.int lo t,.int hi u,.int 1 v] }
|.frz o u=>h.get? a=some o/\ObjOk H h a u
|.tbl ps=>h.get? a=some { cls:=.none,data:=.fields ps }
|.met f x=>h.get? a=some (PySem.W.methodObj (.ref f) (.ref x))
|.ext φ=>φ h/\(∃ o,h.get? a=some o)/\∀ h1 h2:Heap,φ h1->(∀ o,h1.get? a=some o->h2.get? a=some o)->φ h2
def HOk (H:Hp) (h:Heap):Prop:=∀ a o,H a=some o->ObjOk P w H h a o
end
section
variable {P:Program} {w:World} {H H':Hp} {h h':Heap} {a:Addr} {o:HO}
theorem ObjOk.lt (x:ObjOk P w H h a o):a < h.objs.size:=by
 cases o with
|lst xs=>obtain ⟨_,_,_,_,e⟩:=x;exact vO e
|tup xs=>obtain ⟨_,_,_,p⟩:=x;exact p.lt
|dK kvs=>obtain ⟨_,_,_,_,o,_,_,e,_⟩:=x;exact vO e
|dT kvs=>obtain ⟨_,_,_,_,o,_,_,e,_⟩:=x;exact vO e
|set S n=>obtain ⟨o,_,_,_,e,_⟩:=x;exact vO e
|ins C dx fs=>obtain ⟨_,_,_,e,_⟩:=x;exact vO e
|own y=>obtain ⟨_,e⟩:=x;exact vO e
|xd fs=>obtain ⟨_,⟨_,_,_,e,_⟩,_⟩:=x;exact vO e
|rng lo hi=>obtain ⟨_,_,_,e⟩:=x;exact vO e
|frz ob u=>obtain ⟨e,_⟩:=x;exact vO e
|tbl ps=>exact vO (show h.get? a=some _ from x)
|met f y=>exact vO (show h.get? a=some _ from x)
|ext φ=>obtain ⟨_,⟨_,e⟩,_⟩:=x;exact vO e
theorem Paired.mapP {α β:Type} {F G:α->β->Prop}:∀ {l₁:List α} {l₂:List β},Paired F l₁ l₂->(∀ a b,F a b->G a b)->Paired G l₁ l₂
|_,_,.nil,_=>.nil
|_,_,.cons r t,f=>.cons (f _ _ r) (Paired.mapP t f)
theorem ObjOk.stay (x:ObjOk P w H h a o) (k:∀ b u,(b=a \/ H b=some (.own a))->h.get? b=some u->h'.get? b=some u)
  (ho:∀ b,H b=some (.own a)->H' b=some (.own a)) (ht:∀ b xs,H b=some (.tup xs)->H' b=some (.tup xs)):ObjOk P w H' h' a o:=by
 induction o with
|lst xs=>obtain ⟨z,its,n,r,e⟩:=x;exact ⟨z,its,n,r,k _ _ (.inl rfl) e⟩
|tup xs=>obtain ⟨z,its,r,ob,e,c⟩:=x;exact ⟨z,its,r,ob,k _ _ (.inl rfl) e,c⟩
|dK kvs=>obtain ⟨z,y,vs,r,ob,es,ep,e,c⟩:=x;exact ⟨z,y,vs,r,ob,es,ep,k _ _ (.inl rfl) e,c⟩
|dT kvs =>
  obtain ⟨z,y,xs,r,ob,es,ep,e,c⟩:=x;exact ⟨z,y,xs,Paired.mapP r λ p q z=>⟨z.1,ht _ _ z.2.1,z.2.2⟩,ob,es,ep,k _ _ (.inl rfl) e,c⟩
|set S n=>obtain ⟨ob,es,ep,t,e,c⟩:=x;exact ⟨ob,es,ep,t,k _ _ (.inl rfl) e,c⟩
|ins C dx fs =>
  obtain ⟨d,z,ne,e,mA,⟨od,es,ep,e2,c⟩,r⟩:=x;exact ⟨ho _ d,z,ne,k _ _ (.inl rfl) e,mA,⟨od,es,ep,k _ _ (.inr d) e2,c⟩,r⟩
|own y=>obtain ⟨ob,e⟩:=x;exact ⟨ob,k _ _ (.inl rfl) e⟩
|xd fs=>obtain ⟨mA,⟨od,es,ep,e,c⟩,r⟩:=x;exact ⟨mA,⟨od,es,ep,k _ _ (.inl rfl) e,c⟩,r⟩
|rng lo hi=>obtain ⟨t,u,v,e⟩:=x;exact ⟨t,u,v,k _ _ (.inl rfl) e⟩
|frz ob u ih=>obtain ⟨e,q⟩:=x;exact ⟨k _ _ (.inl rfl) e,ih q⟩
|tbl ps =>
  have e:h.get? a=some { cls:=.none,data:=.fields ps }:=x;show h'.get? a=some { cls:=.none,data:=.fields ps };exact k a _ (.inl rfl) e
|met f y =>
  have e:h.get? a=some (PySem.W.methodObj (.ref f) (.ref y)):=x;show h'.get? a=some (PySem.W.methodObj (.ref f) (.ref y));exact k a _ (.inl rfl) e
|ext φ=>obtain ⟨p,⟨o,e⟩,st⟩:=x;exact ⟨st _ _ p λ o q=>k _ _ (.inl rfl) q,⟨o,k _ _ (.inl rfl) e⟩,st⟩
theorem HOk.lt (x:HOk P w H h) (e:H a=some o):a < h.objs.size:=(x a o e).lt
theorem HOk.fresh (x:HOk P w H h) (e:h.objs.size<=a):H a=none:=by
 cases q:H a with
|none=>rfl
|some u=>exact absurd (wS (x.lt q) e) (wW _)
theorem HOk.kept (x:HOk P w H h) (k:∀ b u,h.get? b=some u->h'.get? b=some u):HOk P w H h':=λ a o e =>
 (x a o e).stay (λ b u _ q=>k b u q) (λ _ q=>q) λ _ _ q=>q
theorem HOk.laid (x:HOk P w H h) (k:∀ b u,h.get? b=some u->h'.get? b=some u) (hp:h.objs.size<=a) (new:ObjOk P w (upd H a o) h' a o):HOk P w (upd H a o) h':=λ b u e=>by
 have hn:=x.fresh hp;by_cases hb:b=a
 ·subst hb;rw [zn0] at e;cases e;exact new
 ·rw [zr0 hb] at e;exact (x b u e).stay (λ c v _ q=>k c v q) (λ c q=>by rw [zr0 (zz4 q hn)];exact q) λ c xs q=>by rw [zr0 (zz4 q hn)];exact q
end
def Rd (H:Hp) (a:Addr) (u:HO):Prop:=H a=some u \/ ∃ o,H a=some (.frz o u)
theorem Rd.ok {P:Program} {H:Hp} {h:Heap} {u:HO} (r:Rd H a u) (x:HOk P w H h):ObjOk P w H h a u:=by
 rcases r with r|⟨o,r⟩
 ·exact x a u r
 ·obtain ⟨_,q⟩:=x a _ r;exact q
noncomputable def Mut:Option HO->Prop
|some (.lst _)=>True
|some (.dK _)=>True
|some (.dT _)=>True
|some (.set _ _)=>True
|some (.ins _ _ _)=>True
|some (.ext _)=>True
|_=>False
section
variable {P:Program} {w:World} {H:Hp} {h h':Heap} {x e:Addr} {o':HO}
theorem HOk.write (ok:HOk P w H h) (mu:Mut (H x)) (he:e=x \/ H e=some (.own x)) (k:∀ b u,b≠e->h.get? b=some u->h'.get? b=some u) (heo:∃ u,h'.get? e=some u)
  (new:ObjOk P w (upd H x o') h' x o'):HOk P w (upd H x o') h':=λ b u q=>by
 have nown:∀ c y,H c=some (.own y)->c≠x:=λ c y r z=>by subst z;rw [r] at mu;exact mu
 have ntup:∀ c xs,H c=some (.tup xs)->c≠x:=λ c xs r z=>by subst z;rw [r] at mu;exact mu
 by_cases hb:b=x
 ·subst hb;rw [zn0] at q;cases q;exact new
 ·rw [zr0 hb] at q;by_cases hbe:b=e
  ·have q':H b=some (.own x):=by
    rcases he with z|z
    ·exact absurd (hbe.trans z) hb
    ·rw [hbe];exact z
   rw [q] at q';cases q';obtain ⟨v,hv⟩:=heo;exact ⟨v,by rw [hbe];exact hv⟩
  ·refine (ok b u q).stay (λ c v hc r=>k c v ?_ r) (λ c r=>by rw [zr0 (nown c b r)];exact r) λ c xs r=>by rw [zr0 (ntup c xs r)];exact r
   rcases hc with rfl|hc
   ·exact hbe
   ·rintro rfl;rcases he with z|z
    ·exact nown c b hc z
    ·rw [hc] at z;cases z;exact hb rfl
end
structure Un (fs ex:List Addr) (H H':Hp) (h h':Heap):Prop where
 keep:∀ b o,h.get? b=some o->H b=none->b ∉ fs->b ∉ ex->h'.get? b=some o
 slot:∀ b o,h.get? b=some o->H b=none->b∈fs->b ∉ ex->∃ sl,h'.get? b=some { o with slots:=sl }
 free:∀ b o,h.get? b=some o->H b=none->b ∉ ex->H' b=none
 there:∀ b o,h.get? b=some o->b ∉ ex->∃ o',h'.get? b=some o'
 tups:∀ b xs,H b=some (.tup xs)->H' b=some (.tup xs)
 frzs:∀ b o u,H b=some (.frz o u)->H' b=some (.frz o u)
 tbls:∀ b ps,H b=some (.tbl ps)->∃ more,H' b=some (.tbl (ps++more))
section
variable {fs fs' ex ex':List Addr} {H H1 H2:Hp} {h h1 h2 h':Heap} {a x e:Addr} {o:HO}
theorem Un.any (u:Un fs ex H H1 h h1) {ob:Obj} (q:h.get? b=some ob) (n:H b=none) (hx:b ∉ ex):∃ sl,h1.get? b=some { ob with slots:=sl }:=by
 by_cases hb:b∈fs
 ·exact u.slot b ob q n hb hx
 ·exact ⟨ob.slots,u.keep b ob q n hb hx⟩
theorem Un.kept (k:∀ b u,h.get? b=some u->h'.get? b=some u):Un fs ex H H h h' :=
 ⟨λ b ob q _ _ _=>k b ob q,λ b ob q _ _ _=>⟨ob.slots,k b ob q⟩,λ _ _ _ n _=>n,λ b ob q _=>⟨ob,k b ob q⟩,λ _ _ q=>q,λ _ _ _ q=>q,λ _ ps q=>⟨#[],by rw [q];simp⟩⟩
theorem Un.refl:Un fs ex H H h h:=Un.kept λ _ _ q=>q
theorem Un.laid (k:∀ b u,h.get? b=some u->h'.get? b=some u) (hp:h.objs.size<=a) (hn:H a=none):Un fs ex H (upd H a o) h h' where
 keep:=λ b u q _ _ _=>k b u q
 slot:=λ b u q _ _ _=>⟨u.slots,k b u q⟩
 free:=λ b u q n _=>by rw [zr0 (wC (wS (vO q) hp))];exact n
 there:=λ b u q _=>⟨u,k b u q⟩
 tups:=λ b xs q=>by rw [zr0 (zz4 q hn)];exact q
 frzs:=λ b u xs q=>by rw [zr0 (zz4 q hn)];exact q
 tbls:=λ b ps q=>⟨#[],by rw [zr0 (zz4 q hn),q];simp⟩
theorem Un.write (mu:Mut (H x)) (he:e=x \/ H e=some (.own x)) (k:∀ b u,b≠e->h.get? b=some u->h'.get? b=some u) (heo:∃ u,h'.get? e=some u):Un fs ex H (upd H x o) h h':=by
 have hx:∀ b,H b=none->b≠x:=λ b n z=>by subst z;rw [n] at mu;exact mu
 have hb:∀ b,H b=none->b≠e:=λ b n z=>by
  subst z;rcases he with r|r
  ·exact hx b n r
  ·rw [n] at r;cases r
 have hm:∀ b u,H b=some u->¬ Mut (some u)->b≠x:=λ b u q nm z=>by subst z;rw [q] at mu;exact nm mu
 refine ⟨λ b u q n _ _=>k b u (hb b n) q,λ b u q n _ _=>⟨u.slots,k b u (hb b n) q⟩,λ b u q n _=>by rw [zr0 (hx b n)];exact n,λ b u q _=>?_,
  λ b xs q=>by rw [zr0 (hm b _ q λ z=>z)];exact q,λ b u xs q=>by rw [zr0 (hm b _ q λ z=>z)];exact q,λ b ps q=>⟨#[],by rw [zr0 (hm b _ q λ z=>z),q];simp⟩⟩
 by_cases hbe:b=e
 ·subst hbe;exact heo
 ·exact ⟨u,k b u hbe q⟩
end
def trk (h:Heap) (H:Hp):List Addr:=(u3 h.objs.size).filter λ a=>(H a).isSome
def hidT (h:Heap) (H:Hp):Heap:=PySem.W.hideAll h (trk h H)
theorem ztq (h:Heap) (H:Hp):(hidT h H).objs.size=h.objs.size:=PySem.W.hideAll_size _ _
theorem zdu {h:Heap} {H:Hp} (e:h.get? b=some o) (n:H b=none):(hidT h H).get? b=some o :=
 PySem.W.hideAll_get _ e λ hm=>by
  have q:(H b).isSome=true:=(zW.mp hm).2;rw [n] at q;simp at q
theorem za11 {h:Heap} {H:Hp} (e:(hidT h H).get? b=some o):h.get? b=some o/\H b=none:=by
 have e':h.get? b=some o:=PySem.W.of_hideAll (trk h H) e;refine ⟨e',?_⟩;cases q:H b with
|none=>rfl
|some x =>
  have hm:b∈trk h H:=zW.mpr ⟨u9.mpr (vO e'),by simp [q]⟩;have z:(hidT h H).get? b=none:=PySem.W.hideAll_none (trk h H) hm;rw [z] at e;cases e
structure Mod (K:Fg) (mg:Str->Option Value) (base:Heap):Prop where
 kin:K.In base
 glob:base.Ns mainGlobals mg
 blt:∃ mb,base.Ns builtinsNs mb/\∀ x:Str,x ≠ "__name__"->mb x=bootBuiltins x
 nolimit:base.NoLimit
structure Cx where
 prog:Program
 w:World
 K:Fg
 mg:Str->Option Value
 base:Heap
 A:Around
 N:List Str
 s₀:Shared
 H₀:Hp
 env:Env
 outer:List Env
 stack:List Env
 ex:List Addr
 fn:Str->Bool
 calm:Bool
 pn:List (Addr×Obj)
 xe:Value->Shared->Prop
def frs (l:List Env):List Addr:=l.filterMap (·.frame)
abbrev Cx.fs (X:Cx):List Addr:=frs X.outer
def Vis (sc:Scope) (x:Str):Prop:=sc.names.lookup x=some .local \/ sc.names.lookup x=some .cell \/ sc.names.lookup x=some .free
def Loc (sc:Scope) (x:Str):Prop:=sc.names.lookup x=some .local \/ sc.names.lookup x=some .cell
noncomputable def Look (env:Env) (h:Heap) (m:Str->Option Value) (x:Str) (u:Value):Prop :=
 (env.kindOf x=some .local/\m x=some u) \/ ((env.kindOf x=some .cell \/ env.kindOf x=some .free)/\∃ c,env.cells.lookup x=some c/\h.IsCell c (some u))
structure Cx.Ok (X:Cx):Prop where
 mod:Mod X.K X.mg X.base
 kind:X.env.scope.kind=.function
 glob:X.env.globals=mainGlobals
 blt:X.env.builtins=builtinsNs
 above:X.s₀.heap.objs.size<=X.env.locals
 inj:∀ x y c,X.env.cells.lookup x=some c->X.env.cells.lookup y=some c->x=y
 has:∀ x,(X.env.kindOf x=some .cell \/ X.env.kindOf x=some .free)->∃ c,X.env.cells.lookup x=some c
 cab:∀ x c,X.fn x=true->X.env.cells.lookup x=some c->X.s₀.heap.objs.size<=c
 hd:X.calm=true->X.A.handled=none
 frames:X.A.frames=some X.stack
 stk:X.stack=X.outer \/ (X.stack=X.env :: X.outer/\X.env.frame=some X.env.locals)
 exf:∀ b∈X.ex,b≠X.env.locals/\∀ x c,X.env.cells.lookup x=some c->c≠b
 bs:∀ b o,X.base.get? b=some o->X.s₀.heap.get? b=some o/\X.H₀ b=none
 bsz:X.base.objs.size<=X.s₀.heap.objs.size
 noex:∀ b o,X.base.get? b=some o->b ∉ X.ex
 exfs:∀ b∈X.ex,b ∉ X.fs
 funs:X.s₀.heap.FunFrames X.base X.outer
 frf:∀ b∈X.fs,X.H₀ b=none
structure Inv (X:Cx) (pins:List (Addr×Obj)) (Y:List (Option V)) (H:Hp) (s:Shared):Prop where
 ok:X.Ok
 os:s.os=X.s₀.os
 bare:AllBare s.gens
 base:Un X.fs X.ex X.H₀ H X.s₀.heap s.heap
 loc:∃ m,s.heap.Ns X.env.locals m/\∀ (i:Nat) (x:Str) (v:V),X.N[i]?=some x->Y[i]?=some (some v)->Vis X.env.scope x->∃ u,RelV v u/\Look X.env s.heap m x u
 cell:∀ x c,X.env.cells.lookup x=some c->∃ v,s.heap.IsCell c v
 free:H X.env.locals=none
 freeC:∀ x c,X.env.cells.lookup x=some c->H c=none
 pin:∀ p∈X.pn++pins,s.heap.get? p.1=some p.2/\H p.1=none/\p.1≠X.env.locals/\p.1 ∉ X.fs/\∀ v,p.2.data≠.cell v
 hok:HOk X.prog X.w H s.heap
 len:Y.length=X.N.length
section
variable {X:Cx} {pins:List (Addr×Obj)} {Y:List (Option V)} {H H':Hp} {s:Shared} {h':Heap}
theorem Cx.Ok.nofr (ok:X.Ok) (e:X.base.get? b=some o):b ∉ X.fs:=λ hb=>by
 have:=(ok.funs.mem hb).1;rw [e] at this;cases this
theorem Inv.bs (I:Inv X pins Y H s):∀ b o,X.base.get? b=some o->s.heap.get? b=some o/\H b=none:=λ b o e =>
 ⟨I.base.keep b o (I.ok.bs b o e).1 (I.ok.bs b o e).2 (I.ok.nofr e) (I.ok.noex b o e),I.base.free b o (I.ok.bs b o e).1 (I.ok.bs b o e).2 (I.ok.noex b o e)⟩
theorem Inv.bk (I:Inv X pins Y H s):∀ b o,X.base.get? b=some o->s.heap.get? b=some o:=λ b o e=>(I.bs b o e).1
theorem Inv.mod (I:Inv X pins Y H s):Mod X.K X.mg X.base:=I.ok.mod
theorem Inv.kIn (I:Inv X pins Y H s):X.K.In s.heap:=I.ok.mod.kin.keeps I.bk
theorem Inv.lt (I:Inv X pins Y H s):X.env.locals < s.heap.objs.size:=let ⟨_,hn,_⟩:=I.loc;hn.lt
theorem Inv.sz (I:Inv X pins Y H s):X.s₀.heap.objs.size<=s.heap.objs.size:=wU I.ok.above (xR I.lt)
theorem Inv.nofs (I:Inv X pins Y H s) (h:s.heap.objs.size<=a):a ∉ X.fs:=λ hb=>by
 obtain ⟨_,o,ho,_⟩:=I.ok.funs.mem hb;exact absurd (wS (vO ho) (wU I.sz h)) (wW _)
theorem Inv.cne (I:Inv X pins Y H s):∀ x c,X.env.cells.lookup x=some c->c≠X.env.locals:=λ x c e z=>by
 obtain ⟨v,o,ho,hd⟩:=I.cell x c e;obtain ⟨m,⟨o',es,ep,ho',hd',_⟩,_⟩:=I.loc;rw [z,ho'] at ho;cases ho;rw [hd'] at hd;cases hd
theorem Inv.funs (I:Inv X pins Y H s):s.heap.FunFrames X.base X.outer:=by
 have all:∀ (l:List Env),(∀ b∈frs l,b∈X.fs)->X.s₀.heap.FunFrames X.base l->s.heap.FunFrames X.base l:=by
  intro l
  induction l with
 |nil=>intro _ _;trivial
 |cons env r ih =>
   intro hs hl;obtain ⟨hk,⟨L,o,hf,hn,ho,hd⟩,hr⟩:=hl;have hL:L∈X.fs:=hs L (by unfold frs;rw [xF,hf];exact wR);obtain ⟨sl,e⟩:=I.base.slot L o ho (I.ok.frf L hL) hL λ z=>I.ok.exfs L z hL;exact ⟨hk,⟨L,_,hf,hn,e,hd⟩,ih (λ b hb=>hs b (by unfold frs;rw [xF,hf];exact v8 _ hb)) hr⟩
 exact all X.outer (λ _ hb=>hb) I.ok.funs
theorem Inv.stack (I:Inv X pins Y H s):s.heap.FunFrames X.base X.stack:=by
 rcases I.ok.stk with e|⟨e,hf⟩
 ·rw [e];exact I.funs
 ·rw [e];obtain ⟨m,hn,_⟩:=I.loc;refine .cons (by rw [I.ok.kind];decide) hf hn ?_ I.funs;exact Heap.get?_none_of_le (wU I.ok.bsz I.ok.above)
theorem Inv.stkSub (I:Inv X pins Y H s):∀ b∈frs X.stack,b∈X.env.locals :: X.fs:=λ b hb=>by
 rcases I.ok.stk with e|⟨e,hf⟩
 ·rw [e] at hb;exact v8 _ hb
 ·rw [e] at hb;unfold frs at hb;rw [xF,hf] at hb;exact hb
theorem Inv.stkFree (I:Inv X pins Y H s):∀ b∈frs X.stack,H b=none:=λ b hb=>by
 rcases vL.mp (I.stkSub b hb) with e|hb
 ·rw [e];exact I.free
 ·obtain ⟨_,o,ho,_⟩:=I.ok.funs.mem hb;exact I.base.free b o ho (I.ok.frf b hb) λ z=>I.ok.exfs b z hb
theorem Inv.step {g':Array GenState} {t':Nat} {d':Drawn} (I:Inv X pins Y H s)
  (hch:∀ b∈ch,(b∈X.ex \/ X.s₀.heap.objs.size<=b)/\b≠X.env.locals/\(∀ x c,X.env.cells.lookup x=some c->c≠b)/\∀ p∈X.pn++pins,p.1≠b)
  (keep:∀ b o,b≠X.env.locals->b ∉ X.fs->b ∉ ch->s.heap.get? b=some o->H b=none->h'.get? b=some o)
  (slot:∀ b o,b≠X.env.locals->b∈X.fs->b ∉ ch->s.heap.get? b=some o->H b=none->∃ sl,h'.get? b=some { o with slots:=sl }) (free:∀ b o,b ∉ ch->s.heap.get? b=some o->H b=none->H' b=none)
  (there:∀ b o,b ∉ ch->s.heap.get? b=some o->∃ o',h'.get? b=some o')
  (tups:∀ b xs,H b=some (.tup xs)->H' b=some (.tup xs)) (frzs:∀ b o u,H b=some (.frz o u)->H' b=some (.frz o u)) (tbls:∀ b ps,H b=some (.tbl ps)->∃ more,H' b=some (.tbl (ps++more)))
  (ns:∀ m,s.heap.Ns X.env.locals m->h'.Ns X.env.locals m) (hok:HOk X.prog X.w H' h') (hg:AllBare g') :
  Inv X pins Y H' { s with heap:=h',gens:=g',drawn:=d',toks:=t' }:=by
 have neL:∀ b o,X.s₀.heap.get? b=some o->b≠X.env.locals:=λ b o e=>wC (wS (vO e) I.ok.above);have neC:∀ b o,X.s₀.heap.get? b=some o->b ∉ X.ex->b ∉ ch:=λ b o e hx hb=>by
  rcases (hch b hb).1 with z|z
  ·exact hx z
  ·exact absurd (wS (vO e) z) (wW _)
 have cellK:∀ x c,X.env.cells.lookup x=some c->∀ v,s.heap.IsCell c v->h'.IsCell c v:=λ x c e v ⟨o,ho,hd⟩=>by
  have nch:c ∉ ch:=λ z=>(hch c z).2.2.1 x c e rfl;by_cases hc:c∈X.fs
  ·obtain ⟨sl,q⟩:=slot c o (I.cne x c e) hc nch ho (I.freeC x c e);exact ⟨_,q,hd⟩
  ·exact ⟨o,keep c o (I.cne x c e) hc nch ho (I.freeC x c e),hd⟩
 refine ⟨I.ok,I.os,hg,⟨λ b o e n hb hx=>?_,λ b o e n hb hx=>?_,λ b o e n hx=>?_,λ b o e hx=>?_,λ b xs e=>tups b xs (I.base.tups b xs e),λ b o xs e=>frzs b o xs (I.base.frzs b o xs e),λ b ps e=>?_⟩,?_,λ x c e=>?_,?_,λ x c e=>?_,λ p hp=>?_,hok,I.len⟩
 ·exact keep b o (neL b o e) hb (neC b o e hx) (I.base.keep b o e n hb hx) (I.base.free b o e n hx)
 ·obtain ⟨sl,e1⟩:=I.base.slot b o e n hb hx;obtain ⟨sl',e2⟩:=slot b _ (neL b o e) hb (neC b o e hx) e1 (I.base.free b o e n hx);exact ⟨sl',e2⟩
 ·obtain ⟨o',e1⟩:=I.base.there b o e hx;exact free b o' (neC b o e hx) e1 (I.base.free b o e n hx)
 ·obtain ⟨o',e1⟩:=I.base.there b o e hx;exact there b o' (neC b o e hx) e1
 ·obtain ⟨m1,e1⟩:=I.base.tbls b ps e;obtain ⟨m2,e2⟩:=tbls b _ e1;exact ⟨m1++m2,by rw [e2,uaE]⟩
 ·obtain ⟨m,hn,hl⟩:=I.loc;refine ⟨m,ns m hn,λ i x v e1 e2 e3=>?_⟩;obtain ⟨u,r,l⟩:=hl i x v e1 e2 e3;refine ⟨u,r,?_⟩;rcases l with l|⟨k,c,e,z⟩
  ·exact .inl l
  ·exact .inr ⟨k,c,e,cellK x c e _ z⟩
 ·obtain ⟨v,z⟩:=I.cell x c e;exact ⟨v,cellK x c e v z⟩
 ·obtain ⟨m,⟨o,_,_,ho,_⟩,_⟩:=I.loc;exact free _ o (λ z=>(hch _ z).2.1 rfl) ho I.free
 ·obtain ⟨v,o,ho,hd⟩:=I.cell x c e;exact free c o (λ z=>(hch c z).2.2.1 x c e rfl) ho (I.freeC x c e)
 ·obtain ⟨e,n,ne,nf,d⟩:=I.pin p hp;have nch:p.1 ∉ ch:=λ z=>(hch p.1 z).2.2.2 p hp rfl;exact ⟨keep p.1 p.2 ne nf nch e n,free p.1 p.2 nch e n,ne,nf,d⟩
theorem Inv.un {t':Nat} (I:Inv X pins Y H s) (u:Un X.fs [] H H' s.heap h') (hok:HOk X.prog X.w H' h'):Inv X pins Y H' { s with heap:=h',toks:=t' }:=by
 obtain ⟨m,⟨o,es,ep,ho,r⟩,_⟩:=id I.loc;obtain ⟨sl,hL⟩:=u.any ho I.free (by simp);exact I.step (g':=s.gens) (d':=s.drawn) (ch:=[]) (λ _ z=>nomatch z) (λ b o _ hb _ e n=>u.keep b o e n hb (by simp)) (λ b o _ hb _ e n=>u.slot b o e n hb (by simp)) (λ b o _ e n=>u.free b o e n (by simp)) (λ b o _ e=>u.there b o e (by simp)) u.tups u.frzs u.tbls (λ m' hm=>by
  obtain ⟨o',es',ep',ho',r'⟩:=hm;rw [ho] at ho';cases ho';exact ⟨_,es',ep',hL,r'⟩) hok I.bare
theorem Inv.call {t':Nat} {d':Drawn} (I:Inv X pins Y H s) (u:Un (frs X.stack) ch H H' s.heap h') (hok:HOk X.prog X.w H' h') (hg:AllBare g')
  (hch:∀ b∈ch,(b∈X.ex \/ X.s₀.heap.objs.size<=b)/\b≠X.env.locals/\(∀ x c,X.env.cells.lookup x=some c->c≠b)/\∀ p∈X.pn++pins,p.1≠b) :
  Inv X pins Y H' { s with heap:=h',gens:=g',drawn:=d',toks:=t' }:=by
 obtain ⟨m,⟨o,es,ep,ho,r⟩,_⟩:=id I.loc;obtain ⟨sl,hL⟩:=u.any ho I.free λ z=>(hch _ z).2.1 rfl;exact I.step (ch:=ch) hch (λ b o hL hb hc e n=>u.keep b o e n (λ z=>(vL.mp (I.stkSub b z)).elim hL hb) hc) (λ b o _ _ hc e n=>u.any e n hc) (λ b o hc e n=>u.free b o e n hc) (λ b o hc e=>u.there b o e hc) u.tups u.frzs u.tbls (λ m' hm=>by
  obtain ⟨o',es',ep',ho',r'⟩:=hm;rw [ho] at ho';cases ho';exact ⟨_,es',ep',hL,r'⟩) hok hg
theorem Inv.turned {t':Nat} (I:Inv X pins Y H s) (k:∀ b o,b≠it->s.heap.get? b=some o->h'.get? b=some o) (hn:H it=none) (hL:it≠X.env.locals)
  (h1:it∈X.ex \/ X.s₀.heap.objs.size<=it) (h2:∀ x c,X.env.cells.lookup x=some c->c≠it) (h3:∀ p∈X.pn++pins,p.1≠it):Inv X pins Y H { s with heap:=h',toks:=t' }:=by
 have nit:∀ b u,H b=some u->b≠it:=λ b u e z=>by rw [z,hn] at e;cases e
 refine I.step (g':=s.gens) (d':=s.drawn) (ch:=[it]) (λ b hb=>?_) (λ b o _ _ hc e _=>k b o (λ z=>hc (by simp [z])) e) (λ b o _ _ hc e _=>⟨o.slots,k b o (λ z=>hc (by simp [z])) e⟩) (λ _ _ _ _ n=>n)
  (λ b o hc e=>⟨o,k b o (λ z=>hc (by simp [z])) e⟩) (λ _ _ e=>e) (λ _ _ _ e=>e) (λ b ps e=>⟨#[],by rw [e];simp⟩) (λ m hm=>?_) (λ b u e=>?_) I.bare
 ·have e:b=it:=by simpa using hb
  subst e;exact ⟨h1,hL,h2,h3⟩
 ·obtain ⟨o,es,ep,ho,r⟩:=hm;exact ⟨o,es,ep,k _ o (Ne.symm hL) ho,r⟩
 ·refine (I.hok b u e).stay (λ c v hc q=>k c v ?_ q) (λ _ q=>q) λ _ _ q=>q;rcases hc with z|z
  ·rw [z];exact nit b u e
  ·exact nit c _ z
theorem Inv.tok (I:Inv X pins Y H s) (t:Nat):Inv X pins Y H { s with toks:=t }:=I.un (h':=s.heap) (t':=t) Un.refl I.hok
theorem Inv.kept {t':Nat} (I:Inv X pins Y H s) (k:∀ b u,s.heap.get? b=some u->h'.get? b=some u):Inv X pins Y H { s with heap:=h',toks:=t' }:=I.un (Un.kept k) (I.hok.kept k)
theorem Inv.laid {a:Addr} {o:HO} {t':Nat} (I:Inv X pins Y H s) (k:∀ b u,s.heap.get? b=some u->h'.get? b=some u) (hp:s.heap.objs.size<=a) (new:ObjOk X.prog X.w (upd H a o) h' a o) :
  Inv X pins Y (upd H a o) { s with heap:=h',toks:=t' }:=I.un (Un.laid k hp (I.hok.fresh hp)) (I.hok.laid k hp new)
theorem Inv.write {x e:Addr} {o:HO} {t':Nat} (I:Inv X pins Y H s) (mu:Mut (H x)) (he:e=x \/ H e=some (.own x)) (k:∀ b u,b≠e->s.heap.get? b=some u->h'.get? b=some u) (heo:∃ u,h'.get? e=some u)
  (new:ObjOk X.prog X.w (upd H x o) h' x o):Inv X pins Y (upd H x o) { s with heap:=h',toks:=t' }:=I.un (Un.write mu he k heo) (I.hok.write mu he k heo new)
theorem Inv.pins_of {pins':List (Addr×Obj)} (I:Inv X pins Y H s) (h:∀ p∈pins',s.heap.get? p.1=some p.2/\H p.1=none/\p.1≠X.env.locals/\p.1 ∉ X.fs/\∀ v,p.2.data≠.cell v):Inv X pins' Y H s :=
 ⟨I.ok,I.os,I.bare,I.base,I.loc,I.cell,I.free,I.freeC,λ p hp=>(vJ.mp hp).elim (λ z=>I.pin p (xG _ z)) (h p),I.hok,I.len⟩
theorem znk (hN:N.Nodup) {j:Nat} (a:N[i]?=some x) (b:N[j]?=some x):i=j:=by
 obtain ⟨h1,e1⟩:=vZ.mp a;obtain ⟨h2,e2⟩:=vZ.mp b;exact (List.getElem_inj hN).mp (e1.trans e2.symm)
theorem zdi {M:Model} {A:Around} {E:Value->Shared->Prop} {v:V} {Q:Unit->Shared->Prop} (I:Inv X pins Y H s) (hN:X.N.Nodup) (hi:X.N[i]?=some x) (hx:Loc X.env.scope x) (r:RelV v u)
  (h:∀ s',Inv X pins (Y.set i (some v)) H s'->(∃ a,Heap.SameBut a s.heap s'.heap/\(a=X.env.locals \/ X.env.cells.lookup x=some a))->Q () s') (hf:X.fn x=true \/ X.env.scope.names.lookup x=some .local:=by walk_at "vi"):wpAny M A (storeName X.env x u) Q E s:=by
 obtain ⟨m,hn,hl⟩:=id I.loc;have hcls:(X.env.scope.kind == .class || (X.env.scope.kind == .module && X.env.locals != X.env.globals))=false:=by rw [I.ok.kind];rfl
 have hiY:i < Y.length:=by rw [I.len];exact (vZ.mp hi).1
 have cne:=I.cne;have tracked:∀ {a:Addr} {h':Heap},(∃ o,s.heap.get? a=some o/\H a=none)->Heap.SameBut a s.heap h'->HOk X.prog X.w H h':=λ {a h'} ha hs b ob e=>by
  obtain ⟨_,_,hfree⟩:=ha;refine (I.hok b ob e).stay (λ c w' hc q=>(hs.2 c ?_).trans q) (λ _ q=>q) λ _ _ q=>q;rintro rfl;rcases hc with rfl|hc
  ·rw [hfree] at e;cases e
  ·rw [hfree] at hc;cases hc
 rcases hx with hk|hk
 ·refine wpAny_storeName_local hk hn (λ h' hn' hs=>?_) hcls;obtain ⟨oL,_,_,hoL,_⟩:=id hn;refine h _ ⟨I.ok,I.os,I.bare,⟨λ b o e n hb hx=>?_,λ b o e n hb hx=>?_,I.base.free,λ b o e hx=>?_,I.base.tups,I.base.frzs,I.base.tbls⟩,⟨_,hn',λ j y v' e1 e2 e3=>?_⟩,λ y c e=>?_,I.free,I.freeC,λ p hp=>?_,tracked ⟨oL,hoL,I.free⟩ hs,by simpa using I.len⟩ ⟨_,hs,.inl rfl⟩
  ·exact (hs.2 b (wC (wS (vO e) I.ok.above))).trans (I.base.keep b o e n hb hx)
  ·obtain ⟨sl,e1⟩:=I.base.slot b o e n hb hx;exact ⟨sl,(hs.2 b (wC (wS (vO e) I.ok.above))).trans e1⟩
  ·obtain ⟨o',e1⟩:=I.base.there b o e hx;exact ⟨o',(hs.2 b (wC (wS (vO e) I.ok.above))).trans e1⟩
  ·by_cases hj:j=i
   ·subst hj;rw [hi] at e1;cases e1;rw [w8 hiY] at e2;cases e2;exact ⟨u,r,.inl ⟨hk,by simp⟩⟩
   ·rw [xC (Ne.symm hj)] at e2;obtain ⟨u',r',q⟩:=hl j y v' e1 e2 e3;refine ⟨u',r',?_⟩;rcases q with ⟨k,e⟩|⟨k,c,e,z⟩
    ·refine .inl ⟨k,?_⟩;have:y≠x:=λ e=>hj (znk hN e1 (e ▸ hi));simp [this,e]
    ·exact .inr ⟨k,c,e,z.sameBut hs (cne y c e)⟩
  ·obtain ⟨w',z⟩:=I.cell y c e;exact ⟨w',z.sameBut hs (cne y c e)⟩
  ·obtain ⟨e,n,ne,nf,d⟩:=I.pin p hp;exact ⟨(hs.2 p.1 ne).trans e,n,ne,nf,d⟩
 ·have hfn:X.fn x=true:=by
   rcases hf with z|z
   ·exact z
   ·rw [z] at hk;cases hk
  obtain ⟨c,hc⟩:=I.ok.has x (.inl hk);obtain ⟨w',z⟩:=I.cell x c hc;refine wpAny_storeName_cell I.ok.kind hk hc z (λ h' hc' hs=>?_);obtain ⟨oc,hoc,hocd⟩:=id z;refine h { s with heap:=h' } ⟨I.ok,I.os,I.bare,⟨λ b o e n hb hx=>?_,λ b o e n hb hx=>?_,I.base.free,λ b o e hx=>?_,I.base.tups,I.base.frzs,I.base.tbls⟩,⟨m,hn.sameBut hs (Ne.symm (cne x c hc)),λ j y v' e1 e2 e3=>?_⟩,λ y c' e=>?_,I.free,I.freeC,λ p hp=>?_,tracked ⟨oc,hoc,I.freeC x c hc⟩ hs,by simpa using I.len⟩ ⟨c,hs,.inr hc⟩
  ·exact (hs.2 b (wC (wS (vO e) (I.ok.cab x c hfn hc)))).trans (I.base.keep b o e n hb hx)
  ·obtain ⟨sl,e1⟩:=I.base.slot b o e n hb hx;exact ⟨sl,(hs.2 b (wC (wS (vO e) (I.ok.cab x c hfn hc)))).trans e1⟩
  ·obtain ⟨o',e1⟩:=I.base.there b o e hx;exact ⟨o',(hs.2 b (wC (wS (vO e) (I.ok.cab x c hfn hc)))).trans e1⟩
  ·by_cases hj:j=i
   ·subst hj;rw [hi] at e1;cases e1;rw [w8 hiY] at e2;cases e2;exact ⟨u,r,.inr ⟨.inl hk,c,hc,hc'⟩⟩
   ·rw [xC (Ne.symm hj)] at e2;obtain ⟨u',r',q⟩:=hl j y v' e1 e2 e3;refine ⟨u',r',?_⟩;rcases q with q|⟨k,c',e,z'⟩
    ·exact .inl q
    ·refine .inr ⟨k,c',e,z'.sameBut hs ?_⟩;rintro rfl;exact hj (znk hN e1 (I.ok.inj _ _ _ e hc ▸ hi))
  ·by_cases hcc:c'=c
   ·subst hcc;exact ⟨_,hc'⟩
   ·obtain ⟨w2,z2⟩:=I.cell y c' e;exact ⟨w2,z2.sameBut hs hcc⟩
  ·obtain ⟨e,n,ne,nf,d⟩:=I.pin p hp;refine ⟨(hs.2 p.1 ?_).trans e,n,ne,nf,d⟩;intro q;rw [q,hoc] at e;have q':oc=p.2:=wI.inj e;exact d w' (by rw [<- q'];exact hocd)
theorem zuh {M:Model} {A:Around} {E:Value->Shared->Prop} {v:V} {Q:Unit->Shared->Prop} (I:Inv X pins Y H s) (hN:X.N.Nodup) (hi:X.N[i]?=some x) (hx:Loc X.env.scope x) (r:RelV v u)
  (h:∀ s',Inv X pins (Y.set i (some v)) H s'->Q () s') (hf:X.fn x=true \/ X.env.scope.names.lookup x=some .local:=by walk_at "vi"):wpAny M A (storeName X.env x u) Q E s :=
 zdi I hN hi hx r (λ s' I' _=>h s' I') hf
theorem Inv.call' {s':Shared} (I:Inv X pins Y H s) (ho:s'.os=s.os) (u:Un (frs X.stack) ch H H' s.heap s'.heap) (hok:HOk X.prog X.w H' s'.heap) (hg:AllBare s'.gens)
  (hch:∀ b∈ch,(b∈X.ex \/ X.s₀.heap.objs.size<=b)/\b≠X.env.locals/\(∀ x c,X.env.cells.lookup x=some c->c≠b)/\∀ p∈X.pn++pins,p.1≠b):Inv X pins Y H' s':=by
 obtain ⟨h',g',d',t',o'⟩:=s';have e:o'=s.os:=ho;subst e;exact I.call (g':=g') (t':=t') (d':=d') u hok hg hch
end
abbrev XK:=Value->Option Addr->Hp->Prop
abbrev St:=List (Option V)
abbrev VK:=V->Hp->Prop
abbrev TE:=St->Hp->VK->Prop
abbrev TT:=St->Hp->(Bool->Hp->Prop)->Prop
abbrev TA:=St->Hp->(List V->Hp->Prop)->Prop
structure Ends where
 nx:St->Hp->Prop
 rt:VK
 bk:St->Hp->Prop:=λ _ _=>False
 ct:St->Hp->Prop:=λ _ _=>False
abbrev TS:=Ends->St->Hp->Prop
def EP (X:Cx) (pins:List (Addr×Obj)) (Y:St) (Q:VK) (u:Value) (s':Shared):Prop:=∃ v H',Inv X pins Y H' s'/\RelV v u/\Q v H'
def TP (X:Cx) (pins:List (Addr×Obj)) (Y:St) (Q:Bool->Hp->Prop) (b:Bool) (s':Shared):Prop:=∃ H',Inv X pins Y H' s'/\Q b H'
noncomputable def AP (X:Cx) (pins:List (Addr×Obj)) (Y:St) (Q:List V->Hp->Prop) (us:List Value) (s':Shared):Prop:=∃ vs H',Inv X pins Y H' s'/\Vals vs us/\Q vs H'
noncomputable def SP (X:Cx) (pins:List (Addr×Obj)) (D:Ends) (f:Flow) (s':Shared):Prop :=
 match f with
|.next=>∃ Y' H',Inv X pins Y' H' s'/\D.nx Y' H'
|.brk=>∃ Y' H',Inv X pins Y' H' s'/\D.bk Y' H'
|.cont=>∃ Y' H',Inv X pins Y' H' s'/\D.ct Y' H'
|.ret u=>∃ v Y' H',Inv X pins Y' H' s'/\RelV v u/\D.rt v H'
noncomputable def PE (X:Cx) (e:Expr) (t:TE):Prop :=
 ∀ (pins:List (Addr×Obj)) (s:Shared) (Y:St) (H:Hp) (Q:VK),Inv X pins Y H s->t Y H Q->wpAny (model X.prog X.w) X.A (eval e X.env) (EP X pins Y Q) X.xe s
noncomputable def PT (X:Cx) (e:Expr) (t:TT):Prop :=
 ∀ (pins:List (Addr×Obj)) (s:Shared) (Y:St) (H:Hp) (Q:Bool->Hp->Prop),Inv X pins Y H s->t Y H Q->wpAny (model X.prog X.w) X.A (isTrue e X.env (eval e X.env)) (TP X pins Y Q) X.xe s
noncomputable def PW (X:Cx) (e:Expr) (t:TT):Prop :=
 ∀ (whole:Sem Value) (pins:List (Addr×Obj)) (s:Shared) (Y:St) (H:Hp) (Q:Bool->Hp->Prop),Inv X pins Y H s->t Y H Q->wpAny (model X.prog X.w) X.A (isTrue e X.env whole) (TP X pins Y Q) X.xe s
theorem PW.pt {X:Cx} {e:Expr} {t:TT} (h:PW X e t):PT X e t:=h _
noncomputable def PA (X:Cx) (es:List Expr) (t:TA):Prop :=
 ∀ (pos:Pos) (pins:List (Addr×Obj)) (s:Shared) (Y:St) (H:Hp) (Q:List V->Hp->Prop),Inv X pins Y H s->t Y H Q->wpAny (model X.prog X.w) X.A (spliced (backTo pos (starEach es X.env))) (AP X pins Y Q) X.xe s
noncomputable def PS (X:Cx) (st:Stmt) (t:TS):Prop :=
 ∀ (pins:List (Addr×Obj)) (s:Shared) (Y:St) (H:Hp) (D:Ends),Inv X pins Y H s->t D Y H->wpAny (model X.prog X.w) X.A (exec st X.env) (SP X pins D) X.xe s
noncomputable def PSs (X:Cx) (st:List Stmt) (t:TS):Prop :=
 ∀ (pins:List (Addr×Obj)) (s:Shared) (Y:St) (H:Hp) (D:Ends),Inv X pins Y H s->t D Y H->wpAny (model X.prog X.w) X.A (execs st X.env) (SP X pins D) X.xe s
theorem thn {α:Type} {t:Sem α} {Q Q':α->Shared->Prop} (h:wpAny M A t Q E s) (hQ:∀ a s,Q a s->Q' a s):wpAny M A t Q' E s:=wpAny_mono h hQ λ _ _ x=>x
section
variable {X:Cx}
def tVar (i:Nat):TE:=λ Y H Q=>∃ v,Y[i]?=some (some v)/\Q v H
def tC (v:V):TE:=λ _ H Q=>Q v H
theorem zj61 {pos:Pos} (hN:X.N[i]?=some x) (hv:Vis X.env.scope x) (hd:(x == ("__debug__":Str))=false:=by decide) (hcd:(x == ("__classdict__":Str))=false:=by decide):PE X (.Name x pos) (tVar i):=by
 intro pins s Y H Q I h;obtain ⟨v,e,h⟩:=h;obtain ⟨m,hn,hl⟩:=I.loc;obtain ⟨u,r,l⟩:=hl i x v hN e hv;have fin:EP X pins Y Q u s:=⟨v,H,I,r,h⟩
 rcases l with ⟨hk,hm⟩|⟨hk,c,hc,hcell⟩
 ·exact wpAny_Name (wpAny_loadName_local I.ok.kind hk hn hm fin) hd
 ·rcases hk with hk|hk
  ·exact wpAny_Name (wpAny_loadName_cell I.ok.kind hk hc hcell fin) hd
  ·exact wpAny_Name (wpAny_loadName_free I.ok.kind hk hc hcell fin hcd) hd
theorem zf0 {i j pos}:PE X (.Constant (.int i) j pos) (tC (.int i)):=λ _ _ _ H _ I h=>wpAny_Constant_int ⟨.int i,H,I.tok _,⟨_,rfl⟩,h⟩
theorem zlk {b j pos}:PE X (.Constant (.bool b) j pos) (tC (.bl b)):=λ _ _ _ H _ I h=>Constant_bool ⟨.bl b,H,I,rfl,h⟩
theorem zqx {j pos}:PE X (.Constant .none j pos) (tC .non):=λ _ _ _ H _ I h=>Constant_none ⟨.non,H,I,rfl,h⟩
theorem zma {x j pos}:PE X (.Constant (.str x) j pos) (tC (.str x)):=λ _ _ _ H _ I h=>Calls.Constant_str ⟨.str x,H,I.tok _,⟨_,rfl⟩,h⟩
def Gl (X:Cx) (x:Str):Prop:=X.env.kindOf x=some .globalImplicit
theorem zhm {E:Value->Shared->Prop} {Y:St} {H:Hp} {pos:Pos} {Q:Value->Shared->Prop} (I:Inv X pins Y H s) (hg:Gl X x) (hm:X.mg x=some u) (h:Q u s)
  (hd:(x == ("__debug__":Str))=false:=by decide):wpAny (model X.prog X.w) X.A (eval (.Name x pos) X.env) Q E s :=
 Calls.Name_function_global I.ok.kind hg (Calls.loadGlobal_global (by rw [I.ok.glob];exact I.mod.glob.keeps I.bk) hm h) hd
theorem zzj {E:Value->Shared->Prop} {Y:St} {H:Hp} {pos:Pos} {Q:Value->Shared->Prop} (I:Inv X pins Y H s) (hg:Gl X x) (hm:X.mg x=none) (hv:bootBuiltins x=some u) (h:Q u s)
  (hn:x ≠ "__name__":=by decide) (hd:(x == ("__debug__":Str))=false:=by decide):wpAny (model X.prog X.w) X.A (eval (.Name x pos) X.env) Q E s:=by
 obtain ⟨mb,h1,h2⟩:=I.mod.blt;exact Calls.Name_function_global I.ok.kind hg (Calls.loadGlobal_builtin (by rw [I.ok.glob];exact I.mod.glob.keeps I.bk) hm (by rw [I.ok.blt];exact h1.keeps I.bk) ((h2 x hn).trans hv) h) hd
theorem zta {v:V} {pos:Pos} (hg:Gl X x) (hm:X.mg x=some u) (r:RelV v u) (hd:(x == ("__debug__":Str))=false:=by decide):PE X (.Name x pos) (tC v) :=
 λ _ _ _ H _ I h=>zhm I hg hm ⟨v,H,I,r,h⟩ hd
theorem zkc {v:V} {pos:Pos} (hg:Gl X x) (hm:X.mg x=none) (hv:bootBuiltins x=some u) (r:RelV v u) (hn:x ≠ "__name__":=by decide) (hd:(x == ("__debug__":Str))=false:=by decide):PE X (.Name x pos) (tC v) :=
 λ _ _ _ H _ I h=>zzj I hg hm hv ⟨v,H,I,r,h⟩ hn hd
variable {a b:Expr} {ta tb:TE} {pos:Pos}
variable {tA tB':TT} {rest:List Expr}
def tAnd (t u:TT):TT:=λ Y H Q=>t Y H λ c H1=>if c=true then u Y H1 Q else Q false H1
def tOr (t u:TT):TT:=λ Y H Q=>t Y H λ c H1=>if c=true then Q true H1 else u Y H1 Q
def tNot (t:TT):TT:=λ Y H Q=>t Y H λ c H1=>Q (!c) H1
theorem zuf (ha:PT X a tA):PW X (.BoolOp .And [a] pos) tA:=by
 intro wh pins s Y H Q I h;refine isTrue_and (thn (ha pins s Y H Q I h) λ c s1 e=>?_);cases c with
|true=>exact isTrue_and_nil e
|false=>exact e
theorem zbe (ha:PT X a tA):PW X (.BoolOp .Or [a] pos) tA:=by
 intro wh pins s Y H Q I h;refine isTrue_or (thn (ha pins s Y H Q I h) λ c s1 e=>?_);cases c with
|false=>exact isTrue_or_nil e
|true=>exact e
theorem zkm (ha:PT X a tA) (hb:PW X (.BoolOp .And (b :: rest) pos) tB'):PW X (.BoolOp .And (a :: b :: rest) pos) (tAnd tA tB'):=by
 intro wh pins s Y H Q I h;refine isTrue_and (thn (ha pins s Y H _ I h) λ c s1 hz=>?_);obtain ⟨H1,I1,q1⟩:=hz;cases c with
|true=>exact hb wh pins s1 Y H1 Q I1 q1
|false=>exact ⟨H1,I1,q1⟩
theorem zwg (ha:PT X a tA) (hb:PW X (.BoolOp .Or (b :: rest) pos) tB'):PW X (.BoolOp .Or (a :: b :: rest) pos) (tOr tA tB'):=by
 intro wh pins s Y H Q I h;refine isTrue_or (thn (ha pins s Y H _ I h) λ c s1 hz=>?_);obtain ⟨H1,I1,q1⟩:=hz;cases c with
|true=>exact ⟨H1,I1,q1⟩
|false=>exact hb wh pins s1 Y H1 Q I1 q1
theorem zjd (ha:PT X a tA):PT X (.UnaryOp .Not a pos) (tNot tA):=by
 intro pins s Y H Q I h;exact isTrue_not (ha pins s Y H (λ c H1=>Q (!c) H1) I h)
def zrc1 (ta tb:TE):TE:=λ Y H Q=>ta Y H λ x H1=>∃ c,x=.bl c/\if c=true then tb Y H1 Q else Q (.bl false) H1
def zsb1 (ta:TE):TE:=λ Y H Q=>ta Y H λ x H1=>∃ c,x=.bl c/\Q (.bl (!c)) H1
theorem zu91 {op} {t:TE} (h:PE X a t):PE X (.BoolOp op [a] pos) t:=λ pins s Y H Q I hw=>BoolOp_one (h pins s Y H Q I hw)
theorem zd81 (ha:PE X a ta) (hb:PE X (.BoolOp .And (b :: rest) pos) tb):PE X (.BoolOp .And (a :: b :: rest) pos) (zrc1 ta tb):=by
 intro pins s Y H Q I h;refine BoolOp_and (thn (ha pins s Y H _ I h) λ v s1 hz=>?_);obtain ⟨x,H1,I1,r1,q1⟩:=hz;obtain ⟨c,rfl,q1⟩:=q1;cases r1;refine wpAny_truthy_bool ?_;cases c with
|true=>exact hb pins s1 Y H1 Q I1 q1
|false=>exact ⟨.bl false,H1,I1,rfl,q1⟩
theorem zm61 (ha:PE X a ta):PE X (.UnaryOp .Not a pos) (zsb1 ta):=by
 intro pins s Y H Q I h;refine UnaryOp_ (thn (ha pins s Y H _ I h) λ v s1 hz=>?_);obtain ⟨x,H1,I1,r1,q1⟩:=hz;obtain ⟨c,rfl,q1⟩:=q1;cases r1;exact not_of (wpAny_truthy_bool ⟨.bl (!c),H1,I1,rfl,q1⟩)
def tIf (t:TT) (ta tb:TE):TE:=λ Y H Q=>t Y H λ c H1=>if c=true then ta Y H1 Q else tb Y H1 Q
theorem znh {c:Expr} (hc:PT X c tA) (ha:PE X a ta) (hb:PE X b tb):PE X (.IfExp c a b pos) (tIf tA ta tb):=by
 intro pins s Y H Q I h;refine wpAny_IfExp (thn (hc pins s Y H _ I h) λ d s1 hz=>?_);obtain ⟨H1,I1,q1⟩:=hz;cases d with
|true=>exact ha pins s1 Y H1 Q I1 q1
|false=>exact hb pins s1 Y H1 Q I1 q1
end
noncomputable def SqL (K:Fg) (H:Hp) (a:Addr) (xs:List V):Prop :=
 Rd H a (.lst xs) \/
  ∃ (o:Obj) (its:Array Value) (n:Nat),K.lookup a=some o/\o.cls=.type "list"/\o.dict=none/\o.data=.seq its n/\its.size<=sizeLine/\Vals xs its.toList
noncomputable def SqT (K:Fg) (H:Hp) (a:Addr) (xs:List V):Prop :=
 Rd H a (.tup xs) \/
  ∃ (o:Obj) (its:Array Value) (n:Nat),K.lookup a=some o/\o.cls=.type "tuple"/\o.data=.seq its n/\its.size<=sizeLine/\Vals xs its.toList
noncomputable def absV:Value->Option V
|.none=>some .non
|.bool b=>some (.bl b)
|.int i _=>some (.int i)
|.str x _=>some (.str x)
|.bytes b _=>some (.byt b)
|.float b _=>some (.flt b)
|.ref a=>some (.ref a)
|.type n=>some (.ty n)
|_=>none
theorem RelV.abs {x:V} (r:RelV x u):absV u=some x:=by
 cases x with
|non=>cases r;rfl
|bl _=>cases r;rfl
|int _=>obtain ⟨t,rfl⟩:=r;rfl
|str _=>obtain ⟨t,rfl⟩:=r;rfl
|byt _=>obtain ⟨t,rfl⟩:=r;rfl
|flt _=>obtain ⟨t,rfl⟩:=r;rfl
|ref _=>cases r;rfl
|ty _=>cases r;rfl
theorem RelV.inj {x y:V} {u:Value} (r:RelV x u) (q:RelV y u):x=y:=wI.inj (r.abs.symm.trans q.abs)
theorem Vals.inj:∀ {xs ys:List V} {us:List Value},Vals xs us->Vals ys us->xs=ys
|_,_,_,.nil,.nil=>rfl
|_,_,_,.cons r t,.cons r' t'=>by rw [r.inj r',Vals.inj t t']
section
variable {X:Cx} {pins:List (Addr×Obj)} {Y:St} {H:Hp} {s:Shared} {a:Addr} {xs ys:List V}
theorem SqL.of (h:H a=some (.lst xs)):SqL K H a xs:=.inl (.inl h)
theorem SqT.of (h:H a=some (.tup xs)):SqT K H a xs:=.inl (.inl h)
theorem Inv.list (I:Inv X pins Y H s) (h:SqL X.K H a xs):∃ its:List Value,Vals xs its/\PlainL s.heap a its.toArray/\xs.length<=sizeLine:=by
 rcases h with h|⟨o,its,n,hk,hc,hd,hs,hz,r⟩
 ·obtain ⟨z,its,n,r,e⟩:=h.ok I.hok;exact ⟨its,r,⟨_,n,e,rfl,rfl,rfl⟩,z⟩
 ·refine ⟨its.toList,r,⟨o,n,I.kIn a o hk,hc,hd,by simpa using hs⟩,?_⟩;have e:=r.length;simp only [wT] at e;lia
theorem Inv.tuple (I:Inv X pins Y H s) (h:SqT X.K H a xs):∃ its:List Value,Vals xs its/\IsTup s.heap a its.toArray/\xs.length<=sizeLine:=by
 rcases h with h|⟨o,its,n,hk,hc,hs,hz,r⟩
 ·obtain ⟨z,its,r,p⟩:=h.ok I.hok;exact ⟨its,r,p,z⟩
 ·refine ⟨its.toList,r,⟨o,I.kIn a o hk,hc,n,by simpa using hs⟩,?_⟩;have e:=r.length;simp only [wT] at e;lia
theorem Inv.list_inj (I:Inv X pins Y H s) (h:SqL X.K H a xs) (h':SqL X.K H a ys):xs=ys:=by
 obtain ⟨its,r,⟨o,n,e,_,_,d⟩,_⟩:=I.list h;obtain ⟨its',r',⟨o',n',e',_,_,d'⟩,_⟩:=I.list h';rw [e] at e';cases e';rw [d] at d';injection d' with d1 _;have:its=its':=by simpa using congrArg zX d1
 subst this;exact r.inj r'
theorem Inv.tuple_inj (I:Inv X pins Y H s) (h:SqT X.K H a xs) (h':SqT X.K H a ys):xs=ys:=by
 obtain ⟨its,r,⟨o,e,_,n,d⟩,_⟩:=I.tuple h;obtain ⟨its',r',⟨o',e',_,n',d'⟩,_⟩:=I.tuple h';rw [e] at e';cases e';rw [d] at d';injection d' with d1 _;have:its=its':=by simpa using congrArg zX d1
 subst this;exact r.inj r'
end
abbrev Cx.wish (X:Cx) (E:Value->Shared->Prop):Cx:={ X with xe:=E }
abbrev Cx.nox (X:Cx):Cx:=X.wish λ _ _=>False
theorem Cx.Ok.wish {X:Cx} (ok:X.Ok) (E:Value->Shared->Prop):(X.wish E).Ok :=
 ⟨ok.mod,ok.kind,ok.glob,ok.blt,ok.above,ok.inj,ok.has,ok.cab,ok.hd,ok.frames,ok.stk,ok.exf,ok.bs,ok.bsz,ok.noex,ok.exfs,ok.funs,ok.frf⟩
theorem Cx.Ok.unwish {X:Cx} (ok:(X.wish E).Ok):X.Ok :=
 ⟨ok.mod,ok.kind,ok.glob,ok.blt,ok.above,ok.inj,ok.has,ok.cab,ok.hd,ok.frames,ok.stk,ok.exf,ok.bs,ok.bsz,ok.noex,ok.exfs,ok.funs,ok.frf⟩
section
variable {X:Cx} {pins:List (Addr×Obj)} {Y:St} {H:Hp} {s:Shared} {E:Value->Shared->Prop}
theorem Inv.wish (I:Inv X pins Y H s) (E:Value->Shared->Prop):Inv (X.wish E) pins Y H s:=⟨I.ok.wish E,I.os,I.bare,I.base,I.loc,I.cell,I.free,I.freeC,I.pin,I.hok,I.len⟩
theorem Inv.unwish (I:Inv (X.wish E) pins Y H s):Inv X pins Y H s:=⟨I.ok.unwish,I.os,I.bare,I.base,I.loc,I.cell,I.free,I.freeC,I.pin,I.hok,I.len⟩
theorem SP.unwish {D:Ends} {f:Flow} {s':Shared} (h:SP (X.wish E) pins D f s'):SP X pins D f s':=by
 cases f with
|next=>obtain ⟨Y',H',I,q⟩:=h;exact ⟨Y',H',I.unwish,q⟩
|brk=>obtain ⟨Y',H',I,q⟩:=h;exact ⟨Y',H',I.unwish,q⟩
|cont=>obtain ⟨Y',H',I,q⟩:=h;exact ⟨Y',H',I.unwish,q⟩
|ret u=>obtain ⟨v,Y',H',I,r,q⟩:=h;exact ⟨v,Y',H',I.unwish,r,q⟩
theorem PSs.nox {st:List Stmt} {t:TS} (h:PSs X.nox st t):PSs X st t:=λ pins s Y H D I hw =>
 wpAny_mono (h pins s Y H D (I.wish _) hw) (λ _ _ q=>q.unwish) λ _ _ z=>False.elim z
end
section
variable {X:Cx} {st:Stmt} {rest:List Stmt} {t u:TS} {e:Expr} {te:TE} {pos:Pos}
def zjb1:TS:=λ D Y H=>D.nx Y H
def tSeq (t u:TS):TS:=λ D Y H=>t { D with nx:=u D } Y H
theorem zk1:PSs X [] zjb1:=λ _ _ Y H _ I h=>wpAny_execs_nil ⟨Y,H,I,h⟩
theorem zd0 (h1:PS X st t) (h2:PSs X rest u):PSs X (st :: rest) (tSeq t u):=by
 intro pins s Y H D I h;refine wpAny_execs_cons (thn (h1 pins s Y H { D with nx:=u D } I h) λ f s1 q=>?_);cases f with
|next =>
  obtain ⟨Y',H',I',q⟩:=q;exact h2 pins s1 Y' H' D I' q
|ret v=>exact q
|brk=>exact q
|cont=>exact q
theorem zj0 (h1:PS X st t):PSs X [st] t:=by
 intro pins s Y H D I h;refine wpAny_execs_cons (thn (h1 pins s Y H D I h) λ f s1 q=>?_);cases f with
|next=>exact wpAny_execs_nil q
|ret v=>exact q
|brk=>exact q
|cont=>exact q
def zka1:TS:=λ D Y H=>D.ct Y H
theorem zxj:PS X (.Continue pos) zka1:=λ _ _ Y H _ I h=>wpAny_Continue ⟨Y,H,I,h⟩
theorem Inv.quiet {Y:St} {H:Hp} (I:Inv X pins Y H s):interactive X.env=false:=by simp [interactive,I.ok.kind]
def znc1 (te:TE):TS:=λ D Y H=>te Y H λ _ H1=>D.nx Y H1
theorem zd2 (he:PE X e te) (hs:swapsWith e none pos.line X.env=pure false:=by rfl):PS X (.Expr e pos) (znc1 te):=by
 intro pins s Y H D I h;exact wpAny_Expr_any (thn (he pins s Y H _ I h) λ v s1 ⟨x,H1,I1,r1,q1⟩=>⟨Y,H1,I1,q1⟩) I.quiet hs
def tRet (te:TE):TS:=λ D Y H=>te Y H D.rt
theorem zc1 (he:PE X e te):PS X (.Return (some e) pos) (tRet te):=by
 intro pins s Y H D I h;exact wpAny_Return_some (thn (he pins s Y H _ I h) λ v s1 ⟨x,H1,I1,r1,q1⟩=>⟨x,Y,H1,I1,r1,q1⟩)
def tIfS (c:TT) (t u:TS):TS:=λ D Y H=>c Y H λ b H1=>if b=true then t D Y H1 else u D Y H1
theorem zh8 {c:Expr} {a b:List Stmt} {tc:TT} (hc:PT X c tc) (ha:PSs X a t) (hb:PSs X b u):PS X (.If c a b pos) (tIfS tc t u):=by
 intro pins s Y H D I h;refine wpAny_If (thn (hc pins s Y H _ I h) λ d s1 hz=>?_);obtain ⟨H1,I1,q1⟩:=hz;cases d with
|true=>exact ha pins s1 Y H1 D I1 q1
|false=>exact hb pins s1 Y H1 D I1 q1
end
abbrev TG:=V->St->Hp->(St->Hp->Prop)->Prop
abbrev TGs:=List V->St->Hp->(St->Hp->Prop)->Prop
noncomputable def PG (X:Cx) (target:Expr) (t:TG):Prop :=
 ∀ (pins:List (Addr×Obj)) (s:Shared) (Y:St) (H:Hp) (v:V) (u:Value) (Q:St->Hp->Prop),Inv X pins Y H s->RelV v u->t v Y H Q ->
  wpAny (model X.prog X.w) X.A (assign target X.env u) (λ _ s'=>∃ Y' H',Inv X pins Y' H' s'/\Q Y' H') X.xe s
noncomputable def PGs (X:Cx) (ts:List Expr) (t:TGs):Prop :=
 ∀ (pins:List (Addr×Obj)) (s:Shared) (Y:St) (H:Hp) (vs:List V) (us:List Value) (Q:St->Hp->Prop),Inv X pins Y H s->Vals vs us->t vs Y H Q ->
  wpAny (model X.prog X.w) X.A (assignInOrder ((assignEach ts X.env).map (·.2)) us) (λ _ s'=>∃ Y' H',Inv X pins Y' H' s'/\Q Y' H') X.xe s
abbrev TSet:=V->V->V->Hp->(Hp->Prop)->Prop
noncomputable def PSet (X:Cx) (t:TSet):Prop :=
 ∀ (pins:List (Addr×Obj)) (s:Shared) (Y:St) (H:Hp) (o i v:V) (ov iv u:Value) (Q:Hp->Prop),Inv X pins Y H s->RelV o ov->RelV i iv->RelV v u->t o i v H Q ->
  wpAny (model X.prog X.w) X.A (setItem ov iv u) (λ _ s'=>∃ H',Inv X pins Y H' s'/\Q H') X.xe s
abbrev TIp:=V->V->Hp->VK->Prop
noncomputable def PIp (X:Cx) (op:Operator) (t:TIp):Prop :=
 ∀ (pins:List (Addr×Obj)) (s:Shared) (Y:St) (H:Hp) (x y:V) (v u:Value) (Q:VK),Inv X pins Y H s->RelV x v->RelV y u->t x y H Q ->
  wpAny (model X.prog X.w) X.A (inplaceOp op v u) (EP X pins Y Q) X.xe s
section
variable {X:Cx} {pos:Pos}
def zqp (i:Nat):TG:=λ v Y H Q=>Q (Y.set i (some v)) H
theorem zd21 (hN:X.N.Nodup) (hi:X.N[i]?=some x) (hx:Loc X.env.scope x) (hf:X.fn x=true \/ X.env.scope.names.lookup x=some .local:=by walk_at "vi"):PG X (.Name x pos) (zqp i):=by
 intro pins s Y H v u Q I r h;exact wpAny_assign_Name (zuh I hN hi hx r (λ s' I'=>⟨_,H,I',h⟩) hf)
def gNil:TGs:=λ vs Y H Q=>vs=[]/\Q Y H
def zoc1 (t:TG) (u:TGs):TGs:=λ vs Y H Q=>∃ v r,vs=v :: r/\t v Y H λ Y' H'=>u r Y' H' Q
theorem zu5:PGs X [] gNil:=by
 intro pins s Y H vs us Q I r h;obtain ⟨e,h⟩:=h;subst e;cases r;exact assignInOrder_nil ⟨Y,H,I,h⟩
theorem zz0 {e:Expr} {t:TG} {u:TGs} (h1:PG X e t) (h2:PGs X es u)
  (hs:(assignEach (e :: es) X.env).map (·.2)=assign e X.env :: (assignEach es X.env).map (·.2):=by rfl):PGs X (e :: es) (zoc1 t u):=by
 intro pins s Y H vs us Q I r h;obtain ⟨v,vr,e1,h⟩:=h;subst e1;cases r with
|cons r rr =>
  rw [hs];refine assignInOrder_cons (thn (h1 pins s Y H _ _ _ I r h) λ _ s1 hz=>?_);obtain ⟨Y1,H1,I1,q1⟩:=hz;exact h2 pins s1 Y1 H1 _ _ Q I1 rr q1
def gTup (K:Fg) (n:Nat) (t:TGs):TG:=λ v Y H Q=>∃ a xs,v=.ref a/\SqT K H a xs/\xs.length=n/\t xs Y H Q
theorem zl81 {k:Nat} {t:TGs} (hc:X.calm=true) (h:PGs X es t)
  (hn:(assignEach es X.env).length=n:=by rfl) (hst:(assignEach es X.env).findIdx? (·.1)=none:=by rfl):PG X (.Tuple es k pos) (gTup X.K n t):=by
 intro pins s Y H v u Q I r hw;obtain ⟨a,xs,e1,hq,hl,hw⟩:=hw;subst e1;cases r;obtain ⟨its,rv,ht,hz⟩:=I.tuple hq;refine assign_Tuple_tuple (I.ok.hd hc) ht (by simp [hn,<- hl,rv.length]) hst λ h' hx=>?_;have I1:Inv X pins Y H { s with heap:=h' }:=I.kept (t':=s.toks) λ b o e=>hx b o (wC (vO e)) e;exact h pins _ Y H xs _ Q I1 (by simpa using rv) hw
def gSub (to ti:TE) (t:TSet):TG:=λ v Y H Q=>to Y H λ o H1=>ti Y H1 λ i H2=>t o i v H2 λ H3=>Q Y H3
theorem zi11 {o i:Expr} {to ti:TE} {t:TSet} (ho:PE X o to) (hi:PE X i ti) (hs:PSet X t)
  (ha:∀ v,assign (.Subscript o i pos) X.env v=(do
   let ov <- holding [v] (eval o X.env)
   let iv <- holding [v,ov] (eval i X.env)
   standAt pos
   holding [v,ov,iv] (setItem ov iv v)
   release [v,ov,iv] []):=by intro _;rfl):PG X (.Subscript o i pos) (gSub to ti t):=by
 intro pins s Y H v u Q I r h;rw [ha];refine wpAny_bind (wpAny_holding (thn (ho pins s Y H _ I h) λ ov s1 hz=>?_));obtain ⟨x,H1,I1,r1,q1⟩:=hz;refine wpAny_bind (wpAny_holding (thn (hi pins s1 Y H1 _ I1 q1) λ iv s2 hz=>?_));obtain ⟨y,H2,I2,r2,q2⟩:=hz;refine wpAny_bind (wpAny_standAt (wpAny_bind (wpAny_holding (thn (hs pins s2 Y H2 x y v ov iv u _ I2 r1 r2 r q2) λ _ s3 hz=>?_))));obtain ⟨H3,I3,q3⟩:=hz;exact wpAny_release ⟨Y,H3,I3,q3⟩
def tAsg (te:TE) (g:TG):TS:=λ D Y H=>te Y H λ x H1=>g x Y H1 D.nx
theorem ztn {e:Expr} {te:TE} {g:TG} (he:PE X e te) (hg:PG X tg g) (hs:swapsWithSole [tg] e pos.line X.env=pure false:=by rfl) (hw:swappedStores [tg] e X.env=pure none:=by rfl)
  (h1:(assignEach [tg] X.env).map (·.2)=[assign tg X.env]:=by rfl):PS X (.Assign [tg] e pos) (tAsg te g):=by
 intro pins s Y H D I h;refine wpAny_Assign_stores (thn (he pins s Y H _ I h) λ v s1 hz=>?_) hs hw;obtain ⟨x,H1,I1,r1,q1⟩:=hz;rw [h1];exact thn (hg pins s1 Y H1 x v _ I1 r1 q1) λ _ s2 q=>q
theorem zz51 {e:Expr} {te:TE} (hN:X.N.Nodup) (hi:X.N[i]?=some x) (hx:Loc X.env.scope x) (he:PE X e te) (hs:swapsWith e (some (.Name x pos')) pos.line X.env=pure false:=by rfl) (hf:X.fn x=true \/ X.env.scope.names.lookup x=some .local:=by walk_at "vi") :
  PS X (.Assign [.Name x pos'] e pos) (tAsg te (zqp i)):=by
 intro pins s Y H D I h;refine wpAny_Assign_Name (thn (he pins s Y H _ I h) λ v s1 hz=>?_) hs;obtain ⟨y,H1,I1,r1,q1⟩:=hz;exact zuh I1 hN hi hx r1 (λ s2 I2=>⟨_,H1,I2,q1⟩) hf
def tAug (i:Nat) (te:TE) (ti:TIp):TS:=λ D Y H=>∃ x,Y[i]?=some (some x)/\te Y H λ y H1=>ti x y H1 λ z H2=>D.nx (Y.set i (some z)) H2
theorem zc41 {e:Expr} {te:TE} {ti:TIp} {pos':Pos} (hN:X.N.Nodup) (hi:X.N[i]?=some x) (hx:Loc X.env.scope x) (he:PE X e te) (ho:PIp X op ti) (hf:X.fn x=true \/ X.env.scope.names.lookup x=some .local:=by walk_at "vi") :
  PS X (.AugAssign (.Name x pos') op e pos) (tAug i te ti):=by
 intro pins s Y H D I h;obtain ⟨v,e1,h⟩:=h;obtain ⟨m,hn,hl⟩:=I.loc;have vis:Vis X.env.scope x:=by rcases hx with k|k;exact .inl k;exact .inr (.inl k)
 obtain ⟨u,r,l⟩:=hl i x v hi e1 vis;refine wpAny_AugAssign_Name ?_;have go:wpAny (model X.prog X.w) X.A (eval e X.env) (λ w s₂=>wpAny (model X.prog X.w) X.A (inplaceOp op u w) (λ r s₃=>wpAny (model X.prog X.w) X.A (storeName X.env x r) (λ _=>SP X pins D .next) X.xe s₃) X.xe s₂) X.xe s:=by
  refine thn (he pins s Y H _ I h) λ w s1 hz=>?_;obtain ⟨y,H1,I1,r1,q1⟩:=hz;refine thn (ho pins s1 Y H1 v y u w _ I1 r r1 q1) λ z s2 hz=>?_;obtain ⟨zv,H2,I2,r2,q2⟩:=hz;exact zuh I2 hN hi hx r2 (λ s3 I3=>⟨_,H2,I3,q2⟩) hf
 rcases l with ⟨hk,hm⟩|⟨hk,c,hc,hcell⟩
 ·exact wpAny_loadName_local I.ok.kind hk hn hm go
 ·rcases hk with hk|hk
  ·exact wpAny_loadName_cell I.ok.kind hk hc hcell go
  ·rcases hx with k|k
   ·have:X.env.scope.names.lookup x=some .free:=hk;rw [k] at this;cases this
   ·have:X.env.scope.names.lookup x=some .free:=hk;rw [k] at this;cases this
noncomputable def zhb1 (to ti te:TE) (tget:V->V->Hp->VK->Prop) (tip:TIp) (tset:TSet):TS:=λ D Y H=>to Y H λ o H1=>ti Y H1 λ i H2=>tget o i H2 λ x H3=>te Y H3 λ y H4=>tip x y H4 λ z H5=>tset o i z H5 λ H6=>D.nx Y H6
noncomputable def PGet (X:Cx) (t:V->V->Hp->VK->Prop):Prop :=
 ∀ (pins:List (Addr×Obj)) (s:Shared) (Y:St) (H:Hp) (o i:V) (ov iv:Value) (Q:VK),Inv X pins Y H s->RelV o ov->RelV i iv->t o i H Q ->
  wpAny (model X.prog X.w) X.A (getItem ov iv) (EP X pins Y Q) X.xe s
theorem zac {o i e:Expr} {to ti te:TE} {tget:V->V->Hp->VK->Prop} {tip:TIp} {tset:TSet} {tpos:Pos} (ho:PE X o to) (hi:PE X i ti) (hg:PGet X tget) (he:PE X e te) (hp:PIp X op tip) (hs:PSet X tset)
  (ha:∀ ov iv new,augStore i ov iv new=(do holding [new,ov,iv] (setItem ov iv new);release [new,ov,iv] [];pure .next):=by intros;rfl):PS X (.AugAssign (.Subscript o i tpos) op e pos) (zhb1 to ti te tget tip tset):=by
 intro pins s Y H D I h;refine wpAny_AugAssign_SubscriptAny (thn (ho pins s Y H _ I h) λ ov s1 hz=>?_) ha;obtain ⟨x1,H1,I1,r1,q1⟩:=hz;refine thn (hi pins s1 Y H1 _ I1 q1) λ iv s2 hz=>?_;obtain ⟨x2,H2,I2,r2,q2⟩:=hz;refine thn (hg pins s2 Y H2 x1 x2 ov iv _ I2 r1 r2 q2) λ old s3 hz=>?_;obtain ⟨x3,H3,I3,r3,q3⟩:=hz;refine thn (he pins s3 Y H3 _ I3 q3) λ v s4 hz=>?_;obtain ⟨x4,H4,I4,r4,q4⟩:=hz;refine thn (hp pins s4 Y H4 x3 x4 old v _ I4 r3 r4 q4) λ new s5 hz=>?_;obtain ⟨x5,H5,I5,r5,q5⟩:=hz;exact thn (hs pins s5 Y H5 x1 x2 x5 ov iv new _ I5 r1 r2 r5 q5) λ _ s6 ⟨H6,I6,q6⟩=>⟨Y,H6,I6,q6⟩
def ipI (f:Int->Int->Int):TIp:=λ x y H Q=>∃ i j,x=.int i/\y=.int j/\Q (.int (f i j)) H
theorem zwl:PIp X .Add (ipI λ i j=>i+j):=by
 intro pins s Y H x y v u Q I r1 r2 h;obtain ⟨i,j,e1,e2,q⟩:=h;subst e1;subst e2;obtain ⟨t,rfl⟩:=r1;obtain ⟨t',rfl⟩:=r2;exact iadd_int ⟨.int _,H,I.tok _,⟨_,rfl⟩,q⟩
theorem zuw:PIp X .Sub (ipI λ i j=>i - j):=by
 intro pins s Y H x y v u Q I r1 r2 h;obtain ⟨i,j,e1,e2,q⟩:=h;subst e1;subst e2;obtain ⟨t,rfl⟩:=r1;obtain ⟨t',rfl⟩:=r2;exact isub_int ⟨.int _,H,I.tok _,⟨_,rfl⟩,q⟩
noncomputable def zj41 (c:TT) (tb:TS):TS:=λ D Y H=>∃ W:Nat->St->Hp->Prop,(∃ m,W m Y H)/\∀ m Y H,W m Y H ->
 c Y H λ b H1=>if b=true then ∃ N:St->Hp->Prop,(∀ Y' H',N Y' H'->∃ m',m' < m/\W m' Y' H')/\tb { D with nx:=N,ct:=N,bk:=D.nx } Y H1 else D.nx Y H1
theorem zhb {c:Expr} {tc:TT} {tb:TS} (hp:PassesOwn (model X.prog X.w) X.A X.env X.xe) (hc:PT X c tc) (hb:PSs X body tb):PS X (.While c body [] pos) (zj41 tc tb):=by
 intro pins s Y H D I h;obtain ⟨W,⟨m0,w0⟩,turn⟩:=h;refine wpAny_While (codeAny_whileLoop (λ n s'=>∃ Y' H',Inv X pins Y' H' s'/\W n Y' H') ?_ m0 ⟨Y,H,I,w0⟩);rintro n s1 ⟨Y1,H1,I1,w1⟩;refine wpAny_passesOwn hp (thn (hc pins s1 Y1 H1 _ I1 (turn n Y1 H1 w1)) λ b s2 hz=>?_);obtain ⟨H2,I2,q2⟩:=hz;cases b with
|true =>
  obtain ⟨N,hN,q2⟩:=q2;rw [if_pos rfl];refine wpAny_passesOwn hp (thn (hb pins s2 Y1 H2 _ I2 q2) λ f s3 q3=>?_);cases f with
 |next =>
   obtain ⟨Y3,H3,I3,n3⟩:=q3;obtain ⟨m',hm,w3⟩:=hN Y3 H3 n3;exact ⟨m',hm,Y3,H3,I3,w3⟩
 |cont =>
   obtain ⟨Y3,H3,I3,n3⟩:=q3;obtain ⟨m',hm,w3⟩:=hN Y3 H3 n3;exact ⟨m',hm,Y3,H3,I3,w3⟩
 |brk=>exact q3
 |ret v=>exact q3
|false =>
  rw [if_neg vU];exact wpAny_execs_nil ⟨Y1,H2,I2,q2⟩
end
structure It where
 go:Nat->Hp->Prop
 yld:Nat->Hp->V->Hp->Prop
 stop:Nat->Hp->Prop
noncomputable def FpOk (X:Cx) (pins:List (Addr×Obj)) (H:Hp) (b:Addr):Prop :=
 H b=none/\b≠X.env.locals/\b ∉ X.fs/\(b∈X.ex \/ X.s₀.heap.objs.size<=b)/\(∀ x c,X.env.cells.lookup x=some c->c≠b)/\∀ p∈X.pn++pins,p.1≠b
theorem Inv.fpOk {X:Cx} {Y:St} {H H':Hp} (I:Inv X pins Y H s) (hb:s.heap.objs.size<=b) (hn:H' b=none):FpOk X pins H' b:=by
 refine ⟨hn,yU (wS I.lt hb),I.nofs hb,.inr (wU I.sz hb),λ x c e z=>?_,λ p hp z=>?_⟩
 ·obtain ⟨v,q⟩:=I.cell x c e;exact absurd (wS q.lt (by rw [z];exact hb)) (wW _)
 ·exact absurd (wS (vO (I.pin p hp).1) (by rw [z];exact hb)) (wW _)
structure Turn (P:Program) (w:World) (K:Fg) (tg:Expr) (J:It) (fp:List Addr) (it:Addr) (tn:Nat->Heap->Prop):Prop where
 mem:it∈fp
 obj:∀ i h,tn i h->∀ b∈fp,∃ o,h.get? b=some o/\∀ v,o.data≠.cell v
 keep:∀ i h h',tn i h->(∀ b∈fp,∀ o,h.get? b=some o->h'.get? b=some o)->tn i h'
 item:∀ (X:Cx),X.prog=P->X.w=w->X.K=K->X.calm=true->∀ (i:Nat) (pins:List (Addr×Obj)) (s:Shared) (Y:St) (H:Hp) (E:Value->Shared->Prop),Inv X pins Y H s->(∀ b∈fp,FpOk X pins H b)->tn i s.heap->J.go i H ->
  wpAny (model P w) X.A (pyNext (.ref it)) (λ r s1=>∃ u,r=some u /\
   wpAny (model P w) X.A (letOwnedTupleGo tg (.ref it) u) (λ _ s2=>∃ x H',Inv X pins Y H' s2/\RelV x u/\J.yld i H x H'/\tn (i+1) s2.heap/\∀ b∈fp,H' b=none) E s1) E s
 done:∀ (X:Cx),X.prog=P->X.w=w->X.K=K->X.calm=true->∀ (i:Nat) (pins:List (Addr×Obj)) (s:Shared) (Y:St) (H:Hp) (E:Value->Shared->Prop),Inv X pins Y H s->(∀ b∈fp,FpOk X pins H b)->tn i s.heap->J.stop i H ->
  wpAny (model P w) X.A (pyNext (.ref it)) (λ r s1=>r=none/\Inv X pins Y H s1) E s
 self:∀ (A:Around) (i:Nat) (s:Shared) (Q:Value->Shared->Prop) (E:Value->Shared->Prop),tn i s.heap->Q (.ref it) s->wpAny (model P w) A (pyIter (.ref it)) Q E s
abbrev TI:=St->Hp->(It->Hp->Prop)->Prop
noncomputable def PIE (X:Cx) (pins:List (Addr×Obj)) (Y:St) (tg:Expr) (R:It->Hp->Prop) (itv:Value) (s2:Shared):Prop :=
 ∃ (it:Addr) (fp:List Addr) (tn:Nat->Heap->Prop) (J:It) (H':Hp),itv=.ref it/\Inv X pins Y H' s2/\Turn X.prog X.w X.K tg J fp it tn/\tn 0 s2.heap/\(∀ b∈fp,FpOk X pins H' b)/\R J H'
noncomputable def PI (X:Cx) (tg iter:Expr) (wi:TI):Prop :=
 ∀ (pins:List (Addr×Obj)) (s:Shared) (Y:St) (H:Hp) (R:It->Hp->Prop),Inv X pins Y H s->wi Y H R ->
  wpAny (model X.prog X.w) X.A (eval iter X.env) (λ v s1=>wpAny (model X.prog X.w) X.A (pyIter v) (PIE X pins Y tg R) X.xe s1) X.xe s
theorem zt51 {E : Value → Shared → Prop} {n : String} {vs : Array Value} {Q : Unit → Shared → Prop} (ho : s.heap.get? it = some o) (hc : o.cls = .type n) (hd : o.data = .fields vs)
    (hn : ["enumerate", "zip", "dict_itemiterator", "dict_reverseitemiterator", "odict_iterator", "itertools.zip_longest", "itertools.pairwise"].contains n = false) (hQ : Q () s) : wpAny M A (letOwnedTupleGo tg (.ref it) u) Q E s := by
  unfold letOwnedTupleGo;cases tg <;> first
    | exact wpAny_pure hQ
    | (cases u <;> first
        | exact wpAny_pure hQ
        | (refine wpAny_bind (wpAny_load ho ?_)
           rw [hc, hd];show wpAny M A (if (["enumerate", "zip", "dict_itemiterator", "dict_reverseitemiterator", "odict_iterator", "itertools.zip_longest", "itertools.pairwise"].contains n && vs[0]? == some (rawInt _)) = true then _ else _) Q E s;rw [if_neg (by intro h; rw [hn, Bool.false_and] at h; cases h)];exact wpAny_pure hQ))
noncomputable def Itl (K:Fg) (a:Addr):It :=
 ⟨λ i H=>∃ xs x,SqL K H a xs/\xs[i]?=some x,λ i H x H'=>H'=H/\∀ xs,SqL K H a xs->xs[i]?=some x,λ i H=>∃ xs,SqL K H a xs/\xs.length<=i⟩
noncomputable def Itt (K:Fg) (a:Addr):It :=
 ⟨λ i H=>∃ xs x,SqT K H a xs/\xs[i]?=some x,λ i H x H'=>H'=H/\∀ xs,SqT K H a xs->xs[i]?=some x,λ i H=>∃ xs,SqT K H a xs/\xs.length<=i⟩
def Itr (lo:Int) (n:Nat):It:=⟨λ i _=>i < n,λ i H x H'=>H'=H/\x=.int (lo+i),λ i _=>n<=i⟩
theorem zoq {P:Program} (a it:Addr):Turn P w K tg (Itl K a) [it] it (λ i h=>h.IsListIter it a i) where
 mem:=by simp
 obj:=λ i h st b hb=>by
  have e:b=it:=by simpa using hb
  subst e;obtain ⟨o,e,c,d⟩:=st;exact ⟨o,e,λ v z=>by rw [d] at z;cases z⟩
 keep:=λ i h h' st k=>st.at λ o e=>k it (by simp) o e
 item:=by
  intro X hP hw hK hc i pins s Y H E I hf st hg;subst hP hw hK;obtain ⟨xs,x,hq,hx⟩:=hg;obtain ⟨its,rv,p,hz⟩:=I.list hq;obtain ⟨u,hu,ru⟩:=rv.get hx;obtain ⟨f0,f1,f2,f3,f4,f5⟩:=hf it (by simp);refine wpAny_pyNext_list_item st p.isList (x:=u) (by simpa using hu) λ h' st' sb=>?_;have I1:Inv X pins Y H { s with heap:=h' }:=I.turned (t':=s.toks) (λ b o hb e=>(sb.2 b hb).trans e) f0 f1 f3 f4 f5;obtain ⟨o,e,c,d⟩:=id st';exact ⟨u,rfl,zt51 (s:={ s with heap:=h' }) e c d (by decide) ⟨x,H,I1,ru,⟨rfl,λ ys hy=>by rw [I.list_inj hy hq];exact hx⟩,st',λ b hb=>(hf b hb).1⟩⟩
 done:=by
  intro X hP hw hK hc i pins s Y H E I hf st hg;subst hP hw hK;obtain ⟨xs,hq,hx⟩:=hg;obtain ⟨its,rv,p,hz⟩:=I.list hq;obtain ⟨f0,f1,f2,f3,f4,f5⟩:=hf it (by simp);have hl:=rv.length;exact wpAny_pyNext_list_end (I.ok.hd hc) st p.isList (by simp;lia) λ h' eb=>⟨rfl,I.turned (t':=s.toks) (λ b o hb e=>eb b o hb e) f0 f1 f3 f4 f5⟩
 self:=λ _ _ _ _ _ st h=>wpAny_pyIter_listiter st h
theorem zal {P:Program} (a it:Addr):Turn P w K tg (Itt K a) [it] it (λ i h=>h.IsTupleIter it a i) where
 mem:=by simp
 obj:=λ i h st b hb=>by
  have e:b=it:=by simpa using hb
  subst e;obtain ⟨o,e,c,d⟩:=st;exact ⟨o,e,λ v z=>by rw [d] at z;cases z⟩
 keep:=λ i h h' st k=>st.at λ o e=>k it (by simp) o e
 item:=by
  intro X hP hw hK hc i pins s Y H E I hf st hg;subst hP hw hK;obtain ⟨xs,x,hq,hx⟩:=hg;obtain ⟨its,rv,p,hz⟩:=I.tuple hq;obtain ⟨u,hu,ru⟩:=rv.get hx;obtain ⟨f0,f1,f2,f3,f4,f5⟩:=hf it (by simp);refine wpAny_pyNext_tuple_item st (show s.heap.IsTuple a its.toArray from p) (x:=u) (by simpa using hu) λ h' st' sb=>?_;have I1:Inv X pins Y H { s with heap:=h' }:=I.turned (t':=s.toks) (λ b o hb e=>(sb.2 b hb).trans e) f0 f1 f3 f4 f5;obtain ⟨o,e,c,d⟩:=id st';exact ⟨u,rfl,zt51 (s:={ s with heap:=h' }) e c d (by decide) ⟨x,H,I1,ru,⟨rfl,λ ys hy=>by rw [I.tuple_inj hy hq];exact hx⟩,st',λ b hb=>(hf b hb).1⟩⟩
 done:=by
  intro X hP hw hK hc i pins s Y H E I hf st hg;subst hP hw hK;obtain ⟨xs,hq,hx⟩:=hg;obtain ⟨its,rv,p,hz⟩:=I.tuple hq;obtain ⟨f0,f1,f2,f3,f4,f5⟩:=hf it (by simp);have hl:=rv.length;exact wpAny_pyNext_tuple_end (I.ok.hd hc) st (show s.heap.IsTuple a its.toArray from p) (by simp;lia) λ h' eb=>⟨rfl,I.turned (t':=s.toks) (λ b o hb e=>eb b o hb e) f0 f1 f3 f4 f5⟩
 self:=λ _ _ _ _ _ st h=>wpAny_pyIter_tupleiter st h
theorem zel {P:Program} (it:Addr) (lo:Int) (n:Nat):Turn P w K tg (Itr lo n) [it] it (λ i h=>IsRangeIter h it (lo+(i:Nat) * 1) ((n:Int) - (i:Nat)) 1) where
 mem:=by simp
 obj:=λ i h st b hb=>by
  have e:b=it:=by simpa using hb
  subst e;exact ⟨_,st,λ v z=>by
   have z':Data.fields _=Data.cell v:=z;cases z'⟩
 keep:=λ i h h' st k=>k it (by simp) _ st
 item:=by
  intro X hP hw hK hc i pins s Y H E I hf st hg;subst hP hw hK;obtain ⟨f0,f1,f2,f3,f4,f5⟩:=hf it (by simp);have W:=Walks.range (prog:=X.prog) (w:=X.w) (I.ok.hd hc) it lo 1 n;refine W.item i s _ _ hg st λ v h' tk hv st' kk=>?_;obtain ⟨t,rfl⟩:=hv;have I1:Inv X pins Y H { s with heap:=h',toks:=tk }:=I.turned (λ b o hb e=>kk b o (by simpa using hb) e) f0 f1 f3 f4 f5;refine ⟨_,rfl,zt51 (s:={ s with heap:=h',toks:=tk }) (n := "range_iterator") st' rfl rfl (by decide) ⟨.int (lo+i),H,I1,⟨t,?_⟩,⟨rfl,rfl⟩,st',λ b hb=>(hf b hb).1⟩⟩;rw [Int.mul_one]
 done:=by
  intro X hP hw hK hc i pins s Y H E I hf st hg;subst hP hw hK;obtain ⟨f0,f1,f2,f3,f4,f5⟩:=hf it (by simp);exact wpAny_pyNext_range_end (I.ok.hd hc) st (by have:n<=i:=hg;lia) λ h' eb=>⟨rfl,I.turned (t':=s.toks) (λ b o hb e=>eb b o hb e) f0 f1 f3 f4 f5⟩
 self:=λ _ _ _ _ _ st h=>wpAny_pyIter_rangeiter st h
section
variable {X:Cx} {tg:Expr}
theorem zun {Y:St} {H:Hp} {R:It->Hp->Prop} {lo hi:Int} {t u v:Tok} {tk:Nat} (I:Inv X pins Y H s) (h1:-(2 ^ 62)<=lo) (h2:lo < 2 ^ 62) (h3:-(2 ^ 62)<=hi) (h4:hi < 2 ^ 62)
  (q:R (Itr lo (hi - lo).toNat) H):wpAny (model X.prog X.w) X.A (pyIter (.ref s.heap.objs.size)) (PIE X pins Y tg R) E { s with heap:=s.heap.push { cls:=.type "range",data:=.fields #[.int lo t,.int hi u,.int 1 v] },toks:=tk }:=by
 refine wpAny_pyIter_range (IsRange.new ..) (small_one h1 h2 h3 h4) ?_;have I1:Inv X pins Y H { s with heap:=s.heap.push { cls:=.type "range",data:=.fields #[.int lo t,.int hi u,.int 1 v] },toks:=tk }:=I.kept λ b o e=>vM _ e;refine ⟨(s.heap.push { cls:=.type "range",data:=.fields #[.int lo t,.int hi u,.int 1 v] }).objs.size,[(s.heap.push { cls:=.type "range",data:=.fields #[.int lo t,.int hi u,.int 1 v] }).objs.size],_,_,H,rfl,
  I1.kept (t':=tk) λ b o e=>vM _ e,zel _ lo (hi - lo).toNat,?_,λ b hb=>?_,q⟩
 ·have e1:lo+((0:Nat):Int) * 1=lo:=by simp
  have e2:(((hi - lo).toNat:Nat):Int) - ((0:Nat):Int)=Builtin.Range.rangeSize lo hi 1:=by rw [rangeSize_one];split <;> lia
  show IsRangeIter _ _ (lo+((0:Nat):Int) * 1) ((((hi - lo).toNat:Nat):Int) - ((0:Nat):Int)) 1;rw [e1,e2];exact v4 _ rfl
 ·have e:b=(s.heap.push { cls:=.type "range",data:=.fields #[.int lo t,.int hi u,.int 1 v] }).objs.size:=by simpa using hb
  subst e;exact I1.fpOk (u6 _) (I1.hok.fresh (u6 _))
def zja1 (ta:TA):TI:=λ Y H R=>ta Y H λ vs H1=>∃ j:Int,vs=[.int j]/\-(2 ^ 62)<=j/\j < 2 ^ 62/\R (Itr 0 j.toNat) H1
noncomputable def zvb1 (ta:TA):TI:=λ Y H R=>ta Y H λ vs H1=>∃ i j:Int,vs=[.int i,.int j]/\(-(2 ^ 62)<=i/\i < 2 ^ 62/\-(2 ^ 62)<=j/\j < 2 ^ 62)/\R (Itr i (j - i).toNat) H1
theorem zi2 {a:Expr} {ta:TA} {p pos:Pos} (hg:Gl X "range") (hm:X.mg "range"=none) (ha:PA X [a] ta) (hs:starEach [a] X.env=[(false,eval a X.env)]:=by rfl):PI X tg (.Call (.Name "range" p) [a] [] pos) (zja1 ta):=by
 intro pins s Y H R I h;refine Call_ (zzj I hg hm boot_range (PyProof.Rows.callWith_type1 (thn (ha pos pins s Y H _ I h) λ us s1 hz=>?_) hs rfl));obtain ⟨vs,H1,I1,r1,q1⟩:=hz;obtain ⟨j,e,q1,q2,q⟩:=q1;subst e;cases r1 with
|cons r rr =>
  cases rr;obtain ⟨t,rfl⟩:=r;exact call_range_1 (zun I1 (by lia) (by lia) q1 q2 (by simpa using q))
theorem zji {a b:Expr} {ta:TA} {p pos:Pos} (hg:Gl X "range") (hm:X.mg "range"=none) (ha:PA X [a,b] ta) (hs:starEach [a,b] X.env=[(false,eval a X.env),(false,eval b X.env)]:=by rfl) (hs2:starEach [b] X.env=[(false,eval b X.env)]:=by rfl) :
  PI X tg (.Call (.Name "range" p) [a,b] [] pos) (zvb1 ta):=by
 intro pins s Y H R I h;refine Call_ (zzj I hg hm boot_range (PyProof.Rows.callWith_type1 (thn (ha pos pins s Y H _ I h) λ us s1 hz=>?_) (by rw [hs,hs2]) (by rw [hs2];rfl)));obtain ⟨vs,H1,I1,r1,q1⟩:=hz;obtain ⟨i,j,e,⟨q1,q2,q3,q4⟩,q⟩:=q1;subst e;cases r1 with
|cons r rr =>
  cases rr with
 |cons r' rr =>
   cases rr;obtain ⟨t,rfl⟩:=r;obtain ⟨t',rfl⟩:=r';exact call_range_2 (zun I1 q1 q2 q3 q4 q)
noncomputable def tFor (wi:TI) (g:TG) (tb:TS):TS:=λ D Y H=>wi Y H λ J H1=>∃ W:Nat->Nat->St->Hp->Prop,(∃ m,W 0 m Y H1)/\∀ i m Y H,W i m Y H ->
 (J.stop i H/\D.nx Y H) \/ (J.go i H/\∃ N:St->Hp->Prop,(∀ Y' H',N Y' H'->∃ m',m' < m/\W (i+1) m' Y' H')/\∀ x H',J.yld i H x H'->g x Y H' λ Y2 H2=>tb { D with nx:=N,ct:=N,bk:=D.nx } Y2 H2)
def zxn (fp:List Addr) (h:Heap):List (Addr×Obj):=fp.filterMap λ b=>(h.get? b).map λ o=>(b,o)
theorem zo8 {h:Heap} (hb:b∈fp) (e:h.get? b=some o):(b,o)∈zxn fp h:=zA.mpr ⟨b,hb,by rw [e];rfl⟩
theorem zjq {h:Heap} {p:Addr×Obj} (hp:p∈zxn fp h):p.1∈fp/\h.get? p.1=some p.2:=by
 obtain ⟨b,hb,e⟩:=zA.mp hp;cases q:h.get? b with
|none=>rw [q] at e;cases e
|some o =>
  rw [q] at e;have e':(b,o)=p:=wI.inj e;subst e';exact ⟨hb,q⟩
theorem Inv.pinned {Y:St} {H:Hp} (I:Inv X pins Y H s) (hf:∀ b∈fp,FpOk X pins H b) (ho:∀ b∈fp,∃ o,s.heap.get? b=some o/\∀ v,o.data≠.cell v):Inv X (pins++zxn fp s.heap) Y H s :=
 I.pins_of λ p hp=>(vJ.mp hp).elim (λ z=>I.pin p (wX _ z)) λ z=>by
  obtain ⟨hb,e⟩:=zjq z;obtain ⟨f0,f1,f2,_⟩:=hf p.1 hb;obtain ⟨o,e',d⟩:=ho p.1 hb;rw [e] at e';cases e';exact ⟨e,f0,f1,f2,d⟩
theorem Inv.unpinned {pl:List (Addr×Obj)} {Y:St} {H:Hp} (I:Inv X (pins++pl) Y H s):Inv X pins Y H s:=I.pins_of λ p hp=>I.pin p (wX _ (xG _ hp))
theorem zs4 {iter:Expr} {wi:TI} {g:TG} {tb:TS} {pos:Pos} (hp:PassesOwn (model X.prog X.w) X.A X.env X.xe) (hc:X.calm=true) (hi:PI X tg iter wi) (hg:PG X tg g) (hb:PSs X body tb)
  (hs:∀ x,foldedSetIterable iter X.env x=pure x:=by intro _;rfl):PS X (.For tg iter body [] pos) (tFor wi g tb):=by
 intro pins s Y H D I h;refine wpAny_For (thn (hi pins s Y H _ I h) λ v s1 h1=>thn h1 λ itv s2 h2=>?_) hs;obtain ⟨it,fp,tn,J,H2,e,I2,T,st2,f2,W,⟨m0,w0⟩,turn⟩:=h2;subst e
 -- what stays true of the iterator's objects through the loop
 have stat:∀ {H':Hp},(∀ b∈fp,H' b=none)->∀ b∈fp,FpOk X pins H' b:=λ hn b hb=>⟨hn b hb,(f2 b hb).2⟩
 refine codeAny_forLoop_any (λ n s'=>∃ i Y' H',Inv X pins Y' H' s'/\tn i s'.heap/\(∀ b∈fp,H' b=none)/\W i n Y' H') ?_ m0 ⟨0,Y,H2,I2,st2,λ b hb=>(f2 b hb).1,w0⟩;rintro n s3 ⟨i,Y3,H3,I3,st3,fr3,w3⟩;rcases turn i n Y3 H3 w3 with ⟨stop,qn⟩|⟨go,N,hN,step⟩
 ·refine wpAny_passesOwn hp (thn (T.done X rfl rfl rfl hc i pins s3 Y3 H3 X.xe I3 (stat fr3) st3 stop) λ r s4 hz=>?_);obtain ⟨hr,I4⟩:=hz;subst hr;exact wpAny_execs_nil ⟨Y3,H3,I4,qn⟩
 ·refine wpAny_passesOwn hp (thn (T.item X rfl rfl rfl hc i pins s3 Y3 H3 X.xe I3 (stat fr3) st3 go) λ r s4 hz=>?_);obtain ⟨u,hr,h4⟩:=hz;subst hr;refine wpAny_passesOwn hp (thn h4 λ _ s5 hz=>?_);obtain ⟨x,H5,I5,r5,y5,st5,fr5⟩:=hz;have I5':=I5.pinned (stat fr5) (T.obj _ _ st5);refine wpAny_passesOwn hp (thn (hg _ s5 Y3 H5 x u _ I5' r5 (step x H5 y5)) λ _ s6 hz=>?_);obtain ⟨Y6,H6,I6,q6⟩:=hz;refine wpAny_passesOwn hp (thn (hb _ s6 Y6 H6 _ I6 q6) λ f s7 q7=>?_);have again:∀ {Y7:St} {H7:Hp},Inv X (pins++zxn fp s5.heap) Y7 H7 s7->N Y7 H7->∃ m,m < n/\∃ i Y' H',Inv X pins Y' H' s7/\tn i s7.heap/\(∀ b∈fp,H' b=none)/\W i m Y' H':=λ {Y7 H7} I7 n7=>by
   obtain ⟨m',hm,w7⟩:=hN Y7 H7 n7;refine ⟨m',hm,i+1,Y7,H7,I7.unpinned,T.keep _ _ _ st5 λ b hb o e=>(I7.pin (b,o) (wX _ (wX _ (zo8 hb e)))).1,λ b hb=>?_,w7⟩;obtain ⟨o,e,d⟩:=T.obj _ _ st5 b hb;exact (I7.pin (b,o) (wX _ (wX _ (zo8 hb e)))).2.1
  cases f with
 |next=>obtain ⟨Y7,H7,I7,n7⟩:=q7;exact again I7 n7
 |cont=>obtain ⟨Y7,H7,I7,n7⟩:=q7;exact again I7 n7
 |brk=>obtain ⟨Y7,H7,I7,q7⟩:=q7;exact ⟨Y7,H7,I7.unpinned,q7⟩
 |ret v=>obtain ⟨x7,Y7,H7,I7,r7,q7⟩:=q7;exact ⟨x7,Y7,H7,I7.unpinned,r7,q7⟩
end
abbrev R2:=V->V->Hp->VK->Prop
noncomputable def OpR (X:Cx) (f:Value->Value->Sem Value) (r:R2):Prop :=
 ∀ (pins:List (Addr×Obj)) (s:Shared) (Y:St) (H:Hp) (x y:V) (v u:Value) (Q:VK),Inv X pins Y H s->RelV x v->RelV y u->r x y H Q ->
  wpAny (model X.prog X.w) X.A (f v u) (EP X pins Y Q) X.xe s
noncomputable def UnR (X:Cx) (f:Value->Sem Value) (r:V->Hp->VK->Prop):Prop :=
 ∀ (pins:List (Addr×Obj)) (s:Shared) (Y:St) (H:Hp) (x:V) (v:Value) (Q:VK),Inv X pins Y H s->RelV x v->r x H Q ->
  wpAny (model X.prog X.w) X.A (f v) (EP X pins Y Q) X.xe s
noncomputable def CallR (X:Cx) (f:Value) (r:List V->Hp->VK->Prop):Prop :=
 ∀ (pins:List (Addr×Obj)) (s:Shared) (Y:St) (H:Hp) (xs:List V) (us:List Value) (Q:VK),Inv X pins Y H s->Vals xs us->r xs H Q ->
  wpAny (model X.prog X.w) X.A (call f us) (EP X pins Y Q) X.xe s
noncomputable def TruR (X:Cx) (r:V->Hp->(Bool->Hp->Prop)->Prop):Prop :=
 ∀ (pins:List (Addr×Obj)) (s:Shared) (Y:St) (H:Hp) (x:V) (v:Value) (Q:Bool->Hp->Prop),Inv X pins Y H s->RelV x v->r x H Q ->
  wpAny (model X.prog X.w) X.A (truthy v) (TP X pins Y Q) X.xe s
def tOp (r:R2) (ta tb:TE):TE:=λ Y H Q=>ta Y H λ x H1=>tb Y H1 λ y H2=>r x y H2 Q
def tUn (r:V->Hp->VK->Prop) (ta:TE):TE:=λ Y H Q=>ta Y H λ x H1=>r x H1 Q
def rI (C:Int->Int->Prop) (g:Int->Int->V):R2:=λ x y H Q=>∃ i j,x=.int i/\y=.int j/\C i j/\Q (g i j) H
def rI0 (g:Int->Int->V):R2:=λ x y H Q=>∃ i j,x=.int i/\y=.int j/\Q (g i j) H
def rU (g:Int->V):V->Hp->VK->Prop:=λ x H Q=>∃ i,x=.int i/\Q (g i) H
section
variable {X:Cx} {a b c:Expr} {ta tb tc:TE} {pos:Pos}
theorem binT (ha:PE X a ta) (hb:PE X b tb) {Y:St} {H:Hp} {R:V->V->Hp->Prop} (I:Inv X pins Y H s)
  (h:ta Y H λ x H1=>tb Y H1 λ y H2=>R x y H2) {Q:Value->Shared->Prop} 
  (hf:∀ v u s2 x y H2,Inv X pins Y H2 s2->RelV x v->RelV y u->R x y H2->wpAny (model X.prog X.w) X.A (f v u) Q X.xe s2) :
  wpAny (model X.prog X.w) X.A (eval a X.env) (λ v s₁=>wpAny (model X.prog X.w) X.A (eval b X.env) (λ u s₂=>wpAny (model X.prog X.w) X.A (f v u) Q X.xe s₂) X.xe s₁) X.xe s:=by
 refine thn (ha pins s Y H _ I h) λ v s1 hz=>?_;obtain ⟨x,H1,I1,r1,q1⟩:=hz;refine thn (hb pins s1 Y H1 _ I1 q1) λ u s2 hz=>?_;obtain ⟨y,H2,I2,r2,q2⟩:=hz;exact hf v u s2 x y H2 I2 r1 r2 q2
theorem za1 {r:R2} (ho:OpR X (binaryOp op) r) (ha:PE X a ta) (hb:PE X b tb):PE X (.BinOp a op b pos) (tOp r ta tb):=by
 intro pins s Y H Q I h;exact wpAny_BinOp (binT ha hb I h λ v u s2 x y H2 I2 rx ry q=>ho pins s2 Y H2 x y v u Q I2 rx ry q)
theorem zjd1 {op:UnaryOp} {r:V->Hp->VK->Prop} (ho:UnR X (unaryOp op) r) (ha:PE X a ta):PE X (.UnaryOp op a pos) (tUn r ta):=by
 intro pins s Y H Q I h;exact UnaryOp_ (thn (ha pins s Y H _ I h) λ v s1 ⟨x,H1,I1,r1,q1⟩=>ho pins s1 Y H1 x v Q I1 r1 q1)
theorem opI {f:Value->Value->Sem Value} {C:Int->Int->Prop} {g:Int->Int->Int}
  (rule:∀ (i j:Int) (t u:Tok) (s:Shared) (Q:Value->Shared->Prop) (E:Value->Shared->Prop),C i j->Q (.int (g i j) s.toks) { s with toks:=s.toks+1 }->wpAny (model X.prog X.w) X.A (f (.int i t) (.int j u)) Q E s) :
  OpR X f (rI C λ i j=>.int (g i j)):=by
 intro pins s Y H x y v u Q I rx ry h;obtain ⟨i,j,rfl,rfl,hc,q⟩:=h;obtain ⟨t,rfl⟩:=rx;obtain ⟨t',rfl⟩:=ry;exact rule i j t t' s _ _ hc ⟨.int (g i j),H,I.tok _,⟨_,rfl⟩,q⟩
theorem opI0 {f:Value->Value->Sem Value} {g:Int->Int->Int}
  (rule:∀ (i j:Int) (t u:Tok) (s:Shared) (Q:Value->Shared->Prop) (E:Value->Shared->Prop),Q (.int (g i j) s.toks) { s with toks:=s.toks+1 }->wpAny (model X.prog X.w) X.A (f (.int i t) (.int j u)) Q E s) :
  OpR X f (rI0 λ i j=>.int (g i j)):=by
 intro pins s Y H x y v u Q I rx ry h;obtain ⟨i,j,rfl,rfl,q⟩:=h;obtain ⟨t,rfl⟩:=rx;obtain ⟨t',rfl⟩:=ry;exact rule i j t t' s _ _ ⟨.int (g i j),H,I.tok _,⟨_,rfl⟩,q⟩
theorem opB0 {g:Int->Int->Bool}
  (rule:∀ (i j:Int) (t u:Tok) (s:Shared) (Q:Value->Shared->Prop) (E:Value->Shared->Prop),Q (.bool (g i j)) s->wpAny (model X.prog X.w) X.A (f (.int i t) (.int j u)) Q E s) :
  OpR X f (rI0 λ i j=>.bl (g i j)):=by
 intro pins s Y H x y v u Q I rx ry h;obtain ⟨i,j,rfl,rfl,q⟩:=h;obtain ⟨t,rfl⟩:=rx;obtain ⟨t',rfl⟩:=ry;exact rule i j t t' s _ _ ⟨.bl (g i j),H,I,rfl,q⟩
def CPow (i j:Int):Prop:=0<=j/\j<=1000000/\i.natAbs < 2 ^ 64
def CMul (i j:Int):Prop:=(-(2 ^ 64) < i/\i < 2 ^ 64) \/ (-(2 ^ 64) < j/\j < 2 ^ 64)
theorem CMul.ok {i j:Int} (h:CMul i j):IntMulOk i j:=by
 rcases h with ⟨h1,h2⟩|⟨h1,h2⟩
 ·exact .of_left (intBits_le_64 h1 h2)
 ·exact .of_right (intBits_le_64 h1 h2)
theorem zy61:OpR X (binaryOp .Add) (rI0 λ i j=>.int (i+j)):=opI0 λ _ _ _ _ _ _ _ q=>add_int q
theorem zod:OpR X (binaryOp .Sub) (rI0 λ i j=>.int (i - j)):=opI0 λ _ _ _ _ _ _ _ q=>sub_int q
theorem zh81:OpR X (binaryOp .Mult) (rI CMul λ i j=>.int (i * j)):=opI λ _ _ _ _ _ _ _ hc q=>mul_int q hc.ok
theorem zn1:OpR X (binaryOp .Mod) (rI (λ _ j=>0 < j) λ i j=>.int (i % j)):=opI λ i j _ _ _ _ _ hc q=>by
 have h1:(0:Int) < j:=hc;exact mod_int' (by lia) (by rw [uaF i (by lia)];exact q)
theorem zdx:OpR X (binaryOp .Pow) (rI CPow λ i j=>.int (i ^ j.toNat)):=opI λ _ _ _ _ _ _ _ hc q=>pow_int_small hc.1 hc.2.1 hc.2.2 q
theorem zp21:OpR X (binaryOp .BitXor) (rI0 λ i j=>.int (Builtin.bitXor i j)):=opI0 λ _ _ _ _ _ _ _ q=>xor_int q
theorem unI {f:Value->Sem Value} {g:Int->Int}
  (rule:∀ (i:Int) (t:Tok) (s:Shared) (Q:Value->Shared->Prop) (E:Value->Shared->Prop),Q (.int (g i) s.toks) { s with toks:=s.toks+1 }->wpAny (model X.prog X.w) X.A (f (.int i t)) Q E s) :
  UnR X f (rU λ i=>.int (g i)):=by
 intro pins s Y H x v Q I rx h;obtain ⟨i,rfl,q⟩:=h;obtain ⟨t,rfl⟩:=rx;exact rule i t s _ _ ⟨.int (g i),H,I.tok _,⟨_,rfl⟩,q⟩
theorem zv71:UnR X (unaryOp .USub) (rU λ i=>.int (-i)):=unI λ _ _ _ _ _ q=>neg_int q
end
noncomputable def scal:V->V->Bool
|.non,.non=>true|.non,.int _=>true|.int _,.non=>true|.non,.bl _=>true|.bl _,.non=>true|.non,.str _=>true|.str _,.non=>true
|.int _,.int _=>true|.bl _,.bl _=>true|.str _,.str _=>true|.byt _,.byt _=>true
|.int _,.str _=>true|.str _,.int _=>true|.bl _,.str _=>true|.str _,.bl _=>true
|_,_=>false
def rEq:R2:=λ x y H Q=>scal x y=true/\Q (.bl (decide (x=y))) H
def rNe:R2:=λ x y H Q=>scal x y=true/\Q (.bl (!decide (x=y))) H
theorem zre {i j:Int}:decide (V.int i=V.int j)=(i == j):=by
 rw [zB];simp
theorem zxl {i j:Bool}:decide (V.bl i=V.bl j)=(i == j):=by
 rw [zB];simp
theorem zme {i j:Str}:decide (V.str i=V.str j)=(i == j):=by
 rw [zB];simp
theorem zws {i j:Array UInt8}:decide (V.byt i=V.byt j)=(i.toList == j.toList):=by
 rw [zB];cases i;cases j;simp
section
variable {X:Cx} {a b c:Expr} {ta tb tc:TE} {pos:Pos}
theorem zu1 {Y:St} {H:Hp} {Q:VK} {k k':Bool} (I:Inv X pins Y H s) (q:Q (.bl k) H) (e:k=k'):EP X pins Y Q (.bool k') s:=by
 subst e;exact ⟨.bl k,H,I,rfl,q⟩
theorem zbe1:OpR X (compareOp .Eq) rEq:=by
 intro pins s Y H x y v u Q I rx ry h;obtain ⟨hs,q⟩:=h;cases x with
|non =>
  cases rx;cases y with
 |non=>cases ry;exact PySem.EqNone.eq_none_none (zu1 I q (by simp))
 |bl j=>cases ry;exact PySem.EqNone.eq_none_bool (zu1 I q (by simp))
 |int j=>obtain ⟨t',rfl⟩:=ry;exact PySem.EqNone.eq_none_int (zu1 I q (by simp))
 |str j=>obtain ⟨t',rfl⟩:=ry;exact PySem.EqNone.eq_none_str (zu1 I q (by simp))
 |_=>exact absurd (show false=true from hs) vU
|bl i =>
  cases rx;cases y with
 |non=>cases ry;exact PySem.EqNone.eq_bool_none (zu1 I q (by simp))
 |bl j=>cases ry;exact eq_bool (zu1 I q zxl)
 |str j=>obtain ⟨t',rfl⟩:=ry;exact PySem.EqMixed.eq_bool_str (zu1 I q (by simp))
 |_=>exact absurd (show false=true from hs) vU
|int i =>
  obtain ⟨t,rfl⟩:=rx;cases y with
 |non=>cases ry;exact PySem.EqNone.eq_int_none (zu1 I q (by simp))
 |int j=>obtain ⟨t',rfl⟩:=ry;exact eq_int (zu1 I q zre)
 |str j=>obtain ⟨t',rfl⟩:=ry;exact PySem.EqMixed.eq_int_str (zu1 I q (by simp))
 |_=>exact absurd (show false=true from hs) vU
|str i =>
  obtain ⟨t,rfl⟩:=rx;cases y with
 |non=>cases ry;exact PySem.EqNone.eq_str_none (zu1 I q (by simp))
 |bl j=>cases ry;exact PySem.EqMixed.eq_str_bool (zu1 I q (by simp))
 |int j=>obtain ⟨t',rfl⟩:=ry;exact PySem.EqMixed.eq_str_int (zu1 I q (by simp))
 |str j=>obtain ⟨t',rfl⟩:=ry;exact eq_str (zu1 I q zme)
 |_=>exact absurd (show false=true from hs) vU
|byt i =>
  obtain ⟨t,rfl⟩:=rx;cases y with
 |byt j=>obtain ⟨t',rfl⟩:=ry;exact PySem.W.eq_bytes (zu1 I q zws)
 |_=>exact absurd (show false=true from hs) vU
|_=>cases y <;> exact absurd (show false=true from hs) vU
theorem zbd1:OpR X (compareOp .NotEq) rNe:=by
 intro pins s Y H x y v u Q I rx ry h;obtain ⟨hs,q⟩:=h;cases x with
|non =>
  cases rx;cases y with
 |non=>cases ry;exact PySem.EqNone.ne_none_none (zu1 I q (by simp))
 |bl j=>cases ry;exact PySem.EqNone.ne_none_bool (zu1 I q (by simp))
 |int j=>obtain ⟨t',rfl⟩:=ry;exact PySem.EqNone.ne_none_int (zu1 I q (by simp))
 |str j=>obtain ⟨t',rfl⟩:=ry;exact PySem.EqNone.ne_none_str (zu1 I q (by simp))
 |_=>exact absurd (show false=true from hs) vU
|bl i =>
  cases rx;cases y with
 |non=>cases ry;exact PySem.EqNone.ne_bool_none (zu1 I q (by simp))
 |bl j=>cases ry;exact ne_bool (zu1 I q (congrArg not zxl))
 |str j=>obtain ⟨t',rfl⟩:=ry;exact PySem.EqMixed.ne_bool_str (zu1 I q (by simp))
 |_=>exact absurd (show false=true from hs) vU
|int i =>
  obtain ⟨t,rfl⟩:=rx;cases y with
 |non=>cases ry;exact PySem.EqNone.ne_int_none (zu1 I q (by simp))
 |int j=>obtain ⟨t',rfl⟩:=ry;exact ne_int (zu1 I q (congrArg not zre))
 |str j=>obtain ⟨t',rfl⟩:=ry;exact PySem.EqMixed.ne_int_str (zu1 I q (by simp))
 |_=>exact absurd (show false=true from hs) vU
|str i =>
  obtain ⟨t,rfl⟩:=rx;cases y with
 |non=>cases ry;exact PySem.EqNone.ne_str_none (zu1 I q (by simp))
 |bl j=>cases ry;exact PySem.EqMixed.ne_str_bool (zu1 I q (by simp))
 |int j=>obtain ⟨t',rfl⟩:=ry;exact PySem.EqMixed.ne_str_int (zu1 I q (by simp))
 |str j=>obtain ⟨t',rfl⟩:=ry;exact ne_str (zu1 I q (congrArg not zme))
 |_=>exact absurd (show false=true from hs) vU
|byt i =>
  obtain ⟨t,rfl⟩:=rx;cases y with
 |byt j=>obtain ⟨t',rfl⟩:=ry;exact PySem.W.ne_bytes (zu1 I q (congrArg not zws))
 |_=>exact absurd (show false=true from hs) vU
|_=>cases y <;> exact absurd (show false=true from hs) vU
theorem ztt:OpR X (compareOp .Lt) (rI0 λ i j=>.bl (decide (i < j))):=opB0 λ _ _ _ _ _ _ _ q=>lt_int q
theorem zyb1:OpR X (compareOp .LtE) (rI0 λ i j=>.bl (decide (i<=j))):=opB0 λ _ _ _ _ _ _ _ q=>le_int q
theorem zcx:OpR X (compareOp .Gt) (rI0 λ i j=>.bl (decide (j < i))):=opB0 λ _ _ _ _ _ _ _ q=>gt_int q
theorem zuc1:OpR X (compareOp .GtE) (rI0 λ i j=>.bl (decide (j<=i))):=opB0 λ _ _ _ _ _ _ _ q=>ge_int q
theorem zap:OpR X (compareOp .In) (λ x y H Q=>∃ i j,x=.str i/\y=.str j/\Q (.bl (!(Builtin.Str.occurrences j i 0 j.length 1).isEmpty)) H):=by
 intro pins s Y H x y v u Q I rx ry h;obtain ⟨i,j,rfl,rfl,q⟩:=h;obtain ⟨t,rfl⟩:=rx;obtain ⟨t',rfl⟩:=ry;exact in_str (zu1 I q rfl)
theorem zp71:OpR X (compareOp .Is) (λ x y H Q=>y=.non/\Q (.bl (decide (x=.non))) H):=by
 intro pins s Y H x y v u Q I rx ry h;obtain ⟨rfl,q⟩:=h;cases ry;refine is_none_gen (zu1 I q ?_);cases x <;> first
 |(cases rx;rfl)
 |(obtain ⟨t,rfl⟩:=rx;rfl)
theorem zd01:OpR X (compareOp .IsNot) (λ x y H Q=>y=.non/\Q (.bl (!decide (x=.non))) H):=by
 intro pins s Y H x y v u Q I rx ry h;obtain ⟨rfl,q⟩:=h;cases ry;refine isnot_none_gen (zu1 I q ?_);cases x <;> first
 |(cases rx;rfl)
 |(obtain ⟨t,rfl⟩:=rx;rfl)
theorem OpR.or {r r':R2} (h:OpR X f r) (h':OpR X f r'):OpR X f (λ x y H Q=>r x y H Q \/ r' x y H Q):=by
 intro pins s Y H x y v u Q I rx ry q;rcases q with q|q
 ·exact h pins s Y H x y v u Q I rx ry q
 ·exact h' pins s Y H x y v u Q I rx ry q
theorem zi1 (b:Expr) {op:CmpOp} (h:op≠.In:=by decide) (h2:op≠.NotIn:=by decide):behindInMarks op b=false:=by
 have e1:(op == CmpOp.In)=false:=by cases op <;> first|rfl|exact absurd rfl h
 have e2:(op == CmpOp.NotIn)=false:=by cases op <;> first|rfl|exact absurd rfl h2
 cases b <;> simp [behindInMarks,e1,e2]
theorem zs01 {op:CmpOp} {r:R2} (ho:OpR X (compareOp op) r) (ha:PE X a ta) (hb:PE X b tb) (hm:behindInMarks op b=false):PE X (.Compare a [op] [b] pos) (tOp r ta tb):=by
 intro pins s Y H Q I h;exact wpAny_Compare1 (binT ha hb I h λ v u s2 x y H2 I2 rx ry q=>ho pins s2 Y H2 x y v u Q I2 rx ry q) hm
def zld1 (t:TE):TT:=λ Y H Q=>t Y H λ x H'=>∃ k,x=.bl k/\Q k H'
theorem zt21 {op:CmpOp} {r:R2} (ho:OpR X (compareOp op) r) (ha:PE X a ta) (hb:PE X b tb) (hm:behindInMarks op b=false):PT X (.Compare a [op] [b] pos) (zld1 (tOp r ta tb)):=by
 intro pins s Y H Q I h;refine wpAny_isTrue_Compare1 (thn (ha pins s Y H _ I h) λ v s1 ⟨x,H1,I1,r1,q1⟩=>thn (hb pins s1 Y H1 _ I1 q1) λ u s2 ⟨y,H2,I2,r2,q2⟩ =>
  thn (ho pins s2 Y H2 x y v u _ I2 r1 r2 q2) λ c s3 hz=>?_) hm
 obtain ⟨z,H3,I3,r3,k,e,q3⟩:=hz;subst e;cases r3;exact wpAny_truthy_bool ⟨H3,I3,q3⟩
noncomputable def TruV (K:Fg) (x:V) (H:Hp) (k:Bool):Prop :=
 match x with
|.non=>k=false
|.bl b=>k=b
|.int i=>k=(i != 0)
|.str y=>y.length<=sizeLine/\k=((y.length:Int) != 0)
|.byt y=>y.size<=sizeLine/\k=((y.size:Int) != 0)
|.ref p=>(∃ xs,SqL K H p xs/\k=!xs.isEmpty) \/ (∃ xs,SqT K H p xs/\k=!xs.isEmpty) \/ ∃ kvs,H p=some (.dK kvs)/\k=!kvs.isEmpty
|_=>False
theorem zfm {κ:Type} {kvs:List (κ×V)} {vs:List (κ×Value)} (r:KV kvs vs):(!vs.isEmpty)=!kvs.isEmpty:=by
 cases r <;> rfl
theorem zye {xs:List V} {its:List Value} (r:Vals xs its):(!its.toArray.isEmpty)=!xs.isEmpty:=by
 cases r <;> simp
theorem zsg:(sizeLine:Nat) < 2 ^ 63:=by rw [sizeLine_eq];decide
theorem zt61:TruR X (λ x H Q=>∃ k,TruV X.K x H k/\Q k H):=by
 intro pins s Y H x v Q I rx h;obtain ⟨k,e,q⟩:=h;have hl:=zsg;have hs:sizeLine=16777216:=sizeLine_eq;cases x with
|non =>
  cases rx;have e':k=false:=e;subst e';exact truthy_none ⟨H,I,q⟩
|bl b =>
  cases rx;have e':k=b:=e;subst e';exact wpAny_truthy_bool ⟨H,I,q⟩
|int i =>
  obtain ⟨t,rfl⟩:=rx;have e':k=(i != 0):=e;subst e';exact PySem.P.truthy_int ⟨H,I,q⟩
|str y =>
  obtain ⟨t,rfl⟩:=rx;obtain ⟨hy,e'⟩:y.length<=sizeLine/\k=((y.length:Int) != 0):=e;subst e';exact PySem.P.truthy_str (by lia) ⟨H,I.tok _,q⟩
|byt y =>
  obtain ⟨t,rfl⟩:=rx;obtain ⟨hy,e'⟩:y.size<=sizeLine/\k=((y.size:Int) != 0):=e;subst e';exact PySem.W.truthy_bytes (by lia) ⟨H,I.tok _,q⟩
|ref p =>
  cases rx;have e':(∃ xs,SqL X.K H p xs/\k=!xs.isEmpty) \/ (∃ xs,SqT X.K H p xs/\k=!xs.isEmpty) \/ ∃ kvs,H p=some (.dK kvs)/\k=!kvs.isEmpty:=e;rcases e' with ⟨xs,hx,e'⟩|⟨xs,hx,e'⟩|⟨kvs,hx,e'⟩
  ·subst e';obtain ⟨its,r,pl,hz⟩:=I.list hx;have hlen:=r.length;exact wpAny_truthy_list pl.isList (by simp only [vT];lia) ⟨H,I.tok _,by rw [zye r];exact q⟩
  ·subst e';obtain ⟨its,r,pl,hz⟩:=I.tuple hx;have hlen:=r.length;exact truthy_tuple pl (by simp only [vT];lia) ⟨H,I.tok _,by rw [zye r];exact q⟩
  ·subst e';obtain ⟨hz,hS,vs,r,m⟩:kvs.length<=sizeLine/\(p == sysModules)=false/\∃ vs,KV kvs vs/\s.heap.DictOf (zq1 X.prog X.w) p vs:=I.hok p _ hx;have hlen:kvs.length=vs.length:=Paired.length r;exact wpAny_truthy_dict hS m (by lia) ⟨H,I.tok _,by rw [zfm r];exact q⟩
|_=>exact (show False from e).elim
theorem zcv (ha:PE X a ta) (he:∀ whole,isTrue a X.env whole=(do let v <- whole;standAt a.pos;holding [v] (truthy v))) :
  PT X a (λ Y H Q=>ta Y H λ x H'=>∃ k,TruV X.K x H' k/\Q k H'):=by
 intro pins s Y H Q I h;exact isTrue_plain (thn (ha pins s Y H _ I h) λ v s1 ⟨x,H1,I1,r1,q1⟩=>zt61 pins s1 Y H1 x v Q I1 r1 q1) (he _)
theorem zlm:OpR X (binaryOp .Add) (λ x y H Q=>∃ i j,x=.str i/\y=.str j/\i.length+j.length<=sizeLine/\Q (.str (i++j)) H):=by
 intro pins s Y H x y v u Q I rx ry h;obtain ⟨i,j,rfl,rfl,hz,q⟩:=h;obtain ⟨t,rfl⟩:=rx;obtain ⟨t',rfl⟩:=ry;exact add_str (λ t' tk=>⟨.str (i++j),H,I.tok _,⟨_,rfl⟩,q⟩) hz
theorem zup {x:V} (r:Vals [x] us):∃ u,us=[u]/\RelV x u:=by
 cases r with
|cons r1 r2=>cases r2;exact ⟨_,rfl,r1⟩
theorem zs41 {x y:V} (r:Vals [x,y] us):∃ u w',us=[u,w']/\RelV x u/\RelV y w':=by
 cases r with
|cons r1 r2 =>
  cases r2 with
 |cons r3 r4=>cases r4;exact ⟨_,_,rfl,r1,r3⟩
theorem zzp (hc:X.calm=true):CallR X (.builtin "max") (λ xs H Q=>∃ i j,xs=[.int i,.int j]/\Q (.int (if j > i then j else i)) H):=by
 intro pins s Y H xs us Q I r h;obtain ⟨i,j,rfl,q⟩:=h;obtain ⟨u,w',rfl,⟨t,rfl⟩,⟨t',rfl⟩⟩:=zs41 r;refine max_two_ints (I.ok.hd hc) λ h' tk k=>⟨_,H,I.kept k,?_,q⟩
 by_cases hj:j > i
 ·rw [if_pos hj,if_pos hj];exact ⟨_,rfl⟩
 ·rw [if_neg hj,if_neg hj];exact ⟨_,rfl⟩
theorem zid (hc:X.calm=true):CallR X (.builtin "min") (λ xs H Q=>∃ i j,xs=[.int i,.int j]/\Q (.int (if j < i then j else i)) H):=by
 intro pins s Y H xs us Q I r h;obtain ⟨i,j,rfl,q⟩:=h;obtain ⟨u,w',rfl,⟨t,rfl⟩,⟨t',rfl⟩⟩:=zs41 r;refine min_two_ints (I.ok.hd hc) λ h' tk k=>⟨_,H,I.kept k,?_,q⟩
 by_cases hj:j < i
 ·rw [if_pos hj,if_pos hj];exact ⟨_,rfl⟩
 ·rw [if_neg hj,if_neg hj];exact ⟨_,rfl⟩
noncomputable def LenV (K:Fg) (x:V) (H:Hp) (n:Nat):Prop :=
 match x with
|.str y=>y.length<=sizeLine/\n=y.length
|.byt y=>y.size<=sizeLine/\n=y.size
|.ref p=>(∃ xs,SqL K H p xs/\n=xs.length) \/ ∃ xs,SqT K H p xs/\n=xs.length
|_=>False
theorem zpw:CallR X (.builtin "len") (λ xs H Q=>∃ x n,xs=[x]/\LenV X.K x H n/\Q (.int n) H):=by
 intro pins s Y H xs us Q I r h;obtain ⟨x,n,rfl,e,q⟩:=h;obtain ⟨u,rfl,rx⟩:=zup r;have hl:=zsg;have hs:sizeLine=16777216:=sizeLine_eq;cases x with
|str y =>
  obtain ⟨t,rfl⟩:=rx;obtain ⟨hy,e'⟩:y.length<=sizeLine/\n=y.length:=e;subst e';exact len_str (by lia) ⟨.int _,H,I.tok _,⟨_,rfl⟩,q⟩
|byt y =>
  obtain ⟨t,rfl⟩:=rx;obtain ⟨hy,e'⟩:y.size<=sizeLine/\n=y.size:=e;subst e';exact PySem.W.len_bytes (by lia) ⟨.int _,H,I.tok _,⟨_,rfl⟩,q⟩
|ref p =>
  cases rx;have e':(∃ xs,SqL X.K H p xs/\n=xs.length) \/ ∃ xs,SqT X.K H p xs/\n=xs.length:=e;rcases e' with ⟨xs,hx,e'⟩|⟨xs,hx,e'⟩
  ·subst e';obtain ⟨its,r',pl,hz⟩:=I.list hx;have hlen:=r'.length;exact Calls.call_len_list pl.isList (by simp only [vT];lia) ⟨.int xs.length,H,I.tok _,⟨_,by simp only [vT];rw [hlen]⟩,q⟩
  ·subst e';obtain ⟨its,r',pl,hz⟩:=I.tuple hx;have hlen:=r'.length;exact len_tuple pl (by simp only [vT];lia) ⟨.int xs.length,H,I.tok _,⟨_,by simp only [vT];rw [hlen]⟩,q⟩
|_=>exact (show False from e).elim
end
structure ObjM (h:Heap) (x dx C:Addr) (mA:Str->Option Value):Prop where
 obj:h.get? x=some (PySem.W.instObj C dx)
 ns:h.Ns1 dx mA
 ne:dx≠x
theorem zmq {h:Heap} (n:h.Ns1 dx mA):∃ od,h.get? dx=some od/\∀ name,PySem.W.lookIn name od=some (mA name):=by
 obtain ⟨o,es,ep,ho,hd,hk,_,hm⟩:=n;refine ⟨o,ho,λ name=>?_⟩;have e:=hm name;unfold nsFind findBy at e;rw [<- Array.find?_toList] at e;unfold PySem.W.lookIn;rw [hd];dsimp only;split
 ·rename_i y q
  rw [q] at e;exact congrArg some e
 ·rename_i q
  rw [q] at e;have a:es.toList.any (·.refKey)=false:=by
   rw [zY];intro y hy;obtain ⟨z,t,hkey⟩:=hk y (Array.mem_toList_iff.mp hy);simp [DictEntry.refKey,hkey]
  have a':¬ es.toList.any (·.refKey)=true:=by rw [a];exact vU
  rw [if_neg a'];exact congrArg some e
theorem ObjM.look {h:Heap} {x:Addr} (I:ObjM h x dx C mA):∃ od,PySem.W.InstAt h x (PySem.W.instObj C dx) C (some od)/\∀ name,PySem.W.lookIn name od=some (mA name) :=
 let ⟨od,ho,hl⟩:=zmq I.ns
 ⟨od,⟨I.obj,rfl,rfl,ho⟩,hl⟩
section
variable {prog:Program} {w:World} {A:Around} {E:Value->Shared->Prop} {s:Shared} {K:Fg} {x dx C f:Addr} {mA:Str->Option Value} {name:Str} {v:Value}
theorem zoz {expr:Bool} {Q:Value->Shared->Prop} (X:K.In s.heap) (I:ObjM s.heap x dx C mA) (hg:PySem.W.plainGet K C name=true) (hh:PySem.W.hasDictIn K C=true)
  (ha:PySem.W.findIn K (.ref C) name=some none) (hv:mA name=some v) (hv':PySem.W.handedIn v=true) (h:Q v { s with toks:=s.toks+1 }) :
  wpAny (model prog w) A (getAttr (.ref x) name expr) Q E s:=by
 obtain ⟨od,J,hl⟩:=I.look;exact PySem.W.get_value X J (PySem.W.plainGet_of hg).1 (PySem.W.findObj_own hh ha rfl (by rw [hl,hv])) hv' h
theorem zwt {pl:Sem Bool} {Q:Value×List Value->Shared->Prop} (X:K.In s.heap) (I:ObjM s.heap x dx C mA) (hg:PySem.W.plainGet K C name=true)
  (hf:PySem.W.findIn K (.ref C) name=some (some (.ref f))) (ht:PySem.W.isFn K (.ref f)=true) (hv:mA name=none) (h:Q (.ref f,[.ref x]) s) :
  wpAny (model prog w) A (getMethod (.ref x) name pl) Q E s:=by
 obtain ⟨od,J,hl⟩:=I.look;exact PySem.W.method_fn X J (PySem.W.plainGet_of hg).1 (PySem.W.plainGet_of hg).2 hf (beq_iff_eq.mp ht) (by show (PySem.W.lookIn name od).map (·.isSome)=some false;rw [hl,hv];rfl) h
theorem zo21 {ns:List Str} {Q:Unit->Shared->Prop} (X:K.In s.heap) (I:ObjM s.heap x dx C mA)
  (hs:PySem.W.findIn K (.ref C) "__setattr__"=some (some (.builtin "object.__setattr__"))) (hp:PySem.W.plainOver K C=true) (ht:PySem.W.takerIn K C name=some none) (hh:PySem.W.hasDictIn K C=true)
  (hw:PySem.Within mA ns) (hsz:ns.length<=sizeLine)
  (h:∀ h',ObjM h' x dx C (λ y=>if y=name then some v else mA y)->Heap.SameBut dx s.heap h'->Q () { s with heap:=h',toks:=s.toks+2 }) :
  wpAny (model prog w) A (setAttr (.ref x) name v) Q E s:=by
 obtain ⟨od,J,hl⟩:=I.look;refine PySem.W.set_plain X J hs (PySem.W.osa_open (s:={ s with toks:=s.toks+1 }) (r:=none) X J hp ht λ b=>?_);obtain ⟨cd,hc,hd'⟩:=PySem.W.any_some hh;have hx:s.heap.get? x=some ⟨.ref C,some dx,.plain,#[]⟩:=I.obj;refine wpAny_bind (wpAny_pure (wpAny_bind (wpAny_bind (wpAny_loadPart hx (wpAny_bind (PySem.W.Looks.here (s:={ s with toks:=s.toks+1 }) (PySem.W.looks_clsIn X hc) ?_))))));rw [hd'];refine wpAny_pure (a:=some dx) (wpAny_bind (wpAny_pure (wpAny_bind ?_)));refine wpAny_nsSet1 (s:={ s with toks:=s.toks+1 }) I.ns λ h' hn2 hs2=>?_;obtain ⟨oD,esD,epD,hoD,hdD,hcD⟩:=hn2.count (PySem.Within.cons name v hw);refine wpAny_bind (wpAny_lookBehind hoD (by rw [hdD];exact pastItsLine_dict (wU hcD (by rw [wY];lia))) ?_);exact wpAny_pure (h _ ⟨(hs2.2 _ (Ne.symm I.ne)).trans I.obj,hn2,I.ne⟩ hs2)
theorem zhx {R:Result->Shared->Prop} {vs:List Value} (X:K.In s.heap) (hm:PySem.W.makesIn K C=true)
  (hi:PySem.W.findIn K (.ref C) "__init__"=some (some (.ref f))) (hf:PySem.W.typeIn K (.ref f)=some (.type "function"))
  (h:codeAny (model prog w) (A.under (.builtin "type.__call__" ⟨.ref C :: vs,kw⟩)) (.call (.ref f) ⟨.ref (s.heap.objs.size+1) :: vs,kw⟩) (PySem.W.InitBack (s.heap.objs.size+1) R)
   { s with heap:=(s.heap.push PySem.W.emptyDict).push (PySem.W.instObj C s.heap.objs.size) }) :
  codeAny (model prog w) A (.call (.ref C) ⟨vs,kw⟩) R s:=by
 obtain ⟨hh,g,d,t,os⟩:=s;exact PySem.W.make_core (PySem.W.makes_of X hm) (PySem.W.looks_findIn X hi) (λ self=>PySem.W.bind_fn X self hf) (.inl rfl) h
end
def putF (f:Str) (v:V):List (Str×V)->List (Str×V)
|[]=>[(f,v)]
|(g,x) :: r=>if g=f then (g,v) :: r else (g,x) :: putF f v r
theorem zfc (f g:Str) (v:V):∀ fs:List (Str×V),(putF f v fs).lookup g=if g=f then some v else fs.lookup g
|[]=>by
  show xD g [(f,v)]=_;by_cases h:g=f
  ·have hb:(g == f)=true:=beq_iff_eq.mpr h;simp only [xD,hb,if_pos h]
  ·have hb:(g == f)=false:=beq_eq_false_iff_ne.mpr h;simp only [xD,hb,if_neg h]
|(k,x) :: r=>by
  have ih:=zfc f g v r;rw [show putF f v ((k,x) :: r)=(if k=f then (k,v) :: r else (k,x) :: putF f v r) from rfl];by_cases hk:k=f
  ·rw [if_pos hk];by_cases h:g=k
   ·have hb:(g == k)=true:=beq_iff_eq.mpr h;simp only [xD,hb,if_pos (h.trans hk)]
   ·have hb:(g == k)=false:=beq_eq_false_iff_ne.mpr h;simp only [xD,hb,if_neg (λ e:g=f=>h (e.trans hk.symm))]
  ·rw [if_neg hk];by_cases h:g=k
   ·have hb:(g == k)=true:=beq_iff_eq.mpr h;simp only [xD,hb,if_neg (λ e:g=f=>hk (h.symm.trans e))]
   ·have hb:(g == k)=false:=beq_eq_false_iff_ne.mpr h;simp only [xD,hb];exact ih
theorem zzd (f:Str) (v:V):∀ fs:List (Str×V),f∈(putF f v fs).map (·.1)/\∀ g,g∈fs.map (·.1)->g∈(putF f v fs).map (·.1)
|[]=>⟨by simp [putF],λ g h=>by simp at h⟩
|(k,x) :: r=>by
  obtain ⟨i1,i2⟩:=zzd f v r;rw [show putF f v ((k,x) :: r)=(if k=f then (k,v) :: r else (k,x) :: putF f v r) from rfl];by_cases hk:k=f
  ·rw [if_pos hk];subst hk;exact ⟨by simp,λ g h=>by simpa using h⟩
  ·rw [if_neg hk];refine ⟨?_,λ g h=>?_⟩
   ·rw [vW];exact v8 _ i1
   ·rw [vW] at h ⊢;rcases vL.mp h with e|e
    ·exact vL.mpr (.inl e)
    ·exact v8 _ (i2 g e)
theorem zcc (f:Str) (v:V):∀ fs:List (Str×V),(putF f v fs).length<=fs.length+1
|[]=>by simp [putF]
|(k,x) :: r=>by
  have ih:=zcc f v r;rw [show putF f v ((k,x) :: r)=(if k=f then (k,v) :: r else (k,x) :: putF f v r) from rfl];by_cases hk:k=f
  ·rw [if_pos hk,wY,wY];lia
  ·rw [if_neg hk,wY,wY];lia
theorem RelO.some_of {v:V} {o:Option Value} (r:RelO (some v) o):∃ u,o=some u/\RelV v u:=by
 cases o with
|none=>exact (show False from r).elim
|some u=>exact ⟨u,rfl,r⟩
theorem RelO.none_of {o:Option Value} (r:RelO none o):o=none:=by
 cases o with
|none=>rfl
|some u=>exact (show False from r).elim
theorem zwp {v:V} (r:RelV v u):PySem.W.handedIn u=true:=by
 cases v with
|non=>cases (show u=xB from r);rfl
|bl b=>cases (show u=yT b from r);rfl
|int i=>obtain ⟨t,e⟩:=(show ∃ t,u=yF i t from r);cases e;rfl
|str x=>obtain ⟨t,e⟩:=(show ∃ t,u=yS x t from r);cases e;rfl
|byt b=>obtain ⟨t,e⟩:=(show ∃ t,u=Value.bytes b t from r);cases e;rfl
|flt b=>obtain ⟨t,e⟩:=(show ∃ t,u=zU b t from r);cases e;rfl
|ref a=>cases (show u=vN a from r);rfl
|ty n=>cases (show u=y9 n from r);rfl
section
variable {P:Program} {w:World} {H H':Hp} {h h':Heap} {a C dx:Addr} {fs fs':List (Str×V)}
theorem zej (hok:HOk P w H h) (e:H a=some (.ins C dx fs)):∃ mA,ObjM h a dx C mA/\(∀ f,RelO (fs.lookup f) (mA f))/\PySem.Within mA (fs.map (·.1))/\fs.length<=1000/\H dx=some (.own a):=by
 obtain ⟨d,z,ne,ob,mA,n,r,q⟩:=(show ObjOk P w H h a (.ins C dx fs) from hok a _ e)
 exact ⟨mA,⟨ob,n,ne⟩,r,q,z,d⟩
end
structure Cls (K:Fg) (C:Addr):Prop where
 pg:PySem.W.plainGet K C Str.empty=true
 hd:PySem.W.hasDictIn K C=true
 po:PySem.W.plainOver K C=true
 sa:PySem.W.findIn K (.ref C) "__setattr__"=some (some (.builtin "object.__setattr__"))
theorem Cls.get (c:Cls K C) (f:Str):PySem.W.plainGet K C f=true:=c.pg
def NoAttr (K:Fg) (C:Addr) (f:Str):Prop:=PySem.W.findIn K (.ref C) f=some none
theorem NoAttr.taker {f:Str} (n:NoAttr K C f):PySem.W.takerIn K C f=some none:=by
 unfold PySem.W.takerIn;rw [show PySem.W.findIn K (.ref C) f=some none from n];rfl
structure Meth (K:Fg) (C:Addr) (m:Str) (f:Addr):Prop where
 at_:PySem.W.findIn K (.ref C) m=some (some (.ref f))
 fn:PySem.W.isFn K (.ref f)=true
 kp:PySem.W.keepIn K (.ref f)=true
section
variable {X:Cx} {pins:List (Addr×Obj)} {Y:St} {H:Hp} {s:Shared} {a C dx:Addr} {fs:List (Str×V)} {f:Str} {v:V} {A:Around} {E:Value->Shared->Prop}
theorem zvk {b:Bool} {Q:Value->Shared->Prop} (I:Inv X pins Y H s) (e:H a=some (.ins C dx fs)) (c:Cls X.K C) (n:NoAttr X.K C f) (l:fs.lookup f=some v)
  (h:∀ u s',Inv X pins Y H s'->RelV v u->Q u s'):wpAny (model X.prog X.w) A (getAttr (.ref a) f b) Q E s:=by
 obtain ⟨mA,O,r,_,_,_⟩:=zej I.hok e;obtain ⟨u,hu,ru⟩:=RelO.some_of (v:=v) (o:=mA f) (by rw [<- l];exact r f);exact zoz I.kIn O (c.get f) c.hd n hu (zwp ru) (h u _ (I.tok _) ru)
theorem zu8 {m:Str} {g:Addr} {pl:Sem Bool} {Q:Value×List Value->Shared->Prop} (I:Inv X pins Y H s) (e:H a=some (.ins C dx fs)) (c:Cls X.K C) (k:Meth X.K C m g) (l:fs.lookup m=none)
  (h:Q (.ref g,[.ref a]) s):wpAny (model X.prog X.w) A (getMethod (.ref a) m pl) Q E s:=by
 obtain ⟨mA,O,r,_,_,_⟩:=zej I.hok e;have hn:mA m=none:=RelO.none_of (by rw [<- l];exact r m);exact zwt I.kIn O (c.get m) k.at_ k.fn hn h
theorem zgn {y:V} {Q:Unit->Shared->Prop} (I:Inv X pins Y H s) (e:H a=some (.ins C dx fs)) (c:Cls X.K C) (n:NoAttr X.K C f) (hl:fs.length < 1000) (ry:RelV y u)
  (h:∀ s',Inv X pins Y (upd H a (.ins C dx (putF f y fs))) s'->Q () s'):wpAny (model X.prog X.w) A (setAttr (.ref a) f u) Q E s:=by
 obtain ⟨mA,O,r,wi,_,ho⟩:=zej I.hok e;have hz:(fs.map (·.1)).length<=sizeLine:=by rw [u5,sizeLine_eq];lia
 refine zo21 I.kIn O c.sa c.po n.taker c.hd wi hz λ h' O' sb=>h _ ?_;have hd:∃ o,h'.get? dx=some o:=let ⟨o,_,_,e',_⟩:=O'.ns;⟨o,e'⟩;refine I.write (x:=a) (e:=dx) (by rw [e];exact True.intro) (.inr ho) (λ b q hb z=>(sb.2 b hb).trans z) hd ?_;refine ⟨by rw [zr0 O.ne];exact ho,?_,O.ne,O'.obj,_,O'.ns,λ g=>?_,λ g hg=>?_⟩
 ·have:=zcc f y fs;lia
 ·show RelO ((putF f y fs).lookup g) (if g=f then some u else mA g);rw [zfc];by_cases q:g=f
  ·rw [if_pos q,if_pos q];exact ry
  ·rw [if_neg q,if_neg q];exact r g
 ·by_cases q:g=f
  ·rw [q];exact (zzd f y fs).1
  ·refine (zzd f y fs).2 g (wi g λ z=>hg ?_);show (if g=f then some u else mA g)=none;rw [if_neg q];exact z
theorem Inv.made (I:Inv X pins Y H s):Inv X pins Y (upd (upd H s.heap.objs.size (.own (s.heap.objs.size+1))) (s.heap.objs.size+1) (.ins C s.heap.objs.size []))
  { s with heap:=(s.heap.push PySem.W.emptyDict).push (PySem.W.instObj C s.heap.objs.size) }:=by
 have e1:(s.heap.push PySem.W.emptyDict).get? s.heap.objs.size=some PySem.W.emptyDict:=v4 s.heap rfl;have e2:((s.heap.push PySem.W.emptyDict).push (PySem.W.instObj C s.heap.objs.size)).get? (s.heap.objs.size+1)=some (PySem.W.instObj C s.heap.objs.size):=by
  have:=v4 (s.heap.push PySem.W.emptyDict) (o:=PySem.W.instObj C s.heap.objs.size) rfl
  rwa [yG] at this
 have e3:(s.heap.push PySem.W.emptyDict).Ns s.heap.objs.size (λ _=>none):=⟨PySem.W.emptyDict,#[],_,e1,rfl,(λ e he=>absurd he (by simp)),λ _=>rfl⟩
 have I1:=I.laid (a:=s.heap.objs.size) (o:=.own (s.heap.objs.size+1)) (h':=s.heap.push PySem.W.emptyDict) (t':=s.toks) (λ b u q=>vM _ q) (u6 _) ⟨_,e1⟩;refine I1.laid (a:=s.heap.objs.size+1) (o:=.ins C s.heap.objs.size []) (t':=s.toks) (λ b u q=>vM _ q) (Nat.le_of_eq (yG _ _)) ?_;have ne:s.heap.objs.size≠s.heap.objs.size+1:=wC (zZ _);refine ⟨by rw [zr0 ne,zn0],wE _,ne,e2,λ _=>none,(Heap.Ns1.of_empty e3).at λ o q=>vM _ q,λ _=>True.intro,λ y hy=>absurd rfl hy⟩
theorem zzz {prog:Program} {env:Env} {e:Expr} {f:Str} {Q:Value->Shared->Prop} (hb:attributeBase e f env (eval e env)=eval e env)
  (h:wpAny (model prog w) A (eval e env) (λ o s₁=>wpAny (model prog w) A (getAttr o f true) Q E s₁) E s):wpAny (model prog w) A (eval (.Attribute e f pos) env) Q E s :=
 Attribute_any_ h (by rw [arm_eval_Attribute,hb])
end
noncomputable def tFld (K:Fg) (ta:TE) (f:Str):TE:=λ Y H Q=>ta Y H λ x H1=>∃ a C dx fs v,x=.ref a/\H1 a=some (.ins C dx fs)/\Cls K C/\NoAttr K C f/\fs.lookup f=some v/\Q v H1
noncomputable def sFld (K:Fg) (ta tv:TE) (f:Str):TS:=λ D Y H=>tv Y H λ y H1=>ta Y H1 λ x H2=>∃ a C dx fs,x=.ref a/\H2 a=some (.ins C dx fs)/\Cls K C/\NoAttr K C f/\fs.length < 1000 /\
 D.nx Y (upd H2 a (.ins C dx (putF f y fs)))
section
variable {X:Cx} {o e value:Expr} {f:Str} {pos pos' tpos:Pos} {ta tv:TE}
theorem zn61 (he:PE X e ta) (hb:attributeBase e f X.env (eval e X.env)=eval e X.env):PE X (.Attribute e f pos) (tFld X.K ta f):=by
 intro pins s Y H Q I h;refine zzz hb (thn (he pins s Y H _ I h) λ u s1 hz=>?_);obtain ⟨x,H1,I1,rx,a,C,dx,fs,v,ex,ea,c,n,l,q⟩:=hz;subst ex;obtain rfl:u=vN a:=rx;exact zvk I1 ea c n l λ u' s2 I2 ru=>⟨v,H1,I2,ru,q⟩
theorem zad (ha:PE X o ta) (hv:PE X value tv) (hs:swapsWith value (some (.Attribute o f pos')) pos.line X.env=pure false):PS X (.Assign [.Attribute o f pos'] value pos) (sFld X.K ta tv f):=by
 intro pins s Y H D I h;refine plainObj_wpAny_Assign_Attribute (thn (hv pins s Y H _ I h) λ u s1 ⟨y,H1,I1,ry,q⟩=>thn (ha pins s1 Y H1 _ I1 q) λ ov s2 hz=>?_) hs;obtain ⟨x,H2,I2,rx,a,C,dx,fs,ex,ea,c,n,l,q2⟩:=hz;subst ex;obtain rfl:ov=vN a:=rx;exact zgn I2 ea c n l ry λ s3 I3=>⟨Y,_,I3,q2⟩
end
section
variable {X:Cx} {pins:List (Addr×Obj)} {Y:St} {H:Hp} {s:Shared} {A:Around} {E:Value->Shared->Prop} {Q:Value->Shared->Prop} {c:Value} {b:Bool}
inductive TyOf (K:Fg) (H:Hp):V->Value->Prop where
|non:TyOf K H .non (.type "NoneType")
|bl (x:Bool):TyOf K H (.bl x) (.type "bool")
|int (i:Int):TyOf K H (.int i) (.type "int")
|str (x:Str):TyOf K H (.str x) (.type "str")
|flt (x:UInt64):TyOf K H (.flt x) (.type "float")
|lst {a:Addr} {xs:List V} (e:H a=some (.lst xs)):TyOf K H (.ref a) (.type "list")
|frz {a:Addr} {o:Obj} {xs:List V} (e:H a=some (.frz o (.lst xs))):TyOf K H (.ref a) (.type "list")
|tup {a:Addr} {xs:List V} (e:H a=some (.tup xs)):TyOf K H (.ref a) (.type "tuple")
|dK {a:Addr} {kvs:List (Key×V)} (e:H a=some (.dK kvs)):TyOf K H (.ref a) (.type "dict")
|dT {a:Addr} {kvs:List (List Key×V)} (e:H a=some (.dT kvs)):TyOf K H (.ref a) (.type "dict")
|ins {a C dx:Addr} {fs:List (Str×V)} (e:H a=some (.ins C dx fs)) (cl:Cls K C) (ha:PySem.W.findIn K (.ref C) "__class__"=some (some (.builtin "object.__class__")))
   (hn:PySem.W.specialIn K (.builtin "object.__class__") "__get__"=some (some (.builtin "getset_descriptor.__get__"))) (htk:PySem.W.takesIn K (.builtin "object.__class__")=some true)
   (hm:PySem.W.mroIn K C (.type "object")=some true):TyOf K H (.ref a) (.ref C)
theorem zfp {x:V} {t:Value} (I:Inv X pins Y H s) (rx:RelV x u) (ty:TyOf X.K H x t) (e:PySem.W.kitOne X.K t c=some b) (h:∀ tk,Q (.bool b) { s with toks:=tk }) :
  wpAny (model X.prog X.w) A (call (.builtin "isinstance") [u,c]) Q E s:=by
 cases ty with
|non=>cases (show u=xB from rx);exact PySem.W.kia_one PySem.W.kitx_none I.kIn True.intro e (λ z=>nomatch z) h
|bl y=>cases (show u=yT y from rx);exact PySem.W.kia_one PySem.W.kitx_bool I.kIn True.intro e (λ z=>nomatch z) h
|int i=>obtain ⟨t,q⟩:=(show ∃ t,u=yF i t from rx);cases q;exact PySem.W.kia_one PySem.W.kitx_int I.kIn True.intro e (λ z=>nomatch z) h
|str y=>obtain ⟨t,q⟩:=(show ∃ t,u=yS y t from rx);cases q;exact PySem.W.kia_one PySem.W.kitx_str I.kIn True.intro e (λ z=>nomatch z) h
|flt y=>obtain ⟨t,q⟩:=(show ∃ t,u=zU y t from rx);cases q;exact PySem.W.kia_one PySem.W.kitx_float I.kIn True.intro e (λ z=>nomatch z) h
|@lst a xs ea =>
  cases (show u=vN a from rx);obtain ⟨_,_,n,_,h1⟩:=(show ObjOk X.prog X.w H s.heap a (.lst xs) from I.hok a _ ea)
  exact PySem.W.kia_one PySem.W.kitx_list I.kIn ⟨_,h1,rfl⟩ e (λ z=>nomatch z) h
|@frz a ob xs ea =>
  cases (show u=vN a from rx);obtain ⟨_,_,_,n,_,h1⟩:=(show ObjOk X.prog X.w H s.heap a (.frz ob (.lst xs)) from I.hok a _ ea)
  exact PySem.W.kia_one PySem.W.kitx_list I.kIn ⟨_,h1,rfl⟩ e (λ z=>nomatch z) h
|@tup a xs ea =>
  cases (show u=vN a from rx);obtain ⟨_,_,_,p⟩:=(show ObjOk X.prog X.w H s.heap a (.tup xs) from I.hok a _ ea)
  obtain ⟨o,h1,h2,_⟩:=p;exact PySem.W.kia_one PySem.W.kitx_tuple I.kIn ⟨o,h1,h2⟩ e (λ z=>nomatch z) h
|@dK a kvs ea =>
  cases (show u=vN a from rx);obtain ⟨_,_,vs,_,p⟩:=(show ObjOk X.prog X.w H s.heap a (.dK kvs) from I.hok a _ ea)
  obtain ⟨o,es,ep,h1,h2,_⟩:=p;exact PySem.W.kia_one PySem.W.kitx_dict I.kIn ⟨o,h1,h2.1⟩ e (λ z=>nomatch z) h
|@dT a kvs ea =>
  cases (show u=vN a from rx);obtain ⟨_,_,xs,_,o,es,ep,h1,h2,_⟩:=(show ObjOk X.prog X.w H s.heap a (.dT kvs) from I.hok a _ ea)
  exact PySem.W.kia_one PySem.W.kitx_dict I.kIn ⟨o,h1,h2.1⟩ e (λ z=>nomatch z) h
|@ins a C dx fs ea cl ha hn htk hm =>
  cases (show u=vN a from rx);obtain ⟨mA,O,_⟩:=zej I.hok ea;obtain ⟨od,J,_⟩:=O.look;exact PySem.W.kia_one (PySem.W.kitx_own (cl.get _) cl.hd ha hn htk hm) I.kIn J e (λ z=>nomatch z) h
end
structure Room (k:Nat) (A:Around):Prop where
 hd:A.handled=none
 dp:A.depth+3 * k+5 < recursionLimit
 gd:A.guards=some []
 un:A.units+16 * k+200 < cLine
theorem Room.mono {j k:Nat} (r:Room k A) (h:j<=k):Room j A:=⟨r.hd,by have:=r.dp;lia,r.gd,by have:=r.un;lia⟩
theorem Room.deeper {k:Nat} {A:Around} (r:Room (k+1) A) (env:Env):Room k (A.deeper env) :=
 ⟨r.hd,by have:=r.dp;show A.depth+1+3 * k+5 < _;lia,r.gd,by have:=r.un;show A.units+3+16 * k+200 < _;lia⟩
theorem zvn:(A.under (.builtin "type.__call__" ⟨.ref C :: us,kw⟩)).depth=A.depth+1:=by
 first|rfl|simp [Around.under,Code.weight,Code.isCreation,Code.isGuard,Code.isCaller,Code.frames,Code.isFrame,guardIds]
theorem zrm:(A.under (.builtin "type.__call__" ⟨.ref C :: us,kw⟩)).units=A.units+1:=by
 first|rfl|simp [Around.under,Code.cUnits,Code.frames,Code.isFrame]
theorem Room.make {k:Nat} (r:Room (k+1) A) (C:Addr) (us:List Value) (kw:List (Str×Value)):Room k (A.under (.builtin "type.__call__" ⟨.ref C :: us,kw⟩)) :=
 ⟨r.hd,by have:=r.dp;rw [zvn];lia,r.gd,by have:=r.un;rw [zrm];lia⟩
theorem Room.depth {k:Nat} {A:Around} (r:Room k A):A.depth < recursionLimit:=by have:=r.dp;lia
theorem Room.units {k:Nat} {A:Around} (r:Room k A):A.units+64 < cLine:=by have:=r.un;lia
def tNil:TA:=λ _ H Q=>Q [] H
def zrc (ta:TE) (tr:TA):TA:=λ Y H Q=>ta Y H λ x H1=>tr Y H1 λ xs H2=>Q (x :: xs) H2
section
variable {X:Cx} {e:Expr} {es:List Expr} {te:TE} {t:TA} {pos:Pos}
theorem zg0:PA X [] tNil:=λ _ _ _ _ H Q I h=>Calls.spliced_nil ⟨[],H,I,.nil,h⟩
theorem za0 (ha:PE X e te) (hr:PA X es t) (hs:starEach (e :: es) X.env=(false,eval e X.env) :: starEach es X.env:=by rfl):PA X (e :: es) (zrc te t):=by
 intro pos pins s Y H Q I h;rw [hs];show wpAny _ _ (spliced ((false,eval e X.env) :: backTo pos (starEach es X.env))) _ _ s;refine Calls.spliced_cons (thn (ha pins s Y H _ I h) λ u s1 hz=>?_);obtain ⟨x,H1,I1,r1,q1⟩:=hz;exact thn (hr pos pins s1 Y H1 _ I1 q1) λ us s2 ⟨xs,H2,I2,r2,q2⟩=>⟨x :: xs,H2,I2,.cons r1 r2,q2⟩
def tTup (t:TA):TE:=λ Y H Q=>t Y H λ xs H1=>xs.length<=sizeLine/\∀ p,H1 p=none->Q (.ref p) (upd H1 p (.tup xs))
def tLst (t:TA):TE:=λ Y H Q=>t Y H λ xs H1=>xs.length<=sizeLine/\∀ p,H1 p=none->Q (.ref p) (upd H1 p (.lst xs))
theorem zi91 {x1} (h:PA X es t):PE X (.Tuple es x1 pos) (tTup t):=by
 intro pins s Y H Q I hq;refine wpAny_Tuple_spliced (thn (h pos pins s Y H _ I hq) λ us s1 ⟨xs,H1,I1,r,z,q⟩=>⟨by rw [<- r.length];exact z,?_⟩);have hf:H1 s1.heap.objs.size=none:=I1.hok.fresh (u6 _);refine ⟨.ref s1.heap.objs.size,upd H1 s1.heap.objs.size (.tup xs),I1.laid (t':=s1.toks) (λ b u e=>vM _ e) (u6 _) ?_,rfl,q _ hf⟩;exact ⟨z,us,r,⟨_,v4 _ rfl,rfl,_,rfl⟩⟩
theorem zr31 (h:PA X es t):PE X (.List es pos) (tLst t):=by
 intro pins s Y H Q I hq;refine wpAny_List_spliced (thn (h pos pins s Y H _ I hq) λ us s1 ⟨xs,H1,I1,r,z,q⟩=>⟨by rw [<- r.length];exact z,?_⟩);have hf:H1 s1.heap.objs.size=none:=I1.hok.fresh (u6 _);refine ⟨.ref s1.heap.objs.size,upd H1 s1.heap.objs.size (.lst xs),I1.laid (t':=s1.toks) (λ b u e=>vM _ e) (u6 _) ?_,rfl,q _ hf⟩;exact ⟨z,us,0,r,v4 _ rfl⟩
end
abbrev Sp:=List V->Hp->VK->XK->Prop
abbrev CXT:=List Env->Hp->Shared->XK->Value->Shared->Prop
structure Env0 (P:Program) (w:World) (K:Fg) (mg:Str->Option Value) (base:Heap) (A:Around) (outer:List Env) (s:Shared) (H:Hp):Prop where
 frames:A.frames=some outer
 mod:Mod K mg base
 bs:∀ b o,base.get? b=some o->s.heap.get? b=some o/\H b=none
 bsz:base.objs.size<=s.heap.objs.size
 funs:s.heap.FunFrames base outer
 frf:∀ b∈frs outer,H b=none
 hok:HOk P w H s.heap
 bare:AllBare s.gens
noncomputable def CE (outer:List Env) (P:Program) (w:World) (H:Hp) (s:Shared) (Q:VK) (u:Value) (s':Shared):Prop :=
 ∃ v H',s'.os=s.os/\AllBare s'.gens/\Un (frs outer) [] H H' s.heap s'.heap/\HOk P w H' s'.heap/\RelV v u/\Q v H'
noncomputable def CR (CX:CXT) (outer:List Env) (P:Program) (w:World) (H:Hp) (s:Shared) (Q:VK) (E:XK) (r:Result) (s':Shared):Prop :=
 match r with
|.ok (.ret u)=>CE outer P w H s Q u s'
|.ok _=>False
|.error e=>CX outer H s E e s'
structure FnOk (P:Program) (w:World) (K:Fg) (mg:Str->Option Value) (base:Heap) (CX:CXT) (k:Nat) (f:Addr) (fd:FuncData) (ps:List Str) (sp:Sp):Prop where
 len:∀ vs H Q E,sp vs H Q E->vs.length=ps.length
 run:∀ (A:Around) (outer:List Env) (s:Shared) (H:Hp) (args:Args) (us:List Value) (vs:List V) (Q:VK) (E:XK),Room k A->Env0 P w K mg base A outer s H->BindsTo s fd args (ps.zip us)->Vals vs us->sp vs H Q E ->
  codeAny (model P w) A (.call (.ref f) args) (CR CX outer P w H s Q E) s
theorem Env0.make {P:Program} {H:Hp} (e:Env0 P w K mg base A outer s H) (C:Addr) (us:List Value) (kw:List (Str×Value)) :
  Env0 P w K mg base (A.under (.builtin "type.__call__" ⟨.ref C :: us,kw⟩)) outer s H:=⟨by first|exact e.frames|(simpa [Around.under,Code.envs,Code.isFrame,pushEnvs] using e.frames),e.mod,e.bs,e.bsz,e.funs,e.frf,e.hok,e.bare⟩
section
variable {X:Cx} {pins:List (Addr×Obj)} {Y:St} {H:Hp} {s s':Shared}
theorem Inv.env0 (I:Inv X pins Y H s):Env0 X.prog X.w X.K X.mg X.base X.A X.stack s H :=
 ⟨I.ok.frames,I.ok.mod,I.bs,wU I.ok.bsz I.sz,I.stack,I.stkFree,I.hok,I.bare⟩
theorem Inv.after {Q:VK} (I:Inv X pins Y H s) (h:CE X.stack X.prog X.w H s Q u s'):EP X pins Y Q u s':=by
 obtain ⟨v,H',os,bare,un,hok,r,q⟩:=h;obtain ⟨hh,g,d,t,os'⟩:=s';obtain rfl:os'=s.os:=os;exact ⟨v,H',I.call (h':=hh) (g':=g) (d':=d) (t':=t) (ch:=[]) un hok bare (λ b z=>absurd z (by simp)),r,q⟩
end
def zly (sp:Sp) (dvs:List V) (E:XK) (t:TA):TE:=λ Y H Q=>t Y H λ vs H1=>sp (vs++dvs) H1 Q E
noncomputable def zry (C:Addr) (m:Str) (sp:Sp) (dvs:List V) (E:XK) (ta:TE) (t:TA):TE:=λ Y H Q=>ta Y H λ x H1=>∃ a dx fs,x=.ref a/\H1 a=some (.ins C dx fs)/\fs.lookup m=none /\
 t Y H1 λ vs H2=>sp (x :: (vs++dvs)) H2 Q E
noncomputable def ze61 (C:Addr) (sp:Sp) (dvs:List V) (E:XK) (t:TA):TE:=λ Y H Q=>t Y H λ vs H1=>∀ x dx,H1 x=none->H1 dx=none->dx≠x ->
 sp (.ref x :: (vs++dvs)) (upd (upd H1 dx (.own x)) x (.ins C dx [])) (λ v H2=>v=.non/\Q (.ref x) H2) E
noncomputable def Binds (K:Fg) (fd:FuncData) (ps:List Str) (ds:List Value):Prop :=
 ∀ (s:Shared) (us:List Value),K.In s.heap->(us++ds).length=ps.length->BindsTo s fd ⟨us,[]⟩ (ps.zip (us++ds))
theorem Binds.all {fd:FuncData} (h:∀ us:List Value,us.length=ps.length->bindArgs fd ⟨us,[]⟩=pure (ps.zip us)):Binds K fd ps []:=λ s us _ hl=>by
 rw [wJ] at hl ⊢;exact .of_eq (h us hl)
noncomputable def zhg (CX:CXT) (X:Cx) (E:XK):Prop:=∀ (pins:List (Addr×Obj)) (Y:St) (H:Hp) (s:Shared) (e:Value) (s':Shared),Inv X pins Y H s->CX X.stack H s E e s'->X.xe e s'
section
variable {X:Cx} {CX:CXT} {k:Nat} {f C:Addr} {fd:FuncData} {ps:List Str} {sp:Sp} {dvs:List V} {ds:List Value} {E:XK} {x m:Str} {p pos apos:Pos} {e o:Expr} {es:List Expr} {ta:TE} {t:TA}
theorem zyo {Y:St} {H:Hp} {Q:VK} {vs:List V} (F:FnOk X.prog X.w X.K X.mg X.base CX k f fd ps sp) (hr:Room k X.A) (hb:Binds X.K fd ps ds) (hd:Vals dvs ds) (hx:zhg CX X E)
  (I:Inv X pins Y H s) (r:Vals vs us) (h:sp (vs++dvs) H Q E):wpAny (model X.prog X.w) X.A (call (.ref f) us) (EP X pins Y Q) X.xe s:=by
 have r2:Vals (vs++dvs) (us++ds):=r.append hd;have hl:(us++ds).length=ps.length:=by rw [<- r2.length];exact F.len _ _ _ _ h
 refine wpAny_call (codeAny_mono (F.run X.A X.stack s H ⟨us,[]⟩ (us++ds) (vs++dvs) Q E hr I.env0 (hb s us I.kIn hl) r2 h) λ r s' hq=>?_);cases r with
|error e=>exact hx pins Y H s e s' I hq
|ok fl =>
  cases fl with
 |ret u=>exact I.after hq
 |next=>exact False.elim hq
 |brk=>exact False.elim hq
 |cont=>exact False.elim hq
theorem zhr (F:FnOk X.prog X.w X.K X.mg X.base CX k f fd ps sp) (hr:Room k X.A) (hg:Gl X x) (hm:X.mg x=some (.ref f)) (hk:PySem.W.keepIn X.K (.ref f)=true) (hb:Binds X.K fd ps ds) (hd:Vals dvs ds) (hx:zhg CX X E)
  (ha:PA X (e :: es) t) (hdb:(x == ("__debug__":Str))=false:=by decide) (he:starEach (e :: es) X.env=(false,eval e X.env) :: starEach es X.env:=by rfl) (hpl:(backTo pos (starEach es X.env)).any (·.1)=false:=by rfl) :
  PE X (.Call (.Name x p) (e :: es) [] pos) (zly sp dvs E t):=by
 intro pins s Y H Q I h;refine wpAny_Call_Name_kw (zhm I hg hm ?_ hdb);refine PySem.W.callWith_K (h₀:=X.base) I.ok.mod.kin hk (thn (ha pos pins s Y H _ I h) λ us s1 ⟨vs,H1,I1,r,q⟩=>⟨I1.kIn,?_⟩) he hpl;exact zyo F hr hb hd hx I1 r q
theorem zlz {pl:Sem Bool} (he:PE X o ta) (c:Cls X.K C) (hm:Meth X.K C m f) (F:FnOk X.prog X.w X.K X.mg X.base CX k f fd ps sp) (hr:Room k X.A) (hb:Binds X.K fd ps ds) (hd:Vals dvs ds) (hx:zhg CX X E) (ha:PA X (e :: es) t)
  (hst:starEach (e :: es) X.env=(false,eval e X.env) :: starEach es X.env:=by rfl) (hpl:(backTo pos (starEach es X.env)).any (·.1)=false:=by rfl)
  (ht:eval (.Call (.Attribute o m apos) (e :: es) [] pos) X.env=(do
   let ov <- eval o X.env
   standAt apos.atName
   let (f,first) <- holding [ov] (getMethod ov m pl)
   callWith pos f first (backTo pos (starEach (e :: es) X.env)) (backToKw pos (keywordEach [] X.env))):=by rfl) :
  PE X (.Call (.Attribute o m apos) (e :: es) [] pos) (zry C m sp dvs E ta t):=by
 intro pins s Y H Q I h;refine PySem.W.methodCall_KW (pl:=pl) (thn (he pins s Y H _ I h) λ u s1 hz=>?_) ht;obtain ⟨x,H1,I1,rx,a,dx,fs,ex,ea,l,q⟩:=hz;subst ex;obtain rfl:u=vN a:=rx;refine zu8 I1 ea c hm l ?_;refine PySem.W.callWith_K (first:=[.ref a]) (h₀:=X.base) I.ok.mod.kin hm.kp (thn (ha pos pins s1 Y H1 _ I1 q) λ us s2 ⟨vs,H2,I2,r,q2⟩=>⟨I2.kIn,?_⟩) hst hpl;exact zyo (us:=.ref a :: us) (vs:=.ref a :: vs) F hr hb hd hx I2 (.cons rfl r) q2
theorem zex {pl:Sem Bool} (he:PE X o ta) (c:Cls X.K C) (hm:Meth X.K C m f) (F:FnOk X.prog X.w X.K X.mg X.base CX k f fd ps sp) (hr:Room k X.A) (hb:Binds X.K fd ps ds) (hd:Vals dvs ds) (hx:zhg CX X E)
  (ht:eval (.Call (.Attribute o m apos) [] [] pos) X.env=(do
   let ov <- eval o X.env
   standAt apos.atName
   let (f,first) <- holding [ov] (getMethod ov m pl)
   callWith pos f first (backTo pos (starEach [] X.env)) (backToKw pos (keywordEach [] X.env))):=by rfl) :
  PE X (.Call (.Attribute o m apos) [] [] pos) (zry C m sp dvs E ta tNil):=by
 intro pins s Y H Q I h;refine PySem.W.methodCall_KW (pl:=pl) (thn (he pins s Y H _ I h) λ u s1 hz=>?_) ht;obtain ⟨x,H1,I1,rx,a,dx,fs,ex,ea,l,q⟩:=hz;subst ex;obtain rfl:u=vN a:=rx;refine zu8 I1 ea c hm l ?_;exact PySem.W.callWith_K0 (first:=[.ref a]) I1.kIn hm.kp (zyo (us:=[.ref a]) (vs:=[.ref a]) F hr hb hd hx I1 (.cons rfl .nil) q)
structure Mk (K:Fg) (C f:Addr):Prop where
 makes:PySem.W.makesIn K C=true
 init:PySem.W.findIn K (.ref C) "__init__"=some (some (.ref f))
 fn:PySem.W.isFn K (.ref f)=true
 kp:PySem.W.keepIn K (.ref C)=true
theorem znv {Y:St} {H:Hp} {Q:VK} {vs:List V} (M:Mk X.K C f) (F:FnOk X.prog X.w X.K X.mg X.base CX k f fd ps sp) (hr:Room (k+1) X.A) (hb:Binds X.K fd ps ds) (hd:Vals dvs ds)
  (hx:zhg CX X E) (I:Inv X pins Y H s) (r:Vals vs us)
  (h:∀ x dx,H x=none->H dx=none->dx≠x->sp (.ref x :: (vs++dvs)) (upd (upd H dx (.own x)) x (.ins C dx [])) (λ v H2=>v=.non/\Q (.ref x) H2) E) :
  wpAny (model X.prog X.w) X.A (call (.ref C) us) (EP X pins Y Q) X.xe s:=by
 have hq:=h (s.heap.objs.size+1) s.heap.objs.size (I.hok.fresh (zC _)) (I.hok.fresh (u6 _)) (wC (zZ _));have I2:=Inv.made (C:=C) I;have r2:Vals (V.ref (s.heap.objs.size+1) :: (vs++dvs)) (vN (s.heap.objs.size+1) :: (us++ds)):=.cons rfl (r.append hd);have hl:(vN (s.heap.objs.size+1) :: us++ds).length=ps.length:=by
  have e:=r2.length;rw [F.len _ _ _ _ hq] at e;exact e.symm
 refine wpAny_call (zhx (f:=f) I.kIn M.makes M.init (beq_iff_eq.mp M.fn) (codeAny_mono (F.run _ X.stack _ _ ⟨vN (s.heap.objs.size+1) :: us,[]⟩ (vN (s.heap.objs.size+1) :: (us++ds)) _ _ E (hr.make C us [])
  (I2.env0.make C us []) (hb _ (vN (s.heap.objs.size+1) :: us) I2.kIn hl) r2 hq) λ r s' hq'=>?_))
 cases r with
|error e=>exact hx pins Y _ _ e s' I2 hq'
|ok fl =>
  cases fl with
 |ret u =>
   obtain ⟨v,H',I3,rv,ev,q3⟩:=I2.after hq';subst ev;exact ⟨rv,⟨V.ref (s.heap.objs.size+1),H',I3,rfl,q3⟩⟩
 |next=>exact False.elim hq'
 |brk=>exact False.elim hq'
 |cont=>exact False.elim hq'
theorem zv01 (M:Mk X.K C f) (F:FnOk X.prog X.w X.K X.mg X.base CX k f fd ps sp) (hr:Room (k+1) X.A) (hg:Gl X x) (hm:X.mg x=some (.ref C)) (hb:Binds X.K fd ps ds) (hd:Vals dvs ds) (hx:zhg CX X E)
  (ha:PA X (e :: es) t) (hdb:(x == ("__debug__":Str))=false:=by decide) (he:starEach (e :: es) X.env=(false,eval e X.env) :: starEach es X.env:=by rfl) (hpl:(backTo pos (starEach es X.env)).any (·.1)=false:=by rfl) :
  PE X (.Call (.Name x p) (e :: es) [] pos) (ze61 C sp dvs E t):=by
 intro pins s Y H Q I h;refine wpAny_Call_Name_kw (zhm I hg hm ?_ hdb);refine PySem.W.callWith_K (h₀:=X.base) I.ok.mod.kin M.kp (thn (ha pos pins s Y H _ I h) λ us s1 ⟨vs,H1,I1,r,q⟩=>⟨I1.kIn,?_⟩) he hpl;exact znv M F hr hb hd hx I1 r q
end
structure FnScope (N P:List Str) (sc:Scope):Prop where
 kind:sc.kind=.function
 co:sc.isCoroutine=false
 gen:sc.isGenerator=false
 nd:N.Nodup
 pre:N.take P.length=P
 par:∀ x∈P,sc.names.lookup x=some .local \/ sc.names.lookup x=some .cell
 nofree:∀ y∈sc.names,y.2≠.free
theorem zij {kindOf:Str->Option NameKind} {x:Str}:∀ {binds:List (Str×Value)} {m:Str->Option Value},(∀ v,(x,v) ∉ binds)->bindL kindOf binds m x=m x
|[],_,_=>rfl
|(n,v) :: r,m,h=>by
  unfold bindL;rw [zij λ w hw=>h w (v8 _ hw)];split
  ·have:x≠n:=by rintro rfl;exact h v wR
   simp [this]
  ·rfl
theorem zni {kindOf:Str->Option NameKind} {x:Str}:∀ {binds:List (Str×Value)} {m:Str->Option Value},(∀ v,(x,v) ∉ binds)->bindC kindOf binds m x=m x
|[],_,_=>rfl
|(n,v) :: r,m,h=>by
  unfold bindC;rw [zni λ w hw=>h w (v8 _ hw)];split
  ·rfl
  ·have:x≠n:=by rintro rfl;exact h v wR
   simp [this]
theorem zoj {kindOf:Str->Option NameKind} {x:Str} {v:Value}:∀ {P:List Str} {vs:List Value} {i:Nat} {m:Str->Option Value},P.Nodup->P[i]?=some x->vs[i]?=some v->kindOf x=some .local ->
  bindL kindOf (P.zip vs) m x=some v
|[],_,_,_,_,h,_,_=>by simp at h
|_ :: _,[],_,_,_,_,h,_=>by simp at h
|p :: P,w :: vs,0,m,nd,h1,h2,hk=>by
  simp at h1 h2;subst h1;subst h2;show bindL kindOf ((p,w) :: P.zip vs) m p=_;unfold bindL;rw [zij λ v hv=>(vX.mp nd).1 (z5 hv).1,if_pos hk];simp
|p :: P,w :: vs,i+1,m,nd,h1,h2,hk=>by
  show bindL kindOf ((p,w) :: P.zip vs) m x=_;unfold bindL;exact zoj (i:=i) (vX.mp nd).2 (by simpa using h1) (by simpa using h2) hk
theorem zgi {kindOf:Str->Option NameKind} {x:Str} {v:Value}:∀ {P:List Str} {vs:List Value} {i:Nat} {m:Str->Option Value},P.Nodup->P[i]?=some x->vs[i]?=some v->kindOf x≠some .local ->
  bindC kindOf (P.zip vs) m x=some v
|[],_,_,_,_,h,_,_=>by simp at h
|_ :: _,[],_,_,_,_,h,_=>by simp at h
|p :: P,w :: vs,0,m,nd,h1,h2,hk=>by
  simp at h1 h2;subst h1;subst h2;show bindC kindOf ((p,w) :: P.zip vs) m p=_;unfold bindC;rw [zni λ v hv=>(vX.mp nd).1 (z5 hv).1,if_neg hk];simp
|p :: P,w :: vs,i+1,m,nd,h1,h2,hk=>by
  show bindC kindOf ((p,w) :: P.zip vs) m x=_;unfold bindC;exact zgi (i:=i) (vX.mp nd).2 (by simpa using h1) (by simpa using h2) hk
def start (N:List Str) (vs:List V):St:=vs.map some++vP (N.length - vs.length) none
noncomputable def cxOf (CX:CXT) (P:Program) (w:World) (K:Fg) (mg:Str->Option Value) (base:Heap) (N:List Str) (qual:Str) (scope:Scope) (f:Addr) (cd:Value) (A:Around) (outer:List Env) (s:Shared) (H:Hp) (E:XK):Cx where
 prog:=P
 w:=w
 K:=K
 mg:=mg
 base:=base
 A:=A.deeper (envOfC qual scope s.heap.objs.size f cd)
 N:=N
 s₀:=s
 H₀:=H
 env:=envOfC qual scope s.heap.objs.size f cd
 outer:=outer
 stack:=envOfC qual scope s.heap.objs.size f cd :: outer
 ex:=[]
 calm:=true
 fn:=λ _=>true
 pn:=[]
 xe:=λ e s'=>wpAny (model P w) (A.deeper (envOfC qual scope s.heap.objs.size f cd)) (leaving (envOfC qual scope s.heap.objs.size f cd) e) (λ _ s''=>CX outer H s E e s'') (λ e' s''=>CX outer H s E e' s'') s'
theorem zen {sc:Scope} (h:sc.names.lookup x=some .cell):∃ c,(cellsFrom n sc.names []).lookup x=some c:=by
 have q:=PySem.W.cellsFrom_some sc.names n [] (.inl h);exact xH.mp q
theorem zhq {CX:CXT} {P:Program} {f:Addr} {cd:Value} {s1:Shared} {H:Hp} {E:XK} {vs:List V}
  (S:FnScope N ps scope) (hd:A.handled=none) (e0:Env0 P w K mg base A outer s H) (hl:vs.length=ps.length) (r:Vals vs us)
  (x:InCallC s s.heap.objs.size (bindL (envOfC qual scope s.heap.objs.size f cd).kindOf (ps.zip us) λ _=>none) (cellsFrom (s.heap.objs.size+1) scope.names []) (bindC (envOfC qual scope s.heap.objs.size f cd).kindOf (ps.zip us) λ _=>none) s1) :
  Inv (cxOf CX P w K mg base N qual scope f cd A outer s H E) [] (start N vs) H s1:=by
 have hpl:ps.length<=N.length:=by have:=congrArg zD S.pre;rw [wM] at this;lia
 obtain ⟨h1,tk,rfl,hk⟩:=x.done;have noA:∀ b:Addr,b ∉ (cxOf CX P w K mg base N qual scope f cd A outer s H E).ex:=λ b z=>absurd (show b∈([]:List Addr) from z) (by simp);refine ⟨⟨e0.mod,S.kind,rfl,rfl,u6 _,λ y z c h1 h2=>?_,λ y hy=>?_,λ y c _ h=>?_,λ _=>hd,Around.frames_deeper e0.frames,.inr ⟨rfl,rfl⟩,λ b z=>absurd z (noA b),e0.bs,e0.bsz,λ b _ _=>noA b,λ b z=>absurd z (noA b),e0.funs,e0.frf⟩,
  rfl,e0.bare,Un.kept hk,⟨_,x.toInCall.ns,λ i y v h1 h2 h3=>?_⟩,λ y c h=>⟨_,x.cell y c h⟩,e0.hok.fresh (u6 _),λ y c h=>?_,λ p hp=>absurd (show p∈([]:List (Addr×Obj)) from hp) (by simp),e0.hok.kept hk,?_⟩
 ·exact name_of_addr x.apart (PySem.mem_of_lookup h1) (PySem.mem_of_lookup h2)
 ·have hy:scope.names.lookup y=some .cell \/ scope.names.lookup y=some .free:=hy;rcases hy with hy|hy
  ·exact zen hy
  ·exact absurd rfl (S.nofree _ (PySem.mem_of_lookup hy))
 ·exact xR (x.above y c (PySem.mem_of_lookup h))
 ·have hi:i < vs.length:=by
   unfold start at h2;by_cases hi:i < vs.length
   ·exact hi
   ·rw [wK (by simpa using hi)] at h2;rw [xI] at h2;split at h2 <;> cases h2
  have ha:vs[i]?=some v:=by
   unfold start at h2;rw [wN (by simpa using hi),u8] at h2;cases e:vs[i]? with
  |none=>rw [e] at h2;cases h2
  |some a=>rw [e] at h2;cases h2;rfl
  obtain ⟨u,hu,rv⟩:=r.get ha;have hp:ps[i]?=some y:=by
   rw [<- S.pre,uaG (by lia)];exact h1
  have ndP:ps.Nodup:=by rw [<- S.pre];exact S.nd.sublist (List.take_sublist _ _)
  refine ⟨u,rv,?_⟩;rcases S.par y (wF hp) with k|k
  ·exact .inl ⟨k,zoj ndP hp hu k⟩
  ·obtain ⟨c,e⟩:=zen (n:=s.heap.objs.size+1) k;refine .inr ⟨.inl k,c,e,?_⟩;have q:=x.cell y c e;rw [zgi ndP hp hu (by show scope.names.lookup y≠_;rw [k];decide)] at q;exact q
 ·exact e0.hok.fresh (xR (x.above y c (PySem.mem_of_lookup h)))
 ·unfold start;show _=N.length;rw [vK,u5,yH];lia
theorem zna1 {CX:CXT} {P:Program} {k:Nat} {f:Addr} {name:Str} {params:Arguments} {dV kV doc pm cdv ct oc:Value} {an od:Option Addr}
  {osl:Array (Option Value)} {sp:Sp} (lk:K.lookup f=some ⟨oc,od,.func (PySem.W.fnOf name qual params body scope dV kV doc pm an cdv ct),osl⟩) (hcd:PySem.W.codeIn K cdv qual=true) (S:FnScope N ps scope)
  (len:∀ vs H Q E,sp vs H Q E->vs.length=ps.length)
  (hbody:∀ (A:Around) (outer:List Env) (s:Shared) (H:Hp) (vs:List V) (Q:VK) (E:XK),Room k (A.deeper (envOfC qual scope s.heap.objs.size f cdv))->sp vs H Q E ->
   ∃ t,PSs (cxOf CX P w K mg base N qual scope f cdv A outer s H E) body t/\t { nx:=λ _ H'=>Q .non H',rt:=Q } (start N vs) H) :
  FnOk P w K mg base CX (k+1) f (PySem.W.fnOf name qual params body scope dV kV doc pm an cdv ct) ps sp:=by
 refine ⟨len,λ A outer s H args us vs Q E hr e0 hb r hsp=>?_⟩;have hl:=len _ _ _ _ hsp;have KX:K.In s.heap:=e0.mod.kin.keeps λ b o e=>(e0.bs b o e).1;have lim:s.heap.NoLimit:=e0.mod.nolimit.keeps λ b o e=>(e0.bs b o e).1;have hkind:∀ y∈ps.zip us,scope.names.lookup y.1=some .local \/ (scope.names.lookup y.1=some .cell/\((cellsFrom (s.heap.objs.size+1) scope.names []).lookup y.1).isSome=true):=λ ⟨n,v⟩ hy=>by
  rcases S.par n (z5 hy).1 with q|q
  ·exact .inl q
  ·exact .inr ⟨q,PySem.W.cellsFrom_some _ _ _ (.inl q)⟩
 refine codeAny_call_function hr.depth (KX _ _ lk) rfl S.co S.gen rfl (PySem.W.codeRec_of KX hcd) (hb _ _ _ _ ?_);refine wpAny_newFunctionEnv_cells S.kind hkind λ env he s1 x=>?_;subst he;refine ⟨lim.keeps x.toInCall.keep,codeAny_func ?_⟩;obtain ⟨t,ht,hq⟩:=hbody A outer s H vs Q E (hr.deeper _) hsp;have I:Inv (cxOf CX P w K mg base N qual scope f cdv A outer s H E) [] (start N vs) H s1:=zhq S hr.hd e0 hl r x;refine wpAny_mono (ht [] s1 (start N vs) H _ I hq) (λ fl s' hs=>?_) λ e s' hs=>hs;have fin:∀ {Y':St} {H':Hp} {v:V} {u:Value},Inv (cxOf CX P w K mg base N qual scope f cdv A outer s H E) [] Y' H' s'->RelV v u->Q v H'->CE outer P w H s Q u s' :=
  λ {Y' H' v u} J rv q=>⟨v,H',J.os,J.bare,J.base,J.hok,rv,q⟩
 cases fl with
|ret u =>
  obtain ⟨v,Y',H',J,rv,q⟩:=hs;exact fin J rv q
|next =>
  obtain ⟨Y',H',J,q⟩:=hs;exact fin (v:=V.non) (u:=xB) J rfl q
|brk =>
  obtain ⟨_,_,_,q⟩:=hs;exact False.elim q
|cont =>
  obtain ⟨_,_,_,q⟩:=hs;exact False.elim q
section
variable {X:Cx} {x:Str} {p pos:Pos} {e:Expr} {es:List Expr} {t:TA} {id T:String} {r:List V->Hp->VK->Prop}
def tCB (r:List V->Hp->VK->Prop) (t:TA):TE:=λ Y H Q=>t Y H λ vs H1=>r vs H1 Q
theorem zq0 (hc:CallR X (.builtin id) r) (hg:Gl X x) (hm:X.mg x=none) (hv:bootBuiltins x=some (.builtin id)) (ha:PA X (e :: es) t) (hn:x ≠ "__name__":=by decide) (hdb:(x == ("__debug__":Str))=false:=by decide)
  (he:starEach (e :: es) X.env=(false,eval e X.env) :: starEach es X.env:=by rfl) (hpl:(backTo pos (starEach es X.env)).any (·.1)=false:=by rfl):PE X (.Call (.Name x p) (e :: es) [] pos) (tCB r t):=by
 intro pins s Y H Q I h;refine wpAny_Call_Name_kw (zzj I hg hm hv ?_ hn hdb);exact PyProof.Rows.callWith_builtin1 (thn (ha pos pins s Y H _ I h) λ us s1 ⟨vs,H1,I1,r1,q1⟩=>hc pins s1 Y H1 vs us Q I1 r1 q1) he hpl
theorem zm5 (hc:CallR X (.type T) r) (hg:Gl X x) (hm:X.mg x=none) (hv:bootBuiltins x=some (.type T)) (ha:PA X (e :: es) t) (hn:x ≠ "__name__":=by decide) (hdb:(x == ("__debug__":Str))=false:=by decide)
  (he:starEach (e :: es) X.env=(false,eval e X.env) :: starEach es X.env:=by rfl) (hpl:(backTo pos (starEach es X.env)).any (·.1)=false:=by rfl):PE X (.Call (.Name x p) (e :: es) [] pos) (tCB r t):=by
 intro pins s Y H Q I h;refine wpAny_Call_Name_kw (zzj I hg hm hv ?_ hn hdb);exact PyProof.Rows.callWith_type1 (thn (ha pos pins s Y H _ I h) λ us s1 ⟨vs,H1,I1,r1,q1⟩=>hc pins s1 Y H1 vs us Q I1 r1 q1) he hpl
end
end _2
namespace HT
open PySem PyProof.Rows
variable {hi lo:Option Int} {sl:Addr} {vl vu:Value}
theorem zay (A:Around) (s:Shared) (a:Int) (t:Tok) (c:Int) (u:Tok):∃ e,SeqAt.EqAt A s (.int a t) (.int c u) e/\(e=true ↔ a=c) :=
 ⟨(a == c),SeqAt.EqAt.int_int a t c u,by simp⟩
section
variable {prog:Program} {w:World} {A:Around} {E:Value->Shared->Prop} {s:Shared}
theorem cat_tup {t b:Addr} {vs ws:List Value} {Q:Value->Shared->Prop} (ht:IsTup s.heap t vs.toArray) (hb:IsTup s.heap b ws.toArray) (hv:vs≠[])
  (h1:ws=[]->Q (.ref t) s) (h2:ws≠[]->Q (.ref s.heap.objs.size) { s with heap:=s.heap.push { cls:=.type "tuple",data:=.seq (vs++ws).toArray } })
  (hsz:vs.length+ws.length<=sizeLine):wpAny (model prog w) A (binaryOp .Add (.ref t) (.ref b)) Q E s:=by
 obtain ⟨⟨cls,dd,data,sl⟩,ho,hc,n,hd⟩:=id ht;obtain ⟨⟨cls2,dd2,data2,sl2⟩,ho2,hc2,n2,hd2⟩:=id hb;simp only at hc hd hc2 hd2;subst hc hd hc2 hd2;have e:vs.toArray++ws.toArray=(vs++ws).toArray:=by simp
 by_cases hw:ws=[]
 ·exact concat_meets ⟨_,ho,rfl⟩ ⟨_,ho2,rfl⟩ noFill_tuple_add seq_tuple_add ğo ğl (ğk _ _)
   (tuple_addW1 t b vs.toArray ws.toArray n n2 dd dd2 sl sl2 (by simpa using hv) (by simp [hw])) ⟨ho,ho2,h1 hw⟩
 ·refine concat_meets ⟨_,ho,rfl⟩ ⟨_,ho2,rfl⟩ noFill_tuple_add seq_tuple_add ğo ğl (ğk _ _)
   (tuple_addW2 t b vs.toArray ws.toArray n n2 dd dd2 sl sl2 (by simpa using hv) (by simpa using hw) (by rw [vT,vT];exact hsz)) ⟨ho,ho2,?_⟩
  rw [e];exact h2 hw
def sIx (n d:Nat):Option Int->Nat
|none=>d
|some v=>if v < 0 then (v+(n:Int)).toNat else min v.toNat n
theorem sIx_none (n d:Nat):sIx n d none=d:=rfl
theorem sIx_nat (n d k:Nat):sIx n d (some (k:Int))=min k n:=by
 show (if (k:Int) < 0 then ((k:Int)+(n:Int)).toNat else min (k:Int).toNat n)=min k n;rw [if_neg (by lia),vR]
theorem zp81 (n d:Nat) (hd:d<=n) (o:Option Int):sIx n d o<=n:=by
 cases o with
|none=>exact hd
|some v =>
  show (if v < 0 then (v+(n:Int)).toNat else min v.toNat n)<=n;by_cases hv:v < 0
  ·rw [if_pos hv];lia
  ·rw [if_neg hv];exact Nat.min_le_right _ _
theorem zds (v:Int) (n d:Nat):(if v < 0 then max (v+(n:Int)) 0 else min v (n:Int))=((sIx n d (some v):Nat):Int):=by
 show (if v < 0 then max (v+(n:Int)) 0 else min v (n:Int))=(((if v < 0 then (v+(n:Int)).toNat else min v.toNat n):Nat):Int)
 by_cases hv:v < 0
 ·simp only [if_pos hv];lia
 ·simp only [if_neg hv];lia
theorem ztl (lo hi:Option Int) (n:Nat):Builtin.Slice.sliceAdjust lo hi 1 (n:Int)=(((sIx n 0 lo:Nat):Int),((sIx n n hi:Nat):Int)):=by
 have h1:¬ ((1:Int) < 0):=by lia
 unfold Builtin.Slice.sliceAdjust;simp only [h1,if_false];refine Prod.ext ?_ ?_
 ·cases lo with
 |none=>rfl
 |some v=>exact zds v n 0
 ·cases hi with
 |none=>rfl
 |some v=>exact zds v n n
theorem ztm (i j:Nat):Builtin.Slice.slicePlaces (i:Int) (j:Int) 1=j - i:=by
 unfold Builtin.Slice.slicePlaces;have h1:(1:Int) > 0:=by lia
 simp only [h1,if_true,Int.ediv_one];split <;> lia
theorem zze {v:Value} {o:Option Int} {Q:Option Int->Shared->Prop} (p:IsPart v o) (h:Q o s):wpAny (model prog w) A (Builtin.Slice.slicePartIndex v) Q E s:=by
 cases p with
|none=>exact slicePart_none h
|int i t=>exact slicePart_int h
theorem zra {n:Nat} {Q:Int×Int×Nat->Shared->Prop} (hs:s.heap.IsSliceOf sl vl vu .none) (pl:IsPart vl lo) (pu:IsPart vu hi)
  (h:Q (((sIx n 0 lo:Nat):Int),1,sIx n n hi - sIx n 0 lo) s):wpAny (model prog w) A (Builtin.Slice.sliceApplied (.ref sl) (pure (n:Int))) Q E s:=by
 obtain ⟨os,hos,hcs,hds⟩:=id hs;unfold Builtin.Slice.sliceApplied Builtin.Slice.sliceFields;refine wpAny_bind (wpAny_bind (wpAny_field hos hds (x:=vl) rfl (wpAny_bind (wpAny_field hos hds (x:=vu) rfl (wpAny_bind (wpAny_field hos hds (x:=.none) rfl (wpAny_pure ?_)))))));refine wpAny_bind (slicePart_none ?_);show wpAny _ _ (if ((1:Int) == 0)=true then _ else _) _ _ s;rw [if_neg (by decide)];refine wpAny_bind (zze pl (wpAny_bind (zze pu (wpAny_bind (wpAny_pure ?_)))));show wpAny _ _ (match Builtin.Slice.sliceAdjust lo hi 1 (n:Int) with|(lo,hi)=>pure (lo,(1:Int),Builtin.Slice.slicePlaces lo hi 1)) _ _ s;rw [ztl lo hi n];show wpAny _ _ (pure (((sIx n 0 lo:Nat):Int),(1:Int),Builtin.Slice.slicePlaces ((sIx n 0 lo:Nat):Int) ((sIx n n hi:Nat):Int) 1)) _ _ s;rw [ztm];exact wpAny_pure h
theorem zbw (xs:Array Value) (i k:Nat):((u3 k).filterMap λ (m:Nat)=>xs[((i:Int)+(m:Int) * 1).toNat]?).toArray=((xs.toList.drop i).take k).toArray:=by
 have e:(λ (m:Nat)=>xs[((i:Int)+(m:Int) * 1).toNat]?)=λ m=>xs[i+m]?:=by
  funext m;have:((i:Int)+(m:Int) * 1).toNat=i+m:=by lia
  rw [this]
 rw [e];have:=pick_run xs i k;rw [uaH] at this;have e2:((λ x=>xs[x]?) ∘ λ x=>i+x)=λ m=>xs[i+m]?:=rfl;rw [e2] at this;rw [this]
theorem getItem_tuple_cut {t:Addr} {items:Array Value} {Q:Value->Shared->Prop} (ht:IsTup s.heap t items) (hs:s.heap.IsSliceOf sl vl vu .none) (pl:IsPart vl lo) (pu:IsPart vu hi)
  (hw:¬ (sIx items.size 0 lo=0/\sIx items.size items.size hi=items.size))
  (h:Q (.ref s.heap.objs.size) { s with heap:=s.heap.push { cls:=.type "tuple",data:=.seq ((items.toList.drop (sIx items.size 0 lo)).take (sIx items.size items.size hi - sIx items.size 0 lo)).toArray } })
  (hsz:items.size<=sizeLine):wpAny (model prog w) A (getItem (.ref t) (.ref sl)) Q E s:=by
 have htake:sizeOk (.seq ((items.toList.drop (sIx items.size 0 lo)).take (sIx items.size items.size hi - sIx items.size 0 lo)).toArray):=by
  show ((items.toList.drop (sIx items.size 0 lo)).take (sIx items.size items.size hi - sIx items.size 0 lo)).toArray.size<=sizeLine;rw [vT,wM,xS,wT];lia
 have hj:sIx items.size items.size hi<=items.size:=zp81 _ _ (u6 _) hi;obtain ⟨os,hos,hcs,hds⟩:=id hs;have hTs:s.TypeIs (.ref sl) "slice":=⟨os,hos,hcs⟩
 unfold getItem
 try with_reducible refine wpAny_holding ?_
 first|refine wpAny_bind (wpAny_pure ?_)|skip
 refine wpAny_bind (wpAny_sequenceKey ht.typeIs (by decide) ?_);refine wpAny_bind (wpAny_callSpecial?_slot (name:=xJ "__getitem__") ht.typeIs PyProof.Rows.slot_tuple_getitem
  (wpAny_call_entry PyProof.Rows.slot_tuple_getitem ht.typeIs entry_tuple_getitem ?_ (args_tuple_getitem _ _)))
 show wpAny _ _ (Builtin.Tuple.tupleItemsOf (.ref t) >>= _) _ _ s;refine wpAny_bind (tupleItemsOf_ ht ?_);refine wpAny_bind (wpAny_typeOf hTs ?_);rw [if_pos (by decide)];refine wpAny_bind (zra hs pl pu ?_);have hno:¬ ((((sIx items.size 0 lo:Nat):Int) == 0 && (1:Int) == 1 && (sIx items.size items.size hi - sIx items.size 0 lo) == items.size)=true):=by
  intro q;rw [zE,zE] at q;have q1:((sIx items.size 0 lo:Nat):Int)=0:=eq_of_beq q.1.1;have q2:sIx items.size items.size hi - sIx items.size 0 lo=items.size:=eq_of_beq q.2;exact hw ⟨by lia,by lia⟩
 show wpAny _ _ (if (((sIx items.size 0 lo:Nat):Int) == 0 && (1:Int) == 1 && (sIx items.size items.size hi - sIx items.size 0 lo) == items.size)=true then _ else _) _ _ s;rw [if_neg hno,zbw]
 first
 |exact wpAny_bind (m:=Builtin.Tuple.tupleExact _) (wpAny_newObj_type (wpAny_pure ⟨_,rfl,wpAny_pure h⟩) htake)
 |exact wpAny_bind (m:=Builtin.Tuple.tupleExact _) (wpAny_newObj_type (wpAny_bind (wpAny_pure (wpAny_pure ⟨_,rfl,wpAny_pure h⟩))) htake)
 |exact wpAny_bind (wpAny_bind (m:=Builtin.Tuple.tupleExact _) (wpAny_newObj_type (wpAny_pure (wpAny_pure ⟨_,rfl,wpAny_pure h⟩)) htake))
 |exact wpAny_bind (wpAny_bind (m:=Builtin.Tuple.tupleExact _) (wpAny_newObj_type (wpAny_pure ⟨_,rfl,wpAny_pure h⟩) htake))
end
end HT
namespace _2
open PySem PySem.Spec PyProof.Rows
variable {Y:St} {i:Int} {its us:List Value} {n:Nat} {pins:List (Addr×Obj)} {s:Shared} {u:Value} {x y:V}
abbrev TO:=St->Hp->(Option Int->Hp->Prop)->Prop
noncomputable def PO (X:Cx) (e:Option Expr) (t:TO):Prop :=
 ∀ (pins:List (Addr×Obj)) (s:Shared) (Y:St) (H:Hp) (Q:Option Int->Hp->Prop),Inv X pins Y H s->t Y H Q ->
  wpAny (model X.prog X.w) X.A (evalPart e X.env) (λ u s'=>∃ o H',Inv X pins Y H' s'/\IsPart u o/\Q o H') X.xe s
def zrr:TO:=λ _ H Q=>Q none H
def zyd1 (t:TE):TO:=λ Y H Q=>t Y H λ x H1=>∃ i,x=.int i/\Q (some i) H1
theorem zj3 {ns:List Int}:∀ {us:List Value},Vals (ns.map V.int) us->IntsAre us ns:=by
 induction ns with
|nil=>intro us r;rw [x8] at r;cases r;exact .nil
|cons n ns ih =>
  intro us r;rw [vW] at r;cases r with
 |cons r1 r2 =>
   obtain ⟨t,e⟩:=r1;subst e;exact .cons n t (ih r2)
section
variable {X:Cx} {e:Expr} {te:TE} {lo hi:Option Expr} {tl th:TO} {pos p2:Pos}
theorem zfn:PO X none zrr:=by
 intro pins s Y H Q I h;rw [evalPart_none];exact wpAny_pure ⟨none,H,I,.none,h⟩
theorem zx31 (h:PE X e te):PO X (some e) (zyd1 te):=by
 intro pins s Y H Q I hw;rw [evalPart_some];refine thn (h pins s Y H _ I hw) λ u s1 hz=>?_;obtain ⟨x,H1,I1,r1,q1⟩:=hz;obtain ⟨i,rfl,q⟩:=q1;obtain ⟨t,rfl⟩:=r1;exact ⟨some i,H1,I1,.int i t,q⟩
noncomputable def SlR (X:Cx) (r:V->Option Int->Option Int->Hp->VK->Prop):Prop :=
 ∀ (pins:List (Addr×Obj)) (s:Shared) (Y:St) (H:Hp) (x:V) (v vl vu:Value) (lo hi:Option Int) (sl:Addr) (Q:VK),Inv X pins Y H s->RelV x v->s.heap.IsSliceOf sl vl vu .none->IsPart vl lo->IsPart vu hi->r x lo hi H Q ->
  ∃ T id,typeLookup (.type T) "__getitem__"=pure (some (.builtin id))/\s.TypeIs v T/\wpAny (model X.prog X.w) X.A (getItem v (.ref sl)) (EP X pins Y Q) X.xe s
theorem SlR.or {r r':V->Option Int->Option Int->Hp->VK->Prop} (h:SlR X r) (h':SlR X r'):SlR X (λ x lo hi H Q=>r x lo hi H Q \/ r' x lo hi H Q):=by
 intro pins s Y H x v vl vu lo hi sl Q I rx hs pl pu q;rcases q with q|q
 ·exact h pins s Y H x v vl vu lo hi sl Q I rx hs pl pu q
 ·exact h' pins s Y H x v vl vu lo hi sl Q I rx hs pl pu q
noncomputable def tSl (r:V->Option Int->Option Int->Hp->VK->Prop) (te:TE) (tl th:TO):TE:=λ Y H Q=>te Y H λ x H1=>tl Y H1 λ l H2=>th Y H2 λ u H3=>r x l u H3 Q
theorem zpo {r:V->Option Int->Option Int->Hp->VK->Prop} (hr:SlR X r) (he:PE X e te) (hl:PO X lo tl) (hu:PO X hi th):PE X (.Subscript e (.Slice lo hi none p2) pos) (tSl r te tl th):=by
 intro pins s Y H Q I h;refine Subscript_ (thn (he pins s Y H _ I h) λ v s1 hz=>?_);obtain ⟨x,H1,I1,r1,q1⟩:=hz;refine wpAny_Slice (thn (hl pins s1 Y H1 _ I1 q1) λ vl s2 ⟨l,H2,I2,pl,q2⟩=>thn (hu pins s2 Y H2 _ I2 q2) λ vu s3 hz=>?_);obtain ⟨u,H3,I3,pu,q3⟩:=hz;rw [evalPart_none];refine wpAny_pure ?_;have I4:Inv X pins Y H3 { s3 with heap:=s3.heap.push { cls:=.type "slice",data:=.fields #[vl,vu,.none] } }:=I3.kept (t':=s3.toks) λ b ob q=>vM _ q;obtain ⟨T,id,hT,ht,hg⟩:=hr pins { s3 with heap:=s3.heap.push { cls:=.type "slice",data:=.fields #[vl,vu,.none] } } Y H3 x v vl vu l u s3.heap.objs.size Q I4 r1 (Heap.IsSliceOf.new ..) pl pu q3;show wpAny (model X.prog X.w) X.A (subscriptTail e (.Slice lo hi none p2) v (.ref s3.heap.objs.size)) (EP X pins Y Q) X.xe { s3 with heap:=s3.heap.push { cls:=.type "slice",data:=.fields #[vl,vu,.none] } };exact tail_any (ops:=[.ref s3.heap.objs.size,v]) ht hT hg (by with_unfolding_all rfl)
noncomputable def cutV (xs:List V) (lo hi:Option Int):List V:=(xs.drop (HT.sIx xs.length 0 lo)).take (HT.sIx xs.length xs.length hi - HT.sIx xs.length 0 lo)
theorem zsc (xs:List V) (lo hi:Option Int):(cutV xs lo hi).length<=xs.length:=by
 unfold cutV;rw [wM,xS];lia
noncomputable def rSlT (K:Fg):V->Option Int->Option Int->Hp->VK->Prop:=λ x lo hi H Q=>∃ a xs,x=.ref a/\SqT K H a xs /\
 ¬ (HT.sIx xs.length 0 lo=0/\HT.sIx xs.length xs.length hi=xs.length)/\∀ p,H p=none->Q (.ref p) (upd H p (.tup (cutV xs lo hi)))
theorem zn91:SlR X (rSlT X.K):=by
 intro pins s Y H x v vl vu lo hi sl Q I rx hs pl pu h;obtain ⟨a,xs,rfl,hx,hw,q⟩:=h;cases rx;obtain ⟨its,r,ht,hz⟩:=I.tuple hx;have hlen:its.toArray.size=xs.length:=by rw [vT];exact r.length.symm
 refine ⟨"tuple",_,PyProof.Rows.slot_tuple_getitem.lookup,ht.typeIs,?_⟩;refine HT.getItem_tuple_cut ht hs pl pu (by rw [hlen];exact hw) ?_ (by rw [hlen];exact hz);rw [hlen];refine ⟨.ref s.heap.objs.size,_,I.laid (t':=s.toks) (o:=.tup (cutV xs lo hi)) (λ b ob q=>vM _ q) (u6 _) ?_,rfl,q _ (I.hok.fresh (u6 _))⟩;exact ⟨wU (zsc xs lo hi) hz,_,(r.drop (HT.sIx xs.length 0 lo)).take (HT.sIx xs.length xs.length hi - HT.sIx xs.length 0 lo),IsTup.new _ _⟩
noncomputable def zya1 (K:Fg):R2:=λ x y H Q=>∃ a b xs ys,x=.ref a/\y=.ref b/\SqT K H a xs/\SqT K H b ys/\xs≠[]/\xs.length+ys.length<=sizeLine /\
 (ys=[]->Q (.ref a) H)/\(ys≠[]->∀ p,H p=none->Q (.ref p) (upd H p (.tup (xs++ys))))
theorem Vals.nil_iff {xs:List V} (r:Vals xs us):us=[] ↔ xs=[]:=by
 cases r with
|nil=>simp
|cons _ _=>simp
theorem zrz:OpR X (binaryOp .Add) (zya1 X.K):=by
 intro pins s Y H x y v u Q I rx ry h;obtain ⟨a,b,xs,ys,rfl,rfl,ha,hb,hx,hz,q1,q2⟩:=h;cases rx;cases ry;obtain ⟨its,r1,p1,_⟩:=I.tuple ha;obtain ⟨its2,r2,p2,_⟩:=I.tuple hb;refine HT.cat_tup p1 p2 (λ z=>hx (r1.nil_iff.mp z)) (λ z=>⟨.ref a,H,I,rfl,q1 (r2.nil_iff.mp z)⟩) (λ z=>?_) (by rw [<- r1.length,<- r2.length];exact hz);refine ⟨.ref s.heap.objs.size,_,I.laid (t':=s.toks) (o:=.tup (xs++ys)) (λ b ob q=>vM _ q) (u6 _) ?_,rfl,q2 (λ w=>z (r2.nil_iff.mpr w)) _ (I.hok.fresh (u6 _))⟩;exact ⟨by rw [vK];exact hz,_,r1.append r2,IsTup.new _ _⟩
end
def ixN (n:Nat) (i:Int):Option Nat:=if 0<=i then (if i < n then some i.toNat else none) else if -(n:Int)<=i then some (i+n).toNat else none
def atI {α:Type} (xs:List α) (i:Int):Option α:=(ixN xs.length i).bind λ j=>xs[j]?
theorem zhs {j:Nat} (h:ixN n i=some j):seqIndex? i n=some j/\j < n/\-(n:Int)<=i/\i < n:=by
 unfold ixN at h;by_cases h0:0<=i
 ·rw [if_pos h0] at h;by_cases h1:i < n
  ·rw [if_pos h1] at h;have e:i.toNat=j:=wI.inj h;exact ⟨by rw [seqIndex_of h0 h1,e],by lia,by lia,h1⟩
  ·rw [if_neg h1] at h;cases h
 ·rw [if_neg h0] at h;by_cases h1:-(n:Int)<=i
  ·rw [if_pos h1] at h;have e:(i+n).toNat=j:=wI.inj h;exact ⟨by rw [seqIndex_neg (by lia) h1,e],by lia,h1,by lia⟩
  ·rw [if_neg h1] at h;cases h
theorem zsn {α:Type} {xs:List α} {v:α} (h:atI xs i=some v):∃ j,seqIndex? i xs.length=some j/\xs[j]?=some v/\j < xs.length/\-(xs.length:Int)<=i/\i < xs.length:=by
 unfold atI at h;cases e:ixN xs.length i with
|none=>rw [e] at h;cases h
|some j =>
  rw [e] at h;obtain ⟨h1,h2,h3,h4⟩:=zhs e;exact ⟨j,h1,h,h2,h3,h4⟩
theorem ztc {α:Type} {xs:List α} {j:Nat} {v:α} (h:xs[j]?=some v):atI xs (j:Int)=some v:=by
 have hj:j < xs.length:=(vZ.mp h).1;have e:ixN xs.length (j:Int)=some j:=by
  unfold ixN;rw [if_pos (by lia),if_pos (by lia)];simp
 unfold atI;rw [e];exact h
def zwr (b:Expr):Prop:=∀ o i,subscripted b false o i=operate [o,i] (getItem o i)
noncomputable def IxR (X:Cx) (r:R2):Prop :=
 ∀ (value slice:Expr) (pins:List (Addr×Obj)) (s:Shared) (Y:St) (H:Hp) (x y:V) (v u:Value) (Q:VK),Inv X pins Y H s->RelV x v->RelV y u->r x y H Q ->
  subscripted slice false v u=operate [v,u] (getItem v u)->wpAny (model X.prog X.w) X.A (subscriptTail value slice v u) (EP X pins Y Q) X.xe s
noncomputable def MtR (X:Cx) (id:String) (r:V->List V->Hp->VK->Prop):Prop :=
 ∀ (pins:List (Addr×Obj)) (s:Shared) (Y:St) (H:Hp) (x:V) (xs:List V) (v:Value) (us:List Value) (Q:VK),Inv X pins Y H s->RelV x v->Vals xs us->r x xs H Q ->
  wpAny (model X.prog X.w) X.A (call (.builtin id) (v :: us)) (EP X pins Y Q) X.xe s
section
variable {X:Cx} {a b:Expr} {ta tb:TE} {pos:Pos}
theorem IxR.or {r r':R2} (h:IxR X r) (h':IxR X r'):IxR X (λ x y H Q=>r x y H Q \/ r' x y H Q):=by
 intro value slice pins s Y H x y v u Q I rx ry q hs;rcases q with q|q
 ·exact h value slice pins s Y H x y v u Q I rx ry q hs
 ·exact h' value slice pins s Y H x y v u Q I rx ry q hs
theorem zhd1 {r:R2} (hr:IxR X r) (ha:PE X a ta) (hb:PE X b tb) (hs:zwr b):PE X (.Subscript a b pos) (tOp r ta tb):=by
 intro pins s Y H Q I h;exact Subscript_ (binT ha hb I h λ v u s2 x y H2 I2 rx ry q=>hr a b pins s2 Y H2 x y v u Q I2 rx ry q (hs _ _))
def rIxL (K:Fg):R2:=λ x y H Q=>∃ p xs i v,x=.ref p/\y=.int i/\SqL K H p xs/\atI xs i=some v/\Q v H
def rIxT (K:Fg):R2:=λ x y H Q=>∃ p xs i v,x=.ref p/\y=.int i/\SqT K H p xs/\atI xs i=some v/\Q v H
def rIxS:R2:=λ x y H Q=>∃ z i c,x=.str z/\y=.int i/\z.length<=sizeLine/\atI z.cps.toList i=some c/\Q (.str ⟨#[c]⟩) H
theorem zd31:IxR X (rIxL X.K):=by
 intro value slice pins s Y H x y v u Q I rx ry h hs;obtain ⟨p,xs,i,z,rfl,rfl,hq,he,q⟩:=h;cases rx;obtain ⟨t,rfl⟩:=ry;obtain ⟨its,r,pl,hz⟩:=I.list hq;obtain ⟨j,h1,h2,h3,h4,h5⟩:=zsn he;obtain ⟨w,ew,rw'⟩:=r.get h2;have hl:=r.length;have hn:=zsg;have fin:EP X pins Y Q w s:=⟨z,H,I,rw',q⟩
 by_cases h0:0<=i
 ·have hj:i.toNat=j:=by
   rw [seqIndex_of h0 h5] at h1;exact wI.inj h1
  exact item_listR pl.isList h0 (by lia) (by rw [hj];simpa using ew) fin hs
 ·have hj:(i+(its.toArray.size:Int)).toNat=j:=by
   rw [seqIndex_neg (by lia) h4] at h1;rw [vT,<- hl];exact wI.inj h1
  exact subscriptTail_builtinR (x:=w) pl.isList.typeIs slot_list_getitem.lookup
   (wpAny_getItem_list_neg (Q:=λ r s'=>r=w/\EP X pins Y Q r s') pl.isList (by lia) (by rw [vT] <;> lia) (by lia) (by rw [hj];simpa using ew) ⟨rfl,fin⟩) hs
theorem zj91:IxR X (rIxT X.K):=by
 intro value slice pins s Y H x y v u Q I rx ry h hs;obtain ⟨p,xs,i,z,rfl,rfl,hq,he,q⟩:=h;cases rx;obtain ⟨t,rfl⟩:=ry;obtain ⟨its,r,pl,hz⟩:=I.tuple hq;obtain ⟨j,h1,h2,h3,h4,h5⟩:=zsn he;obtain ⟨w,ew,rw'⟩:=r.get h2;have hl:=r.length;have hn:=zsg;have fin:EP X pins Y Q w s:=⟨z,H,I,rw',q⟩
 exact subscriptTail_builtinR (x:=w) pl.typeIs slot_tuple_getitem.lookup
  (getItem_tuple (j:=j) (Q:=λ r s'=>r=w/\EP X pins Y Q r s') pl (by lia) (by lia) (by rw [vT,<- hl];exact h1) (by simpa using ew) ⟨rfl,fin⟩) hs
theorem zw71:IxR X rIxS:=by
 intro value slice pins s Y H x y v u Q I rx ry h hs;obtain ⟨z,i,c,rfl,rfl,hz,he,q⟩:=h;obtain ⟨t,rfl⟩:=rx;obtain ⟨t',rfl⟩:=ry;obtain ⟨j,h1,h2,h3,h4,h5⟩:=zsn he;have hl:z.cps.toList.length=z.length:=by simp [Str.length]
 rw [hl] at h1 h4 h5;have hn:=zsg;exact tail_any (typeIs_str s z t) slot_str_getitem.lookup (getItem_str (c:=c) (by
  have e1:decide (i < -(2 ^ 63:Int))=false:=decide_eq_false (by lia);have e2:decide (i ≥ 2 ^ 63)=false:=decide_eq_false (by lia);rw [e1,e2,Bool.or_false]) (by rw [h1];simpa using h2) ⟨.str ⟨#[c]⟩,H,I.tok _,⟨_,rfl⟩,q⟩) hs
def rIx (K:Fg):R2:=λ x y H Q=>rIxL K x y H Q \/ rIxT K x y H Q \/ rIxS x y H Q
theorem zf81:IxR X (rIx X.K):=zd31.or (zj91.or zw71)
theorem zin (its:List Value) (n j:Nat) (u:Value):Obj.mapSeq (·.setIfInBounds j u) { cls:=.type "list",data:=.seq its.toArray n }={ cls:=.type "list",data:=.seq (its.set j u).toArray n }:=by
 simp [Obj.mapSeq]
theorem Inv.lst {pins:List (Addr×Obj)} {Y:St} {H:Hp} {s:Shared} {p:Addr} {xs:List V} (I:Inv X pins Y H s) (h:H p=some (.lst xs)) :
  ∃ (its:List Value) (n:Nat),Vals xs its/\s.heap.get? p=some { cls:=.type "list",data:=.seq its.toArray n }/\xs.length<=sizeLine:=by
 obtain ⟨z,its,n,r,e⟩:=I.hok p _ h;exact ⟨its,n,r,e,z⟩
theorem Inv.lstUpd {H:Hp} {p:Addr} {xs ys:List V} {its its':List Value} {n n':Nat} {f:Obj->Obj} (I:Inv X pins Y H s) (h:H p=some (.lst xs))
  (ho:s.heap.get? p=some { cls:=.type "list",data:=.seq its.toArray n }) (hf:f { cls:=.type "list",data:=.seq its.toArray n }={ cls:=.type "list",data:=.seq its'.toArray n' }) (r:Vals ys its') (hz:ys.length<=sizeLine) (t:Nat) :
  Inv X pins Y (upd H p (.lst ys)) { s with heap:=s.heap.update p f,toks:=t }:=by
 have e:(s.heap.update p f).get? p=some { cls:=.type "list",data:=.seq its'.toArray n' }:=by
  rw [uaI f ho (by rw [hf] <;> rfl),hf]
 refine I.write (x:=p) (e:=p) (by rw [h];trivial) (.inl rfl) (λ b u hb q=>(uaJ _ _ (Ne.symm hb)).trans q) ⟨_,e⟩ ?_;exact ⟨hz,its',n',r,e⟩
noncomputable def zpb1:V->V->V->Hp->(Hp->Prop)->Prop:=λ o i v H Q=>∃ p xs k j,o=.ref p/\i=.int k/\H p=some (.lst xs)/\ixN xs.length k=some j/\Q (upd H p (.lst (xs.set j v)))
theorem zjt:PSet X zpb1:=by
 intro pins s Y H o i v ov iv u Q I ro ri rv h;obtain ⟨p,xs,k,j,rfl,rfl,hp,hj,q⟩:=h;cases ro;obtain ⟨t,rfl⟩:=ri;obtain ⟨its,n,r,ho,hz⟩:=I.lst hp;obtain ⟨h1,h2,h3,h4⟩:=zhs hj;have hl:=r.length;have hn:=zsg;have I':Inv X pins Y (upd H p (.lst (xs.set j v))) { s with heap:=s.heap.update p (Obj.mapSeq (·.setIfInBounds j u)) } :=
  I.lstUpd hp ho (zin its n j u) (r.set rv j) (by rw [wD];exact hz) s.toks
 by_cases h0:0<=k
 ·have hk:k.toNat=j:=by
   rw [seqIndex_of h0 h4] at h1;exact wI.inj h1
  exact PySem.W.ki_setAt ho h0 (by lia) (by rw [vT,<- hl];exact h4) (by rw [hk];exact ⟨_,I',q⟩)
 ·have hk:(k+(its.toArray.size:Int)).toNat=j:=by
   rw [seqIndex_neg (by lia) h3] at h1;rw [vT,<- hl];exact wI.inj h1
  exact PySem.W.ki_setBack ho (by lia) (by rw [vT,<- hl];exact h3) (by lia) (by rw [hk];exact ⟨_,I',q⟩)
theorem zkg (lo hi:Option Int) (n:Nat):(sliceBounds lo hi none n).1=((HT.sIx n 0 lo:Nat):Int)/\(sliceBounds lo hi none n).2.1=((HT.sIx n n hi:Nat):Int)/\(sliceBounds lo hi none n).2.2=1:=by
 refine ⟨?_,?_,rfl⟩
 ·cases lo with
 |none=>simp [sliceBounds,HT.sIx]
 |some i =>
   simp only [sliceBounds,HT.sIx,Option.getD_none,show (1:Int) > 0 by decide,if_true];by_cases h:i < 0
   ·simp only [h,if_true] <;> lia
   ·simp only [h,if_false] <;> lia
 ·cases hi with
 |none=>simp [sliceBounds,HT.sIx]
 |some i =>
   simp only [sliceBounds,HT.sIx,Option.getD_none,show (1:Int) > 0 by decide,if_true];by_cases h:i < 0
   ·simp only [h,if_true] <;> lia
   ·simp only [h,if_false] <;> lia
theorem zrf (its:List Value) (lo hi:Option Int):slicePick its.toArray lo hi none=((its.drop (HT.sIx its.length 0 lo)).take (HT.sIx its.length its.length hi - HT.sIx its.length 0 lo)).toArray:=by
 obtain ⟨h1,h2,h3⟩:=zkg lo hi its.toArray.size;unfold slicePick;rw [h1,h2,h3];simp only [sliceRange_one,pick_run,vT] <;> rfl
noncomputable def rSlL (K:Fg):V->Option Int->Option Int->Hp->VK->Prop:=λ x lo hi H Q=>∃ a xs,x=.ref a/\SqL K H a xs/\∀ p,H p=none->Q (.ref p) (upd H p (.lst (cutV xs lo hi)))
theorem zvz:SlR X (rSlL X.K):=by
 intro pins s Y H x v vl vu lo hi sl Q I rx hs pl pu h;obtain ⟨a,xs,rfl,hx,q⟩:=h;cases rx;obtain ⟨its,r,ht,hz⟩:=I.list hx;have hlen:=r.length;refine ⟨"list",_,slot_list_getitem.lookup,ht.isList.typeIs,?_⟩;refine wpAny_getItem_list_slice ht.isList hs pl pu .none (by simp) ?_ (by rw [vT] <;> lia);rw [zrf,<- hlen];refine ⟨.ref s.heap.objs.size,_,I.laid (t':=s.toks) (o:=.lst (cutV xs lo hi)) (λ b ob q=>vM _ q) (u6 _) ?_,rfl,q _ (I.hok.fresh (u6 _))⟩;exact ⟨wU (zsc xs lo hi) hz,_,0,(r.drop (HT.sIx xs.length 0 lo)).take (HT.sIx xs.length xs.length hi - HT.sIx xs.length 0 lo),v4 _ rfl⟩
def zps:V->Bool
|.non=>true
|.bl _=>true
|.int _=>true
|.str _=>true
|_=>false
noncomputable def eqV:V->V->Bool
|.non,.non=>true
|.bl a,.bl b=>a == b
|.bl a,.int b=>(if a then 1 else 0) == b
|.int a,.bl b=>a == (if b then 1 else 0)
|.int a,.int b=>a == b
|.str a,.str b=>a == b
|_,_=>false
theorem zx61 {A:Around} {v:Value} (ry:RelV y u) (rx:RelV x v) (fy:zps y=true) (fx:zps x=true):SeqAt.EqAt A s u v (eqV y x):=by
 cases y with
|non =>
  cases ry;cases x with
 |non=>cases rx;exact SeqAt.EqAt.same _
 |bl b=>cases rx;exact SeqAt.EqAt.none_bool b
 |int b=>obtain ⟨t,rfl⟩:=rx;exact SeqAt.EqAt.none_int b t
 |str b=>obtain ⟨t,rfl⟩:=rx;exact SeqAt.EqAt.none_str b t
 |_=>exact absurd (show false=true from fx) vU
|bl a =>
  cases ry;cases x with
 |non=>cases rx;exact SeqAt.EqAt.bool_none a
 |bl b=>cases rx;exact SeqAt.EqAt.bool_bool a b
 |int b=>obtain ⟨t,rfl⟩:=rx;exact SeqAt.EqAt.bool_int a b t
 |str b=>obtain ⟨t,rfl⟩:=rx;exact SeqAt.EqAt.bool_str a b t
 |_=>exact absurd (show false=true from fx) vU
|int a =>
  obtain ⟨t',rfl⟩:=ry;cases x with
 |non=>cases rx;exact SeqAt.EqAt.int_none a t'
 |bl b=>cases rx;exact SeqAt.EqAt.int_bool a t' b
 |int b=>obtain ⟨t,rfl⟩:=rx;exact SeqAt.EqAt.int_int a t' b t
 |str b=>obtain ⟨t,rfl⟩:=rx;exact SeqAt.EqAt.int_str a t' b t
 |_=>exact absurd (show false=true from fx) vU
|str a =>
  obtain ⟨t',rfl⟩:=ry;cases x with
 |non=>cases rx;exact SeqAt.EqAt.str_none a t'
 |bl b=>cases rx;exact SeqAt.EqAt.str_bool a t' b
 |int b=>obtain ⟨t,rfl⟩:=rx;exact SeqAt.EqAt.str_int a t' b t
 |str b=>obtain ⟨t,rfl⟩:=rx;exact SeqAt.EqAt.str_str a t' b t
 |_=>exact absurd (show false=true from fx) vU
|_=>exact absurd (show false=true from fy) vU
noncomputable def eqU (x:V) (u:Value):Bool:=match u with
|.none=>eqV .non x
|.bool b=>eqV (.bl b) x
|.int i _=>eqV (.int i) x
|.str z _=>eqV (.str z) x
|_=>false
theorem zg21 (r:RelV y u) (f:zps y=true):eqU x u=eqV y x:=by
 cases y with
|non=>cases r;rfl
|bl b=>cases r;rfl
|int i=>obtain ⟨t,rfl⟩:=r;rfl
|str z=>obtain ⟨t,rfl⟩:=r;rfl
|_=>exact absurd (show false=true from f) vU
theorem zgf {x:V}:∀ {xs:List V} {us:List Value},Vals xs us->xs.all zps=true->us.any (eqU x)=xs.any λ y=>eqV y x
|_,_,.nil,_=>rfl
|y :: xs,u :: us,.cons r t,f=>by
  rw [z6,zE] at f;rw [xT,xT,zg21 r f.1,zgf t f.2]
theorem zja {A:Around} {s:Shared} {x:V} {v:Value} (rx:RelV x v) (fx:zps x=true):∀ {xs:List V} {us:List Value},Vals xs us->xs.all zps=true->∀ u∈us,SeqAt.EqAt A s u v (eqU x u)
|_,_,.nil,_=>λ u hu=>by cases hu
|y :: xs,u :: us,.cons r t,f=>λ u' hu=>by
  rw [z6,zE] at f;rcases vL.mp hu with rfl|hu
  ·rw [zg21 r f.1];exact zx61 r rx f.1 fx
  ·exact zja rx fx t f.2 u' hu
def inV (x:V) (xs:List V):Bool:=xs.any λ y=>eqV y x
noncomputable def rIn (K:Fg) (neg:Bool):R2:=λ x y H Q=>∃ p xs,y=.ref p/\(SqL K H p xs \/ SqT K H p xs)/\zps x=true/\xs.all zps=true/\Q (.bl (if neg then !inV x xs else inV x xs)) H
theorem zvp:OpR X (compareOp .In) (rIn X.K false):=by
 intro pins s Y H x y v u Q I rx ry h;obtain ⟨p,xs,rfl,hq,fx,fs,q⟩:=h;cases ry;rcases hq with hq|hq
 ·obtain ⟨its,r,pl,hz⟩:=I.list hq;refine SeqAt.in_listAt (eqU x) pl.isList (λ w hw=>zja rx fx r fs w (by simpa using hw)) ⟨.bl _,H,I,rfl,?_⟩;rw [show its.toArray.any (eqU x)=its.any (eqU x) by simp,zgf r fs];exact q
 ·obtain ⟨its,r,pl,hz⟩:=I.tuple hq;refine SeqAt.in_tupleAt (eqU x) pl (λ w hw=>zja rx fx r fs w (by simpa using hw)) ⟨.bl _,H,I,rfl,?_⟩;rw [show its.toArray.any (eqU x)=its.any (eqU x) by simp,zgf r fs];exact q
theorem zsh:OpR X (compareOp .NotIn) (rIn X.K true):=by
 intro pins s Y H x y v u Q I rx ry h;obtain ⟨p,xs,rfl,hq,fx,fs,q⟩:=h;cases ry;rcases hq with hq|hq
 ·obtain ⟨its,r,pl,hz⟩:=I.list hq;refine SeqAt.notIn_listAt (eqU x) pl.isList (λ w hw=>zja rx fx r fs w (by simpa using hw)) ⟨.bl _,H,I,rfl,?_⟩;rw [show its.toArray.any (eqU x)=its.any (eqU x) by simp,zgf r fs];exact q
 ·obtain ⟨its,r,pl,hz⟩:=I.tuple hq;refine SeqAt.notIn_tupleAt (eqU x) pl (λ w hw=>zja rx fx r fs w (by simpa using hw)) ⟨.bl _,H,I,rfl,?_⟩;rw [show its.toArray.any (eqU x)=its.any (eqU x) by simp,zgf r fs];exact q
theorem zig:OpR X (compareOp .NotIn) (λ x y H Q=>∃ i j,x=.str i/\y=.str j/\Q (.bl (!(!(Builtin.Str.occurrences j i 0 j.length 1).isEmpty))) H):=by
 intro pins s Y H x y v u Q I rx ry h;obtain ⟨i,j,rfl,rfl,q⟩:=h;obtain ⟨t,rfl⟩:=rx;obtain ⟨t',rfl⟩:=ry;exact notIn_str ⟨.bl _,H,I,rfl,q⟩
theorem CallR.or {f:Value} {r r':List V->Hp->VK->Prop} (h:CallR X f r) (h':CallR X f r'):CallR X f (λ xs H Q=>r xs H Q \/ r' xs H Q):=by
 intro pins s Y H xs us Q I rs q;rcases q with q|q
 ·exact h pins s Y H xs us Q I rs q
 ·exact h' pins s Y H xs us Q I rs q
theorem zqg:CallR X (.type "list") (λ xs H Q=>∃ p ys,xs=[.ref p]/\(SqL X.K H p ys \/ SqT X.K H p ys)/\∀ l,H l=none->Q (.ref l) (upd H l (.lst ys))):=by
 intro pins s Y H xs us Q I r h;obtain ⟨p,ys,rfl,hq,q⟩:=h;obtain ⟨u,rfl,rx⟩:=zup r;cases rx;have fin:∀ (its:List Value),Vals ys its->ys.length<=sizeLine->∀ (h':Heap) (c':Nat),(∀ b o',s.heap.get? b=some o'->h'.get? b=some o') ->
   h'.get? s.heap.objs.size=some { cls:=.type "list",dict:=none,data:=.seq its.toArray c',slots:=#[] }->EP X pins Y Q (.ref s.heap.objs.size) { s with heap:=h' }:=λ its r' hz h' c' kp e =>
  ⟨.ref s.heap.objs.size,_,I.laid (t':=s.toks) kp (u6 _) (show ObjOk X.prog X.w _ h' _ (.lst ys) from ⟨hz,its,c',r',e⟩),rfl,q _ (I.hok.fresh (u6 _))⟩
 rcases hq with hq|hq
 ·obtain ⟨its,r',pl,hz⟩:=I.list hq;have hlen:=r'.length;obtain ⟨o,ho,hc,n,hd⟩:=pl.isList;exact call_list_seq p (.inl rfl) ho hc hd (λ h' c' kp e=>fin its r' hz h' c' kp e) (by simp only [vT] <;> lia)
 ·obtain ⟨its,r',pl,hz⟩:=I.tuple hq;have hlen:=r'.length;obtain ⟨o,ho,hc,n,hd⟩:=pl;exact call_list_seq p (.inr rfl) ho hc hd (λ h' c' kp e=>fin its r' hz h' c' kp e) (by simp only [vT] <;> lia)
noncomputable def tyV (K:Fg) (T:String) (x:V) (H:Hp):Prop:=match x with
|.str _=>T = "str"
|.int _=>T = "int"
|.ref p=>(T = "list"/\∃ xs,SqL K H p xs) \/ (T = "tuple"/\∃ o,K.lookup p=some o/\o.cls=.type "tuple"/\o.dict=none) \/
   (T = "dict"/\((∃ kvs,H p=some (.dK kvs)) \/ ∃ kvs,H p=some (.dT kvs))) \/ (T = "set"/\∃ S n,H p=some (.set S n))
|_=>False
theorem zl01 {H:Hp} {T:String} {v:Value} (I:Inv X pins Y H s) (r:RelV x v) (ty:tyV X.K T x H) :
  s.TypeIs v T/\∀ a,v=.ref a->∃ ob,s.heap.get? a=some ob/\ob.dict=none:=by
 cases x with
|str z =>
  obtain ⟨t,rfl⟩:=r;cases (show T = "str" from ty);exact ⟨typeIs_str s z t,λ _ e=>nomatch e⟩
|int i =>
  obtain ⟨t,rfl⟩:=r;cases (show T = "int" from ty);exact ⟨typeIs_int s i t,λ _ e=>nomatch e⟩
|ref p =>
  cases r;rcases ty with ⟨rfl,xs,hq⟩|⟨rfl,o,hk,hc,hd⟩|⟨rfl,hk⟩|⟨rfl,S,n,hk⟩
  ·obtain ⟨its,_,pl,_⟩:=I.list hq;refine ⟨pl.isList.typeIs,λ a e=>?_⟩;cases e;obtain ⟨o,n,e,c,hd,_⟩:=pl;exact ⟨o,e,hd⟩
  ·refine ⟨⟨o,I.kIn p o hk,hc⟩,λ a e=>?_⟩;cases e;exact ⟨o,I.kIn _ o hk,hd⟩
  ·have z:∃ o,s.heap.get? p=some o/\o.ExactDict:=by
    rcases hk with ⟨kvs,hk⟩|⟨kvs,hk⟩
    ·obtain ⟨_,_,_,_,o,_,_,e,ex,_⟩:=I.hok p _ hk;exact ⟨o,e,ex⟩
    ·obtain ⟨_,_,_,_,o,_,_,e,ex,_⟩:=I.hok p _ hk;exact ⟨o,e,ex⟩
   obtain ⟨o,e,ex⟩:=z;refine ⟨⟨o,e,ex.1⟩,λ a e2=>?_⟩;cases e2;exact ⟨o,e,ex.2.1⟩
  ·obtain ⟨o,_,_,_,e,ex,_⟩:=I.hok p _ hk;refine ⟨⟨o,e,ex.1⟩,λ a e2=>?_⟩;cases e2;exact ⟨o,e,ex.2.1⟩
|_=>exact False.elim ty
def tBM0 (K:Fg) (T:String) (r:V->List V->Hp->VK->Prop) (to:TE):TE:=λ Y H Q=>to Y H λ x H1=>tyV K T x H1/\r x [] H1 Q
def tBM (K:Fg) (T:String) (r:V->List V->Hp->VK->Prop) (to:TE) (t:TA):TE:=λ Y H Q=>to Y H λ x H1=>tyV K T x H1/\t Y H1 λ xs H2=>r x xs H2 Q
variable {o e:Expr} {es:List Expr} {to:TE} {t:TA} {name:Str} {apos cpos:Pos} {T id:String} {r:V->List V->Hp->VK->Prop}
theorem zh91 (pa:PlainAttrs T) (slot:Slot T name id) (hty:typeOf (.builtin id)=pure (.type "method_descriptor")) (hm:MtR X id r) (ho:PE X o to)
  (hbase:attributeBase o name X.env (eval o X.env)=eval o X.env:=by rfl) (hline:(apos.endLine == cpos.line)=true:=by rfl):PE X (.Call (.Attribute o name apos) [] [] cpos) (tBM0 X.K T r to):=by
 intro pins s Y H Q I h;refine wpAny_Call_method0_late hbase hline (thn (ho pins s Y H _ I h) λ v s1 hz=>?_);obtain ⟨x,H1,I1,r1,ty,q1⟩:=hz;obtain ⟨h1,h2⟩:=zl01 I1 r1 ty;exact ⟨T,id,pa,slot,hty,h1,h2,Calls.callWith_builtin rfl (PySem.evalArgs_none (hm pins s1 Y H1 x [] v [] Q I1 r1 .nil q1))⟩
theorem zod1 (pa:PlainAttrs T) (slot:Slot T name id) (hty:typeOf (.builtin id)=pure (.type "method_descriptor")) (hm:MtR X id r) (ho:PE X o to) (ha:PA X (e :: es) t)
  (hbase:attributeBase o name X.env (eval o X.env)=eval o X.env:=by rfl)
  (hfew:((backTo cpos (starEach (e :: es) X.env)).all (λ x=>!x.1) && (backToKw cpos (keywordEach [] X.env)).all (λ x=>x.1.isSome)
   && decide ((e :: es).length+([]:List Keyword).length+(if ([]:List Keyword).isEmpty then 0 else 1) < 30))=true:=by rfl)
  (hline:(apos.endLine == cpos.line)=true:=by rfl) (hs:starEach (e :: es) X.env=(false,eval e X.env) :: starEach es X.env:=by rfl) (hplain:(backTo cpos (starEach es X.env)).any (·.1)=false:=by rfl) :
  PE X (.Call (.Attribute o name apos) (e :: es) [] cpos) (tBM X.K T r to t):=by
 intro pins s Y H Q I h;refine wpAny_Call_method_late hbase hfew hline rfl (thn (ho pins s Y H _ I h) λ v s1 hz=>?_);obtain ⟨x,H1,I1,r1,ty,q1⟩:=hz;obtain ⟨h1,h2⟩:=zl01 I1 r1 ty;refine ⟨T,id,pa,slot,hty,h1,h2,?_⟩;have hA:=ha cpos pins s1 Y H1 _ I1 q1;rw [hs] at hA ⊢;refine Calls.callWith_builtin (by show (false || (backTo cpos (starEach es X.env)).any (·.1))=false;rw [hplain] <;> rfl) (Calls.evalArgs_plain ?_);exact thn hA λ us s2 ⟨vs,H2,I2,r2,q2⟩=>hm pins s2 Y H2 x vs v us Q I2 r1 r2 q2
end
noncomputable def MtM (X:Cx) (id:String) (r:V->List V->Hp->VK->Prop):Prop :=
 ∀ (pins:List (Addr×Obj)) (s:Shared) (Y:St) (H:Hp) (x:V) (xs:List V) (v:Value) (us:List Value) (Q:VK),Inv X pins Y H s->RelV x v->Vals xs us->r x xs H Q ->
  wpAny (model X.prog X.w) X.A (call (.builtin id) (v :: us)) (EP X pins Y Q) X.xe s
theorem Vals.one (h:Vals [x] us):∃ u,us=[u]/\RelV x u:=by cases h with|cons r t=>cases t;exact ⟨_,rfl,r⟩
theorem Vals.two (h:Vals [x,y] us):∃ u v,us=[u,v]/\RelV x u/\RelV y v:=by cases h with|cons r t=>cases t with|cons q t=>cases t;exact ⟨_,_,rfl,r,q⟩
theorem Vals.zero:∀ {us:List Value},Vals [] us->us=[]
|_,.nil=>rfl
theorem Vals.dropLast {xs:List V} {us:List Value} (h:Vals xs us):Vals xs.dropLast us.dropLast:=by
 induction h with
|nil=>exact .nil
|cons r t ih =>
  cases t with
 |nil=>exact .nil
 |cons q t'=>exact .cons r ih
theorem Vals.rep {xs:List V} {us:List Value} (h:Vals xs us):∀ k:Nat,Vals (vP k xs).flatten (vP k us).flatten
|0=>.nil
|k+1=>by
  rw [x9,x9,yI,yI];exact Vals.append h (Vals.rep h k)
theorem zbm {α:Type} (l:List α):l.eraseIdx (l.length - 1)=l.dropLast:=by
 induction l with
|nil=>rfl
|cons a r ih =>
  cases r with
 |nil=>rfl
 |cons b r =>
   have e:(a :: b :: r).length - 1=((b :: r).length - 1)+1:=by
    have h1:(a :: b :: r).length=r.length+2:=rfl;have h2:(b :: r).length=r.length+1:=rfl;lia
   rw [e,List.eraseIdx_cons_succ,ih]
   all_goals rfl
theorem zcj (its:List Value):∀ (k:Nat) (acc:List Value),
  List.foldl (λ x1 x2=>x1++x2) acc.toArray (vP k its.toArray)=(acc++(vP k its).flatten).toArray
|0,acc=>by simp
|k+1,acc=>by
  have e:acc.toArray++its.toArray=(acc++its).toArray:=by simp
  have e2:(acc++its)++(vP k its).flatten=acc++(vP (k+1) its).flatten:=by
   rw [x9,yI,wG]
  rw [<- e2,<- zcj its k (acc++its),<- e,x9,z7]
section
variable {X:Cx} {pins:List (Addr×Obj)} {Y:St} {H:Hp} {s:Shared} {l b:Addr} {xs ys zs:List V}
theorem Inv.lset {its its':List Value} {n:Nat} {f:Array Value->Array Value} {t':Nat} (I:Inv X pins Y H s) (hH:H l=some (.lst xs))
  (e:s.heap.get? l=some { cls:=.type "list",data:=.seq its.toArray n }) (hf:f its.toArray=its'.toArray) (hv:Vals ys its') (hz:ys.length<=sizeLine) :
  Inv X pins Y (upd H l (.lst ys)) { s with heap:=s.heap.update l (Obj.mapSeq f),toks:=t' }:=by
 have q:=PySem.IsL.update e f;rw [hf] at q;refine I.write (x:=l) (e:=l) (by rw [hH];exact trivial) (.inl rfl) (λ b' u hb hu=>(uaJ s.heap (Obj.mapSeq f) (Ne.symm hb)).trans hu) ⟨_,q⟩ ?_;exact ⟨hz,its',_,hv,q⟩
theorem Inv.lnew {t':Nat} (I:Inv X pins Y H s) (hv:Vals ys its) (hz:ys.length<=sizeLine) :
  Inv X pins Y (upd H s.heap.objs.size (.lst ys)) { s with heap:=s.heap.push { cls:=.type "list",data:=.seq its.toArray },toks:=t' } :=
 I.laid (λ _ _ q=>vM _ q) (u6 _) ⟨hz,its,0,hv,v4 _ rfl⟩
theorem Inv.fresh (I:Inv X pins Y H s):H s.heap.objs.size=none:=I.hok.fresh (u6 _)
theorem Inv.lstM (I:Inv X pins Y H s) (hH:H l=some (.lst xs)):xs.length<=sizeLine/\∃ (its:List Value) (n:Nat),Vals xs its/\xs.length=its.length/\s.heap.get? l=some { cls:=.type "list",data:=.seq its.toArray n }:=by
 obtain ⟨z,its,n,r,e⟩:=I.hok l _ hH;exact ⟨z,its,n,r,r.length,e⟩
theorem zai (h:n<=sizeLine):Builtin.List.listTooLong n=false:=by
 unfold Builtin.List.listTooLong;exact decide_eq_false (by lia)
end
section
variable {X:Cx}
noncomputable def zes:V->List V->Hp->VK->Prop:=λ x vs H Q=>∃ l xs y,x=.ref l/\vs=[y]/\H l=some (.lst xs)/\xs.length < sizeLine/\Q .non (upd H l (.lst (xs++[y])))
theorem zy1:MtM X "list.append" zes:=by
 intro pins s Y H x vs v us Q I rx rv h;obtain ⟨l,xs,y,rfl,rfl,hH,hz,q⟩:=h;cases rx;obtain ⟨u,rfl,ru⟩:=rv.one;obtain ⟨z,its,n,r,hl,e⟩:=I.lstM hH;refine call_meets F.slot_list_append ⟨_,e,rfl⟩ F.entry_list_append (F.args_list_append_2 _ _) (PySem.list_append l its.toArray n u (by rw [vT];lia)) ⟨e,?_⟩;refine ⟨.non,_,I.lset (its':=its++[u]) hH e (by simp) (r.append (.cons ru .nil)) ?_,rfl,q⟩;rw [vK,yV];lia
noncomputable def rPop:V->List V->Hp->VK->Prop:=λ x vs H Q=>∃ l xs y,x=.ref l/\vs=[]/\H l=some (.lst xs)/\xs[xs.length - 1]?=some y/\Q y (upd H l (.lst xs.dropLast))
theorem zyw:MtM X "list.pop" rPop:=by
 intro pins s Y H x vs v us Q I rx rv h;obtain ⟨l,xs,y,rfl,rfl,hH,hy,q⟩:=h;cases rx;have hus:=rv.zero;subst hus;obtain ⟨z,its,n,r,hl,e⟩:=I.lstM hH;obtain ⟨u,hu,ru⟩:=r.get hy;have hy':its.toArray[its.toArray.size - 1]?=some u:=by
  show its.toArray[its.length - 1]?=some u;rw [<- yA,<- hl];exact hu
 refine call_meets F.slot_list_pop ⟨_,e,rfl⟩ F.entry_list_pop (F.args_list_pop_1 _) (MeetsSeq.list_pop_last l its.toArray n u hy' (by rw [vT];lia)) ⟨e,?_⟩;refine ⟨y,_,I.lset (its':=its.dropLast) hH e ?_ r.dropLast ?_,ru,q⟩
 ·show its.toArray.eraseIdxIfInBounds (its.toArray.size - 1)=its.dropLast.toArray;rw [vT,List.eraseIdxIfInBounds_toArray,zbm]
 ·rw [List.length_dropLast];lia
noncomputable def rCat:R2:=λ x y H Q=>∃ l b xs zs,x=.ref l/\y=.ref b/\H l=some (.lst xs)/\H b=some (.lst zs)/\xs.length+zs.length<=sizeLine/\∀ p,H p=none->Q (.ref p) (upd H p (.lst (xs++zs)))
theorem zw91:OpR X (binaryOp .Add) rCat:=by
 intro pins s Y H x y v u Q I rx ry h;obtain ⟨l,b,xs,zs,rfl,rfl,hH,hB,hz,q⟩:=h;cases rx;cases ry;obtain ⟨z,its,n,r,hl,e⟩:=I.lstM hH;obtain ⟨z2,its2,n2,r2,hl2,e2⟩:=I.lstM hB;refine PySem.P.add_list e e2 ?_ (by rw [vT,vT];lia);have ea:its.toArray++its2.toArray=(its++its2).toArray:=by simp
 rw [ea];exact ⟨.ref _,_,I.lnew (t':=s.toks) (r.append r2) (by rw [vK];lia),rfl,q _ I.fresh⟩
noncomputable def rRep:R2:=λ x y H Q=>∃ l k xs,x=.ref l/\y=.int k/\H l=some (.lst xs)/\-(2 ^ 63)<=k/\k < 2 ^ 63/\xs.length * k.toNat<=sizeLine /\
 ∀ p,H p=none->Q (.ref p) (upd H p (.lst (vP k.toNat xs).flatten))
theorem zyz {α:Type} (xs:List α) (k:Nat):(vP k xs).flatten.length=k * xs.length:=by
 induction k with
|zero=>simp
|succ k ih=>rw [x9,yI,vK,ih,Nat.succ_mul,Nat.add_comm]
theorem zqz:OpR X (binaryOp .Mult) rRep:=by
 intro pins s Y H x y v u Q I rx ry h;obtain ⟨l,k,xs,rfl,rfl,hH,h1,h2,hz,q⟩:=h;cases rx;obtain ⟨t,rfl⟩:=ry;obtain ⟨z,its,n,r,hl,e⟩:=I.lstM hH;have hlen:its.toArray.size * k.toNat<=sizeLine:=by rw [vT,<- hl];exact hz
 have hcap:¬ its.toArray.size * k.toNat > (2 ^ 63 - 1) / 8:=by
  have:(sizeLine:Nat)<=(2 ^ 63 - 1) / 8:=by decide
  lia
 have hfit:¬ (!Builtin.List.listFitsIndex k)=true:=by
  rw [fitsIndex_both h1 h2];exact vU
 have hlong:¬ Builtin.List.listTooLong (its.toArray.size * k.toNat)=true:=by
  rw [zai hlen];exact vU
 have hnew:List.foldl (λ x1 x2=>x1++x2) #[] (vP (if its.toArray.isEmpty=true then 0 else k.toNat) its.toArray)=(vP k.toNat its).flatten.toArray:=by
  have f0:∀ m:Nat,List.foldl (λ x1 x2=>x1++x2) #[] (vP m its.toArray)=(vP m its).flatten.toArray:=λ m=>by
   have:=zcj its m [];rw [List.nil_append] at this;exact this
  rw [f0];cases its with
 |nil=>simp
 |cons a r'=>rw [if_neg (by simp)]
 refine wpAny_binaryOp_repeat_ref (T := "list") (U := "int") (by decide) ⟨_,e,rfl⟩ (λ s'=>typeIs_int s' k t) noFill_list_mul F.fills_int_mul F.slot_int_rmul repeat_list F.slot_int_index.lookup
  (call_meets F.slot_int_rmul (typeIs_int s k t) F.entry_int_rmul (F.args_int_rmul_2 _ _) (int___rmul___int_list k t l its.toArray n)
   ⟨e,rfl,⟨_,e,rfl⟩,call_meets F.slot_list_mul ⟨_,e,rfl⟩ F.entry_list_mul (F.args_list_mul_2 _ _) (AutoListH.list___mul___list_int_3 l its.toArray n k t hfit hcap hlong) ⟨e,?_⟩⟩)
 rw [hnew];exact ⟨.ref _,_,I.lnew (t':=s.toks) (r.rep k.toNat) (by rw [zyz,z8];exact hz),rfl,q _ I.fresh⟩
end
end _2
namespace Att
open PySem PySem.W PySem.Calls PyProof.Rows
variable {n:Nat}
theorem zub {P:Params} {h:Heap}:∀ (ns:List Int) (vs:List Value),WellAll P h vs (ns.map WData.int)->IntsAre vs ns:=by
 intro ns
 induction ns with
|nil =>
  intro vs w;rw [x8] at w;cases w;exact .nil
|cons n ns ih =>
  intro vs w;rw [vW] at w;cases w with
 |cons a b =>
   cases a;exact .cons _ _ (ih _ b)
theorem zkp {l:OpenLaw} (hn:l.most=some n) {P:Params} {h:Heap} {args:List WData} {vals:List Value}
  (hpre:l.row.toRowW.claim.pre args=true) (hwl:WellAll P h vals args) :
  ∃ a vs ns,vals=[vN a]/\args=[WData.list (ns.map WData.int)]/\h.get? a=some { cls:=.type "list",data:=.seq vs.toArray }/\IntsAre vs ns/\ns.length<=n:=by
 have hsh:WShape.hasAll [] args [.list .int]=true:=(pre_splitW hpre).1;have hc:l.pre.holds [] { args:=args }=true:=(pre_splitW hpre).2;obtain ⟨d,r,rfl,h1,h2⟩:=hasAllW_cons hsh;obtain rfl:=hasAllW_nil h2;obtain ⟨xs,rfl,h3⟩:=hasW_list h1;obtain ⟨ns,rfl⟩:=items_int h3;have hlen:ns.length<=n:=by
  unfold OpenLaw.pre at hc;have h4:(WTm.not (.lt (.lit (.int (n:Int))) (.len (.arg 0)))).holds [] { args:=[.list (ns.map .int)] }=true:=by
   have h4:=(holds_andW hc).1;rw [hn] at h4;exact h4
  have h5:=condW_of h4 (w_not (w_lt w_lit (w_len_list (w_arg rfl))));rw [u5] at h5;refine Nat.le_of_not_lt λ q=>?_;have q':(n:Int) < ((ns.length:Nat):Int):=by lia
  first
  |(rw [decide_eq_true q'] at h5;exact absurd h5 (by decide))
  |(simp at h5;lia)
 cases hwl with
|cons w1 w2 =>
  cases w2;cases w1 with
 |list ho hall=>exact ⟨_,_,ns,rfl,rfl,ho,zub ns _ hall,hlen⟩
theorem zaq (l:OpenLaw) (args:List WData):l.row.toRowW.claim.post args (.bool true) args=true :=
 postW_of (r:=l.row.toRowW) (X:=(true == true))
  (show WShape.has [] (.bool true) .bool=true by first|rfl|decide|simp [WShape.has,WShape.arms,WShape.armsAll])
  (show (WTm.eq .res (.lit (.bool true))).value [] { args:=args,res:=some (.bool true),after:=args }=some (.bool (true == true)) from w_eq_bool (w_res rfl) w_lit) rfl
theorem attach_call {l:OpenLaw} {q:Program} {loose:List Str} {XP:(Str->Option Value)->Heap->Prop} {YP:World->Heap->Prop} {d:DefRec}
  (hn:l.most=some n) (hdf:d.params.defaults=[])
  (call:∀ (w:World) (s₀ s₁:Shared) (mg mb:Str->Option Value) (fa:Addr) (o:Obj) (pm cd doc:Value) (a:Addr) (vs:List Value) (ns:List Int),
   Ground q loose [] XP w s₀ mg mb s₁.heap->YP w s₁.heap ->
   s₁.heap.get? fa=some o->o.data=.func (docDef d.name d.params d.body d.scope pm cd doc)->s₁.heap.CodeRec cd d.name->mg d.name=some (.ref fa) ->
   s₁.heap.get? a=some { cls:=.type "list",data:=.seq vs.toArray }->IntsAre vs ns->ns.length<=n->s₁.gens=#[] ->
   codeAny (model l.prog w) callerA (.call (.ref fa) ⟨[.ref a],[]⟩) (λ r s'=>r=.ok (.ret (.bool true))/\OldK s₁.heap s'.heap/\s'.os=s₁.os/\AllBare s'.gens) s₁) :
  WalkO q loose XP YP l.row.toRowW d [] (λ f vs=>PySem.call f vs):=by
 intro w s₀ s₁ mg mb G Yv fa o pm cd doc dV kV ho hd hcd hD hmg hg args vals as hpre hlay hrd hwl hlo;obtain rfl:dV=.none:=Dflts.none hD hdf;obtain rfl:kV=.none:=Dflts.noKw hD;obtain ⟨a,vs,ns,rfl,rfl,hobj,hints,hlen⟩:=zkp hn hpre hwl;refine enter_call (codeAny_mono (call w s₀ s₁ mg mb fa o pm cd doc a vs ns G Yv ho (fd_plain hd) hcd hmg hobj hints hlen hg) λ r s' hq=>?_);obtain ⟨rfl,h2,h3,h4⟩:=hq;exact ⟨.inl ⟨.bool true,.bool true,[],rfl,λ _=>rfl,.bool true,zaq l _,λ _=>⟨List.Pairwise.nil,λ _ hm=>(nomatch hm)⟩⟩,h2,h3,h4⟩
end Att
namespace _2
open PySem PySem.Spec PyProof.Rows
variable {K:Fg} {a f:Addr} {fd:FuncData} {ps:List Str} {qual x:Str} {sp:Sp} {st:Stmt}
theorem zca:∀ {vs:List Value} {ns:List Int},IntsAre vs ns->Vals (ns.map V.int) vs
|_,_,.nil=>.nil
|_,_,.cons n t h=>.cons ⟨t,rfl⟩ (zca h)
def Only (H:Hp):Prop:=∀ b,H b=none \/ ∃ o xs,H b=some (.frz o (.lst xs))
theorem zhw {P:Program} {w:World} {mg mb:Str->Option Value} {CX:CXT} {k:Nat} {fa:Addr} {fd:FuncData} {sp:Sp} {s₁:Shared} {vs:List Value} {ns:List Int}
  (KX:K.In s₁.heap) (hns:s₁.heap.Ns mainGlobals mg) (hb:s₁.heap.Ns builtinsNs mb) (hbb:∀ x:Str,x ≠ "__name__"->mb x=bootBuiltins x) (hlim:s₁.heap.NoLimit) (hg:s₁.gens=#[])
  (ha:s₁.heap.get? a=some { cls:=.type "list",data:=.seq vs.toArray }) (hi:IntsAre vs ns) (hl:ns.length<=sizeLine) (hr:Room k callerA)
  (F:∀ base:Heap,K.In base->base.Ns mainGlobals mg->FnOk P w K mg base CX k fa fd [x] sp) (hbind:∀ (s:Shared) (u:Value),BindsTo s fd ⟨[u],[]⟩ [(x,u)])
  (hsp:∀ H:Hp,Only H->SqL K H a (ns.map V.int)->sp [.ref a] H (λ v _=>v=.bl true) λ _ _ _=>False)
  (hCX:∀ H e s',CX [] H s₁ (λ _ _ _=>False) e s'->False) :
  codeAny (model P w) callerA (.call (.ref fa) ⟨[.ref a],[]⟩) (λ r s'=>r=.ok (.ret (.bool true))/\OldK s₁.heap s'.heap/\s'.os=s₁.os/\AllBare s'.gens) s₁:=by
 have rv:=zca hi;have lenV:=hi.length
 -- from an abstract heap in which nothing but the script may be tracked
 have core:∀ H:Hp,Only H->SqL K H a (ns.map V.int)->HOk P w H s₁.heap->(∀ b,H b≠none->b=a)->(H a≠none->K.lookup a=none) ->
   codeAny (model P w) callerA (.call (.ref fa) ⟨[.ref a],[]⟩) (λ r s'=>r=.ok (.ret (.bool true))/\OldK s₁.heap s'.heap/\s'.os=s₁.os/\AllBare s'.gens) s₁:=by
  intro H hO hS hok hA hK;have base_of:∀ {b:Addr} {o:Obj},s₁.heap.get? b=some o->H b=none->(hidT s₁.heap H).get? b=some o:=λ e n=>zdu e n;have noA:∀ {b:Addr} {o:Obj} {es:Array DictEntry} {ep:Nat},s₁.heap.get? b=some o->o.data=.dict es ep->H b=none:=λ {b o es ep} e d=>by
   cases q:H b with
  |none=>rfl
  |some u =>
    have e':b=a:=hA b (by rw [q];simp);subst e';rw [ha] at e;cases e;have d':Data.seq vs.toArray _=Data.dict es ep:=d;cases d'
  have nsK:∀ {b:Addr} {m:Str->Option Value},s₁.heap.Ns b m->(hidT s₁.heap H).Ns b m:=λ {b m} ⟨o,es,ep,e,d,r⟩=>⟨o,es,ep,base_of e (noA e d),d,r⟩
  have hKb:K.In (hidT s₁.heap H):=λ b o e=>base_of (KX b o e) (by
   cases q:H b with
  |none=>rfl
  |some u =>
    have e':b=a:=hA b (by rw [q];simp);subst e';rw [hK (by rw [q];simp)] at e;cases e)
  have hM:Mod K mg (hidT s₁.heap H):=⟨hKb,nsK hns,⟨mb,nsK hb,hbb⟩,let ⟨mc,h1,h2⟩:=hlim;⟨mc,nsK h1,h2⟩⟩
  have e0:Env0 P w K mg (hidT s₁.heap H) callerA [] s₁ H:=⟨rfl,hM,λ b o e=>za11 e,Nat.le_of_eq (ztq _ _),trivial,λ b hb=>absurd (show b∈([]:List Addr) from hb) (by simp),hok,.of_eq hg⟩
  refine codeAny_mono ((F _ hKb (nsK hns)).run callerA [] s₁ H ⟨[.ref a],[]⟩ [.ref a] [.ref a] _ _ hr e0 (hbind s₁ (.ref a)) (.cons rfl .nil) (hsp H hO hS)) λ r s' h=>?_;cases r with
 |error e=>exact (hCX H e s' h).elim
 |ok fl =>
   cases fl with
  |next=>exact False.elim h
  |brk=>exact False.elim h
  |cont=>exact False.elim h
  |ret u =>
    obtain ⟨v,H',os,bare,un,hok',r',q⟩:=h;have q':v=.bl true:=q;subst q';obtain rfl:u=yT true:=r';refine ⟨rfl,OldK.of_keep λ b o e=>?_,os,bare⟩;cases q:H b with
   |none=>exact un.keep b o e q (by intro z;exact absurd (show b∈([]:List Addr) from z) (by simp)) (by simp)
   |some u =>
     rcases hO b with z|⟨ob,xs,z⟩
     ·rw [q] at z;cases z
     ·have z2:=un.frzs b ob _ z;obtain ⟨e1,_⟩:=hok b _ z;obtain ⟨e2,_⟩:=hok' b _ z2;rw [e] at e1;cases e1;exact e2
 cases hk:K.lookup a with
|some o =>
  -- the script is one of the module's own objects
  have e:=KX a o hk;rw [ha] at e;cases e;refine core (λ _=>none) (λ _=>.inl rfl) (.inr ⟨_,vs.toArray,_,hk,rfl,rfl,rfl,by rw [vT,lenV];exact hl,by simpa using rv⟩) (λ b u z=>by have z':(none:Option HO)=some u:=z;cases z') (λ b z=>absurd rfl z) λ z=>absurd rfl z
|none =>
  refine core (λ b=>if b=a then some (.frz { cls:=.type "list",data:=.seq vs.toArray } (.lst (ns.map V.int))) else none) (λ b=>?_) (.inl (.inr ⟨{ cls:=.type "list",data:=.seq vs.toArray },if_pos rfl⟩)) (λ b u z=>?_) (λ b z=>?_) λ _=>hk
  ·by_cases hb:b=a
   ·exact .inr ⟨_,_,if_pos hb⟩
   ·exact .inl (if_neg hb)
  ·by_cases hb:b=a
   ·have z':=(if_pos hb).symm.trans z;cases z';subst hb;exact ⟨ha,by rw [u5];exact hl,vs,_,rv,ha⟩
   ·have z':=(if_neg hb).symm.trans z;cases z'
  ·by_cases hb:b=a
   ·exact hb
   ·exact absurd (if_neg hb) z
theorem walk_of {l:PySem.W.OpenLaw} {n k:Nat} {q:Program} {loose:List Str} {XP:(Str->Option Value)->Heap->Prop} {YP:World->Heap->Prop} {d:DefRec} {K:Params->Fg} {CX:World->CXT} {sp:World->Sp} 
  (hn:l.most=some n) (hn2:n<=sizeLine) (hdf:d.params.defaults=[]) (hr:Room k callerA)
  (hY:∀ (w:World) (h:Heap),YP w h->(K w.params).In h)
  (F:∀ (w:World) (mg:Str->Option Value) (fa:Addr) (h:Heap),(K w.params).In h->h.Ns mainGlobals mg->mg d.name=some (.ref fa) ->
   ∃ fd:FuncData,(∀ (s:Shared) (u:Value),BindsTo s fd ⟨[u],[]⟩ [(x,u)]) /\
    ∀ base:Heap,(K w.params).In base->base.Ns mainGlobals mg->FnOk l.prog w (K w.params) mg base (CX w) k fa fd [x] (sp w))
  (hsp:∀ (w:World) (H:Hp) (a:Addr) (ns:List Int),ns.length<=n->Only H->SqL (K w.params) H a (ns.map V.int)->sp w [.ref a] H (λ v _=>v=.bl true) λ _ _ _=>False)
  (hCX:∀ (w:World) (H:Hp) (s:Shared) (e:Value) (s':Shared),CX w [] H s (λ _ _ _=>False) e s'->False) :
  PySem.W.WalkO q loose XP YP l.row.toRowW d [] (λ f vs=>PySem.call f vs):=by
 refine Att.attach_call hn hdf λ w s₀ s₁ mg mb fa o pm cd doc a vs ns G Yv ho hd hcd hmg hobj hints hlen hg=>?_;have KX:=hY w _ Yv;obtain ⟨fd,hb,hF⟩:=F w mg fa _ KX G.T.g hmg;exact zhw KX G.T.g G.T.b G.T.builtins G.T.nolimit hg hobj hints (wU hlen hn2) hr hF hb (λ H hO hS=>hsp w H a ns hlen hO hS) λ H e s'=>hCX w H s₁ e s'
def zz3 (s:Stmt) (j:Nat):Stmt:=match s with
|.ClassDef _ _ _ body _ _ _ _ _ _ _=>body.getD j (.Pass ⟨0,0,0,0⟩)
|_=>.Pass ⟨0,0,0,0⟩
noncomputable def zr7 (s:Stmt):Arguments:=match s with
|.FunctionDef _ a _ _ _ _ _ _ _ _=>a
|_=>{ posonlyargs:=[],args:=[],vararg:=none,kwonlyargs:=[],kw_defaults:=[],kwarg:=none,defaults:=[] }
def zx2 (s:Stmt):List Stmt:=match s with
|.FunctionDef _ _ b _ _ _ _ _ _ _=>b
|_=>[]
def zi0 (s:Stmt):Scope:=match s with
|.FunctionDef _ _ _ _ _ _ sc _ _ _=>sc
|_=>{ kind:=.function,names:=[],isGenerator:=false,isCoroutine:=false }
abbrev CX0:CXT:=λ _ _ _ _ _ _=>False
abbrev E0:XK:=λ _ _ _=>False
theorem zhy {X:Cx}:zhg CX0 X E0:=λ _ _ _ _ _ _ _ h=>h.elim
structure Fun (K:Fg) (x qual:Str) (st:Stmt) (f:Addr) (fd:FuncData):Prop where
 ex:∃ (oc:Value) (od:Option Addr) (kV doc pm:Value) (an:Option Addr) (cdv ct:Value) (osl:Array (Option Value)),
  fd=PySem.W.fnOf x qual (zr7 st) (zx2 st) (zi0 st) .none kV doc pm an cdv ct/\K.lookup f=some ⟨oc,od,.func fd,osl⟩/\PySem.W.codeIn K cdv qual=true
 kp:PySem.W.keepIn K (.ref f)=true
section
variable {P:Program} {w:World} {K:Fg} {mg:Str->Option Value} {base:Heap}
theorem Fun.ok {N:List Str} {k:Nat} (F:Fun K x qual st f fd) (S:FnScope N ps (zi0 st)) (len:∀ vs H Q E,sp vs H Q E->vs.length=ps.length)
  (hbody:∀ (cdv:Value) (A:Around) (outer:List Env) (s:Shared) (H:Hp) (vs:List V) (Q:VK) (E:XK),Room k (A.deeper (envOfC qual (zi0 st) s.heap.objs.size f cdv))->sp vs H Q E ->
   ∃ t,PSs (cxOf CX0 P w K mg base N qual (zi0 st) f cdv A outer s H E).nox (zx2 st) t/\t { nx:=λ _ H'=>Q .non H',rt:=Q } (start N vs) H):FnOk P w K mg base CX0 (k+1) f fd ps sp:=by
 obtain ⟨oc,od,kV,doc,pm,an,cdv,ct,osl,rfl,lk,hcd⟩:=F.ex;refine zna1 lk hcd S len λ A outer s H vs Q E hr hsp=>?_;obtain ⟨t,h,q⟩:=hbody cdv A outer s H vs Q E hr hsp;exact ⟨t,h.nox,q⟩
theorem Fun.binds (F:Fun K x qual st f fd)
  (h:∀ (kV doc pm:Value) (an:Option Addr) (cdv ct:Value) (us:List Value),us.length=ps.length->bindArgs (PySem.W.fnOf x qual (zr7 st) (zx2 st) (zi0 st) .none kV doc pm an cdv ct) ⟨us,[]⟩=pure (ps.zip us)):Binds K fd ps []:=by
 obtain ⟨oc,od,kV,doc,pm,an,cdv,ct,osl,rfl,lk,hcd⟩:=F.ex;exact .all (h kV doc pm an cdv ct)
theorem zc11 {oc:Value} {od an:Option Addr} {osl:Array (Option Value)} {kV doc pm cdv ct:Value} (l:K.lookup f=some ⟨oc,od,.func (PySem.W.fnOf x qual (zr7 st) (zx2 st) (zi0 st) .none kV doc pm an cdv ct),osl⟩)
  (c:PySem.W.codeIn K cdv qual=true) (k:PySem.W.keepIn K (.ref f)=true):Fun K x qual st f (PySem.W.fnOf x qual (zr7 st) (zx2 st) (zi0 st) .none kV doc pm an cdv ct):=⟨⟨oc,od,kV,doc,pm,an,cdv,ct,osl,rfl,l,c⟩,k⟩
end
section
variable {X:Cx}
theorem pv (i:Nat) {pos:Pos} (hN:X.N[i]?=some x:=by rfl) (hv:Vis X.env.scope x:=by first|exact Or.inl rfl|exact Or.inr (Or.inl rfl)|exact Or.inr (Or.inr rfl)) (hd:(x == ("__debug__":Str))=false:=by decide)
  (hcd:(x == ("__classdict__":Str))=false:=by decide):PE X (.Name x pos) (tVar i):=zj61 hN hv hd hcd
end
def Same (H H':Hp):Prop:=∀ b o,H b=some o->H' b=some o
theorem Same.trans {H H1 H2:Hp} (a:Same H H1) (b:Same H1 H2):Same H H2:=λ c o h=>b c o (a c o h)
theorem Same.seq {H H':Hp} {xs:List V} (e:Same H H') (h:SqL K H a xs):SqL K H' a xs:=by
 rcases h with (h|⟨o,h⟩)|h
 ·exact .inl (.inl (e _ _ h))
 ·exact .inl (.inr ⟨o,e _ _ h⟩)
 ·exact .inr h
end _2
namespace _3
open PySem PySem.Spec PyProof.Rows _2
variable {C f:Addr} {K:Fg} {N ps:List Str} {X:Cx} {a:Expr} {an od:Option Addr} {cdv ct doc oc pm:Value} {env:Env} {es:List Expr} {fp:List Addr} {m qual x:Str} {mg:Str->Option Value} {osl:Array (Option Value)} {pos:Pos} {scope:Scope} {sp:Sp} {st:Stmt} {ta:TE}
abbrev St:=_2.St
noncomputable def zj5 (env:Env):List (Str×NameKind)->List (Str×Addr)->List (Str×Addr)
|[],cs=>cs
|(n,k) :: r,cs=>zj5 env r (if k == .free then (match env.cells.lookup n with|some c=>(n,c) :: cs|none=>cs) else cs)
theorem zbb {env:Env}:∀ (names:List (Str×NameKind)) (cs:List (Str×Addr)),(∀ y∈names,y.2=.free->∃ c,env.cells.lookup y.1=some c) ->
  (forIn names cs (λ (x:Str×NameKind) (r:List (Str×Addr))=>(match x with|(name,kind)=>if kind == .free then do let c <- cellOf env name;pure (ForInStep.yield ((name,c) :: r)) else pure (ForInStep.yield r):Sem (ForInStep (List (Str×Addr))))):Sem (List (Str×Addr)))=pure (zj5 env names cs)
|[],cs,_=>rfl
|(n,k) :: r,cs,h=>by
  rw [List.forIn_cons];by_cases hk:k=.free
  ·subst hk;obtain ⟨c,hc⟩:=h (n,.free) wR rfl;have hc':env.cells.lookup n=some c:=hc;have e1:cellOf env n=pure c:=by unfold cellOf;rw [hc']
   simp only [beq_self_eq_true,if_true,e1];have:=zbb r ((n,c) :: cs) λ y hy=>h y (v8 _ hy);unfold zj5;simp only [beq_self_eq_true,if_true,hc'];exact this
  ·have hb:(k == NameKind.free)=false:=by simpa using hk
   simp only [hb,xO,if_false];have:=zbb r cs λ y hy=>h y (v8 _ hy);unfold zj5;simp only [hb,xO,if_false];exact this
theorem zne (h:∀ y∈scope.names,y.2=.free->∃ c,env.cells.lookup y.1=some c):closureFor scope env=pure (zj5 env scope.names []):=by
 unfold closureFor;show (forIn scope.names [] _ >>= λ cs=>pure cs)=_;rw [zbb scope.names [] h];rfl
theorem ztd {env:Env} {x:Str} {c:Addr}:∀ (names:List (Str×NameKind)) (cs:List (Str×Addr)),(∀ x c,cs.lookup x=some c->env.cells.lookup x=some c)->(zj5 env names cs).lookup x=some c->env.cells.lookup x=some c
|[],cs,h,e=>h x c e
|(n,k) :: r,cs,h,e=>by
  unfold zj5 at e;refine ztd r _ (λ y d q=>?_) e;split at q
  ·split at q
   ·rename_i c' hc'
    rw [wA] at q;split at q
    ·rename_i hy
     cases q;rw [beq_iff_eq.mp hy];exact hc'
    ·exact h y d q
   ·exact h y d q
  ·exact h y d q
theorem zjc {env:Env} {x:Str}:∀ (names:List (Str×NameKind)) (cs:List (Str×Addr)),(∃ c,cs.lookup x=some c)->∃ c,(zj5 env names cs).lookup x=some c
|[],cs,h=>h
|(n,k) :: r,cs,⟨c,h⟩=>by
  unfold zj5;refine zjc r _ ?_;split
  ·split
   ·rename_i c' hc'
    rw [wA];split
    ·exact ⟨_,rfl⟩
    ·exact ⟨c,h⟩
   ·exact ⟨c,h⟩
  ·exact ⟨c,h⟩
theorem zga {env:Env} {x:Str}:∀ (names:List (Str×NameKind)) (cs:List (Str×Addr)),(x,NameKind.free)∈names->(∃ c,env.cells.lookup x=some c)->∃ c,(zj5 env names cs).lookup x=some c
|[],cs,h,_=>nomatch h
|(n,k) :: r,cs,h,⟨c,hc⟩=>by
  rcases vL.mp h with e|h
  ·cases e;unfold zj5;simp only [beq_self_eq_true,if_true,hc];exact zjc r _ ⟨c,by simp [wA]⟩
  ·unfold zj5;exact zga r _ h ⟨c,hc⟩
theorem zoc {env:Env} {x:Str} {c:Addr}:∀ (names:List (Str×NameKind)) (cs:List (Str×Addr)),(zj5 env names cs).lookup x=some c->(x,NameKind.free)∈names \/ cs.lookup x=some c
|[],cs,e=>.inr e
|(n,k) :: r,cs,e=>by
  unfold zj5 at e;rcases zoc r _ e with q|q
  ·exact .inl (v8 _ q)
  ·split at q
   ·rename_i hk
    split at q
    ·rw [wA] at q;split at q
     ·rename_i hy
      rw [beq_iff_eq.mp hy,<- beq_iff_eq.mp hk];exact .inl wR
     ·exact .inr q
    ·exact .inr q
   ·exact .inr q
theorem zyy {x:Str} {c:Addr}:∀ (names:List (Str×NameKind)) (n:Nat) (acc:List (Str×Addr)),(cellsFrom n names acc).lookup x=some c->acc.lookup x=some c \/ ((x,NameKind.cell)∈names/\n<=c)
|[],_,_,e=>.inl e
|(y,k) :: r,n,acc,e=>by
  unfold cellsFrom at e;split at e
  ·rename_i hk
   rcases zyy r (n+1) _ e with q|q
   ·rw [wA] at q;split at q
    ·rename_i hy
     cases q;rw [beq_iff_eq.mp hy,<- beq_iff_eq.mp hk];exact .inr ⟨wR,u6 _⟩
    ·exact .inl q
   ·exact .inr ⟨v8 _ q.1,yW q.2⟩
  ·rcases zyy r n _ e with q|q
   ·exact .inl q
   ·exact .inr ⟨v8 _ q.1,q.2⟩
theorem zxt {x:Str}:∀ (names:List (Str×NameKind)) (n:Nat) (acc:List (Str×Addr)),(x,NameKind.cell) ∉ names->(cellsFrom n names acc).lookup x=acc.lookup x
|[],_,_,_=>rfl
|(y,k) :: r,n,acc,h=>by
  unfold cellsFrom;split
  ·rename_i hk
   rw [zxt r _ _ λ z=>h (v8 _ z),wA];have:(x == y)=false:=by
    refine beq_eq_false_iff_ne.mpr λ e=>h ?_;rw [e,<- beq_iff_eq.mp hk];exact wR
   rw [this]
  ·exact zxt r _ _ λ z=>h (v8 _ z)
theorem zkv:∀ (names:List (Str×NameKind)) (n:Nat) (acc:List (Str×Addr)),(∀ x c,acc.lookup x=some c->c < n)->(∀ x y c,acc.lookup x=some c->acc.lookup y=some c->x=y) ->
  ∀ x y c,(cellsFrom n names acc).lookup x=some c->(cellsFrom n names acc).lookup y=some c->x=y
|[],_,_,_,h=>h
|(z,k) :: r,n,acc,hb,h=>by
  unfold cellsFrom;split
  ·refine zkv r (n+1) _ (λ x c e=>?_) λ x y c e1 e2=>?_
   ·rw [wA] at e;split at e
    ·cases e;exact zZ _
    ·exact yJ (hb x c e)
   ·rw [wA] at e1 e2;by_cases a:(x == z)=true <;> by_cases b:(y == z)=true
    ·rw [beq_iff_eq.mp a,beq_iff_eq.mp b]
    ·rw [a] at e1;rw [z9] at b;rw [b] at e2;cases e1;exact absurd (hb _ _ e2) (wW _)
    ·rw [b] at e2;rw [z9] at a;rw [a] at e1;cases e2;exact absurd (hb _ _ e1) (wW _)
    ·rw [z9] at a b;rw [a] at e1;rw [b] at e2;exact h x y c e1 e2
  ·exact zkv r n acc hb h
theorem zwk:∀ (names:List (Str×NameKind)) (h:Heap) (acc:List (Str×Addr)),(∀ x c,acc.lookup x=some c->∃ v,h.IsCell c v) ->
  ∀ x c,(cellsFrom h.objs.size names acc).lookup x=some c->∃ v,(pushCells h names).IsCell c v
|[],_,_,p=>p
|(y,k) :: r,h,acc,p=>by
  unfold cellsFrom pushCells;split
  ·have q:=zwk r (h.push { cls:=.type "cell",data:=.cell none }) ((y,h.objs.size) :: acc) (by
    intro x c e;rw [wA] at e;split at e
    ·cases e;exact ⟨none,_,v4 _ rfl,rfl⟩
    ·obtain ⟨v,z⟩:=p x c e;exact ⟨v,z.keeps λ b o e=>vM _ e⟩)
   rwa [yG] at q
  ·exact zwk r h acc p
theorem zkh {x:Str} {k k':NameKind}:∀ {names:List (Str×NameKind)},(names.map (·.1)).Nodup->(x,k)∈names->(x,k')∈names->k=k'
|(y,j) :: r,h,a,b=>by
  obtain ⟨h1,h2⟩:=vX.mp h;rcases vL.mp a with e|a' <;> rcases vL.mp b with e'|b'
  ·cases e;cases e';rfl
  ·cases e;exact (h1 (vQ.mpr ⟨_,b',rfl⟩)).elim
  ·cases e';exact (h1 (vQ.mpr ⟨_,a',rfl⟩)).elim
  ·exact zkh h2 a' b'
theorem zlf {M:Model} {A:Around} {E:Value->Shared->Prop} {s:Shared} {globals:Addr} {cl:List (Str×Addr)} {qual:Str} {env:Env} {Q:Env->Shared->Prop}
  (h:Q { scope,locals:=s.heap.objs.size,globals,cells:=cellsFrom (s.heap.objs.size+1) scope.names cl,qual,func:=none,code:=env.code,frame:=env.frame,builtins:=env.builtins } { s with heap:=pushCells (s.heap.push { cls:=.type "dict",data:=.dict #[] }) scope.names }) :
  wpAny M A (newFunctionEnv scope globals cl [] qual none .none (some env)) Q E s:=by
 simp only [newFunctionEnv,uaK,if_true];refine wpAny_bind (wpAny_alloc ?_);refine wpAny_bind (wpAny_layCells _ (λ name kind cells=>by cases hkc:kind == NameKind.cell <;> simp [hkc]) _ _ _ _ ?_);rw [show ({ s with heap:=s.heap.push { cls:=.type "dict",data:=.dict #[] } }:Shared).heap.objs.size=s.heap.objs.size+1 from yG ..];rw [List.forIn_nil];exact wpAny_bind (wpAny_pure (wpAny_pure h))
section
variable {prog:Program} {w:World} {A:Around} {R:Result->Shared->Prop} {s:Shared}
theorem zcg {elt target iter:Expr} {ifs:List Expr} {it acc:Value} (I:Nat->Shared->Prop)
  (turn:∀ n s,I n s->wpAny (model prog w) A (pyNext it) (λ r s₁=>match r with
  |none=>R (.ok .next) s₁
  |some v=>wpAny (model prog w) A (letOwnedTupleGo target it v) (λ _ s₁'=>wpAny (model prog w) A (assign target env v) (λ _ s₂ =>
     wpAny (model prog w) A (forIn ifs true λ c r=>if r=true then do let ok <- isTrue c env (eval c env);pure (ForInStep.yield ok) else pure (ForInStep.yield r)) (λ ok s₃ =>
      if ok=true then wpAny (model prog w) A (eval elt env) (λ x s₄ =>
       wpAny (model prog w) A (call (.builtin "list.append") [acc,x]) (λ _ s₅=>∃ m,m < n/\I m s₅) (notedBy (model prog w) A env λ e s'=>R (.error e) s') s₄) (notedBy (model prog w) A env λ e s'=>R (.error e) s') s₃
      else ∃ m,m < n/\I m s₃) (notedBy (model prog w) A env λ e s'=>R (.error e) s') s₂) (notedBy (model prog w) A env λ e s'=>R (.error e) s') s₁') (notedBy (model prog w) A env λ e s'=>R (.error e) s') s₁) (notedBy (model prog w) A env λ e s'=>R (.error e) s') s)
  (n:Nat) (h:I n s) :
  codeAny (model prog w) A (.compLoop (.ListComp elt [⟨target,iter,ifs,0⟩] scope pos) 0 it acc env) R s:=by
 refine codeAny_loop rfl I (λ n s hI=>?_) n h;show wpAny _ A ((compTurn (.ListComp elt [⟨target,iter,ifs,0⟩] scope pos) 0 it acc env).onRaise (λ x=>do noteFrame x env;theTreesLotGoes x)) _ _ s;refine wpAny_noted ?_;rw [compTurn_list];refine wpAny_bind (wpAny_standAt (wpAny_bind (wpAny_mono (turn n s hI) (λ r s₁ h₁=>?_) λ _ _ h'=>h')));cases r with
|none=>exact wpAny_pure h₁
|some v =>
  refine wpAny_bind (wpAny_mono h₁ (λ _ s₁' h₁'=>?_) λ _ _ h'=>h');refine wpAny_bind (wpAny_mono h₁' (λ _ s₂ h₂=>wpAny_bind (wpAny_mono h₂ (λ ok s₃ h₃=>?_) λ _ _ h'=>h')) λ _ _ h'=>h');cases ok with
 |false=>exact wpAny_pure ⟨rfl,h₃⟩
 |true =>
   exact wpAny_bind (wpAny_bind (wpAny_mono h₃ (λ x s₄ h₄=>wpAny_bind (wpAny_mono h₄ (λ _ s₅ h₅=>wpAny_pure (wpAny_pure ⟨rfl,h₅⟩)) λ _ _ h'=>h')) λ _ _ h'=>h'))
end
abbrev zfq (X:Cx) (scope:Scope) (C:Addr):List (Str×Addr):=cellsFrom (C+1) scope.names (zj5 X.env scope.names [])
noncomputable def zv6 (X:Cx) (scope:Scope) (N:List Str) (s₀:Shared) (H₀:Hp) (C:Addr) (fp:List Addr):Cx where
 prog:=X.prog
 w:=X.w
 K:=X.K
 mg:=X.mg
 base:=X.base
 A:=X.A
 N:=N
 s₀:=s₀
 H₀:=H₀
 env:=compEnvC scope (zfq X scope C) C X.env
 outer:=X.stack
 stack:=X.stack
 ex:=fp
 fn:=λ x=>decide (scope.names.lookup x=some .cell)
 calm:=X.calm
 pn:=[]
 xe:=λ _ _=>False
def zie (N:List Str) (own:List Str) (ix:List Nat):List Str:=own++ix.map λ i=>N.getD i ""
def compY (n:Nat) (ix:List Nat) (Y:St):St:=vP n none++ix.map λ i=>Y.getD i none
structure CompSc (sc:Scope) (N own:List Str) (ix:List Nat) (scope:Scope):Prop where
 kind:scope.kind=.function
 cell:(scope.names.map (·.1)).Nodup
 names:∀ y∈scope.names,y.2=.local->scope.names.lookup y.1=some .local
 free:∀ y∈scope.names,y.2=.free->sc.names.lookup y.1=some .cell \/ sc.names.lookup y.1=some .free
 caps:∀ i∈ix,i < N.length/\scope.names.lookup (N.getD i "")≠some .local/\scope.names.lookup (N.getD i "")≠some .cell
theorem zva {env : Env} {x : Str} : ∀ (names : List (Str × NameKind)),
    ((names.map fun (n, k) => if (k == NameKind.free && env.scope.kind == .function && env.kindOf n == some .cell) then (n, NameKind.cell) else (n, k)).lookup x = some .cell ∨
     (names.map fun (n, k) => if (k == NameKind.free && env.scope.kind == .function && env.kindOf n == some .cell) then (n, NameKind.cell) else (n, k)).lookup x = some .free) → names.lookup x = some .free ∨ names.lookup x = some .cell
  | [], h => by rcases h with h | h <;> cases h
  | (n, k) :: r, h => by
    have ih := zva (env := env) (x := x) r;rw [vW] at h;by_cases hx : (x == n) = true
    · rw [wA, hx];dsimp only at h ⊢;by_cases hcc : (k == NameKind.free && env.scope.kind == .function && env.kindOf n == some .cell) = true
      · have : k = .free := by
          have := (uaL.mp (uaL.mp hcc).1).1;exact beq_iff_eq.mp this
        rw [this]; exact .inl rfl
      · rw [if_neg hcc, wA, hx] at h;exact h.symm
    · have hx' : (x == n) = false := by simpa using hx
      rw [wA, hx'];refine ih ?_;by_cases hcc : (k == NameKind.free && env.scope.kind == .function && env.kindOf n == some .cell) = true
      · simp only [hcc, if_true] at h;rw [wA, hx'] at h;exact h
      · simp only [hcc, xO, if_false] at h;rw [wA, hx'] at h;exact h
section
variable {X:Cx} {pins:List (Addr×Obj)} {Y:St} {H H':Hp} {s:Shared}
theorem zkx {own:List Str} {ix:List Nat} {h₁:Heap} {m:Str->Option Value} {t':Nat} (I:Inv X pins Y H s) (S:CompSc X.env.scope X.N own ix scope)
  (hns:h₁.Ns s.heap.objs.size m) (kc:∀ x c,(zfq X scope s.heap.objs.size).lookup x=some c->∃ v,h₁.IsCell c v) (k:∀ b o,s.heap.get? b=some o->h₁.get? b=some o) (hf:∀ b∈fp,FpOk X pins H b) (hfo:∀ b∈fp,b < s.heap.objs.size) :
  Inv (zv6 X scope (zie X.N own ix) s H s.heap.objs.size fp) [] (compY own.length ix Y) H { s with heap:=h₁,toks:=t' }:=by
 have hcl:∀ x c,(zj5 X.env scope.names []).lookup x=some c->X.env.cells.lookup x=some c:=λ x c e=>ztd scope.names [] (λ _ _ q=>by cases q) e;have hcl2:∀ x c,(zfq X scope s.heap.objs.size).lookup x=some c->X.env.cells.lookup x=some c \/ s.heap.objs.size+1<=c:=λ x c e=>(zyy _ _ _ e).imp (hcl x c) And.right;have hfree:∀ x,((relabel scope X.env).names.lookup x=some .cell \/ (relabel scope X.env).names.lookup x=some .free)->scope.names.lookup x=some .free \/ scope.names.lookup x=some .cell:=λ x hx=>zva scope.names hx;have hX:∀ x,scope.names.lookup x=some .free->X.env.kindOf x=some .cell \/ X.env.kindOf x=some .free:=λ x hx=>S.free (x,.free) (PySem.mem_of_lookup hx) rfl;refine ⟨⟨I.ok.mod,S.kind,I.ok.glob,I.ok.blt,u6 _,zkv _ _ _ (λ x c e=>?_) (λ x y c e1 e2=>I.ok.inj x y c (hcl x c e1) (hcl y c e2)),λ x hx=>?_,λ x c z e=>?_,I.ok.hd,I.ok.frames,.inl rfl,λ b hb=>?_,I.bs,wU I.ok.bsz I.sz,λ b o e hb=>?_,λ b hb hs=>?_,I.stack,I.stkFree⟩,
  rfl,I.bare,Un.kept k,⟨m,hns,λ i x v e1 e2 e3=>?_⟩,kc,I.hok.fresh (u6 _),λ x c e=>(hcl2 x c e).elim (I.freeC x c) (λ z=>I.hok.fresh (yW z)),λ p hp=>absurd (show p∈([]:List (Addr×Obj)) from hp) (by simp),I.hok.kept k,?_⟩
 ·obtain ⟨v,z⟩:=I.cell x c (hcl x c e);exact yJ z.lt
 ·refine xH.mp (PySem.W.cellsFrom_some _ _ _ ?_);rcases hfree x hx with hx1|hx1
  ·exact .inr (xH.mpr (zga scope.names [] (PySem.mem_of_lookup hx1) (I.ok.has x (hX x hx1))))
  ·exact .inl hx1
 ·rcases zyy _ _ _ e with q|q
  ·rcases zoc _ _ q with q|q
   ·have:=zkh S.cell (PySem.mem_of_lookup (of_decide_eq_true z)) q;cases this
   ·cases q
  ·exact yW q.2
 ·exact ⟨wC (hfo b hb),λ x c e=>(hcl2 x c e).elim ((hf b hb).2.2.2.2.1 x c) λ z e2=>absurd (wS (hfo b hb) (yW (e2 ▸ z))) (wW _)⟩
 ·rcases (hf b hb).2.2.2.1 with z|z
  ·exact I.ok.noex b o e z
  ·exact absurd (wS (vO e) (wU I.ok.bsz z)) (wW _)
 ·rcases vL.mp (I.stkSub b hs) with z|z
  ·exact (hf b hb).2.1 z
  ·exact (hf b hb).2.2.1 z
 ·-- a captured name
  have e2':(vP own.length (none:Option V)++ix.map λ i=>Y.getD i none)[i]?=some (some v):=e2;have e1':(own++ix.map λ i=>X.N.getD i "")[i]?=some x:=e1;by_cases hi:i < own.length
  ·rw [wN (by simpa using hi),xI] at e2';split at e2' <;> cases e2'
  ·have hi':own.length<=i:=Nat.le_of_not_lt hi;rw [wK (by simpa using hi'),yH,u8] at e2';rw [wK hi',u8] at e1';cases hq:ix[i - own.length]? with
  |none=>rw [hq] at e2';cases e2'
  |some q =>
    rw [hq] at e1' e2';have ex:X.N.getD q ""=x:=wI.inj e1';have ev:Y.getD q none=some v:=wI.inj e2';obtain ⟨hql,hnl⟩:=S.caps q (wF hq);rw [ex] at hnl;have hnc:=hnl.2
    replace hnl:=hnl.1
    have e3':(relabel scope X.env).names.lookup x=some .local \/ (relabel scope X.env).names.lookup x=some .cell \/ (relabel scope X.env).names.lookup x=some .free:=e3;have hcf:(relabel scope X.env).names.lookup x=some .cell \/ (relabel scope X.env).names.lookup x=some .free:=by
     rcases e3' with z|z
     ·exfalso;cases hs:scope.names.lookup x with
     |none =>
       have:∀ (names:List (Str×NameKind)),names.lookup x=none->(names.map λ (n,k)=>if (k == NameKind.free && X.env.scope.kind == .function && X.env.kindOf n == some .cell) then (n,NameKind.cell) else (n,k)).lookup x=none:=by
        intro names
        induction names with
       |nil=>intro _;rfl
       |cons y r ih =>
         obtain ⟨n,kk⟩:=y;intro hh;rw [wA] at hh;by_cases hxn:(x == n)=true
         ·rw [hxn] at hh;cases hh
         ·have hx':(x == n)=false:=by simpa using hxn
          rw [hx'] at hh;rw [vW];by_cases hcc:(kk == NameKind.free && X.env.scope.kind == .function && X.env.kindOf n == some .cell)=true
          ·simp only [hcc,if_true];rw [wA,hx'];exact ih hh
          ·simp only [hcc,xO,if_false];rw [wA,hx'];exact ih hh
       have q0:=this scope.names hs;have z':(scope.names.map λ (n,k)=>if (k == NameKind.free && X.env.scope.kind == .function && X.env.kindOf n == some .cell) then (n,NameKind.cell) else (n,k)).lookup x=some .local:=z;rw [q0] at z';cases z'
     |some kk =>
       have:∀ (names:List (Str×NameKind)),names.lookup x=some kk->(names.map λ (n,k)=>if (k == NameKind.free && X.env.scope.kind == .function && X.env.kindOf n == some .cell) then (n,NameKind.cell) else (n,k)).lookup x=some .local->kk=.local:=by
        intro names
        induction names with
       |nil=>intro h;cases h
       |cons y r ih =>
         obtain ⟨n,k2⟩:=y;intro hh hz;rw [wA] at hh;rw [vW] at hz;by_cases hxn:(x == n)=true
         ·rw [hxn] at hh;have hk2:k2=kk:=wI.inj hh;by_cases hcc:(k2 == NameKind.free && X.env.scope.kind == .function && X.env.kindOf n == some .cell)=true
          ·simp only [hcc,if_true] at hz;rw [wA,hxn] at hz;cases hz
          ·simp only [hcc,xO,if_false] at hz;rw [wA,hxn] at hz;rw [<- hk2];exact wI.inj hz
         ·have hx':(x == n)=false:=by simpa using hxn
          rw [hx'] at hh;by_cases hcc:(k2 == NameKind.free && X.env.scope.kind == .function && X.env.kindOf n == some .cell)=true
          ·simp only [hcc,if_true] at hz;rw [wA,hx'] at hz;exact ih hh hz
          ·simp only [hcc,xO,if_false] at hz;rw [wA,hx'] at hz;exact ih hh hz
       have:=this scope.names hs z;rw [this] at hs;exact hnl hs
     ·exact z
    have hfr:=(hfree x hcf).resolve_right hnc;have hkX:=hX x hfr;obtain ⟨mX,hnX,hlX⟩:=I.loc;have eN:X.N[q]?=some x:=by
     rw [<- ex,vS];rw [u7 hql];rfl
    have eY:Y[q]?=some (some v):=by
     rw [vS] at ev;cases hs:Y[q]? with
    |none=>rw [hs] at ev;cases ev
    |some o=>rw [hs] at ev;exact congrArg some ev
    obtain ⟨u,r,l⟩:=hlX q x v eN eY (.inr hkX);refine ⟨u,r,.inr ⟨hcf,?_⟩⟩;rcases l with ⟨hk,_⟩|⟨_,c,ec,hcell⟩
    ·exfalso;rcases hkX with z|z
     ·rw [hk] at z;cases z
     ·rw [hk] at z;cases z
    ·obtain ⟨c',ec'⟩:=zga scope.names [] (PySem.mem_of_lookup hfr) ⟨c,ec⟩;have:=hcl x c' ec';rw [ec] at this;cases this;exact ⟨c,(zxt _ _ _ λ z=>by cases zkh S.cell z (PySem.mem_of_lookup hfr)).trans ec',hcell.keeps k⟩
 ·show (compY own.length ix Y).length=(zie X.N own ix).length;unfold compY zie;simp
theorem zdl {pins':List (Addr×Obj)} {Y':St} {s':Shared} {h'':Heap} (I:Inv X pins Y H s) (hf:∀ b∈fp,FpOk X pins H b)
  (I':Inv (zv6 X scope N s H s.heap.objs.size fp) pins' Y' H' s') (sb:Heap.SameBut s.heap.objs.size s'.heap h''):Inv X pins Y H' { s' with heap:=h'' }:=by
 have ext:∀ b o,b≠s.heap.objs.size->s'.heap.get? b=some o->h''.get? b=some o:=λ b o nb e=>by rw [sb.2 b nb];exact e
 have old:∀ b o,s.heap.get? b=some o->b≠s.heap.objs.size:=λ b o e=>wC (vO e);have u:=I'.base;refine I.call' (ch:=fp) I'.os ⟨λ b o e n hb hx=>ext b o (old b o e) (u.keep b o e n hb hx),λ b o e n hb hx=>?_,u.free,λ b o e hx=>?_,u.tups,u.frzs,u.tbls⟩ (λ b ob e=>?_) I'.bare λ b hb=>⟨(hf b hb).2.2.2.1,(hf b hb).2.1,(hf b hb).2.2.2.2.1,(hf b hb).2.2.2.2.2⟩
 ·obtain ⟨sl,q⟩:=u.slot b o e n hb hx;exact ⟨sl,ext b _ (old b o e) q⟩
 ·obtain ⟨o',q⟩:=u.there b o e hx;exact ⟨o',ext b _ (old b o e) q⟩
 ·have nC:∀ c v,H' c=some v->c≠s.heap.objs.size:=λ c v q z=>by
   have:=I'.free;rw [z] at q;have z2:H' s.heap.objs.size=none:=this;rw [z2] at q;cases q
  refine (I'.hok b ob e).stay (λ c v hc q=>ext c v ?_ q) (λ _ q=>q) λ _ _ q=>q;rcases hc with z|z
  ·rw [z];exact nC b ob e
  ·exact nC c _ z
end
noncomputable def zxc1 (n:Nat) (ix:List Nat) (g:TG) (tt:TT) (te:TE) (Y:St) (J:It) (H1:Hp) (Q:VK):Prop:=∀ D,H1 D=none->∃ W:Nat->Nat->List V->St->Hp->Prop,(∃ m,W 0 m [] (compY n ix Y) (upd H1 D (.lst []))) /\
 ∀ i m acc Y' H',W i m acc Y' H'->(J.stop i H'/\Q (.ref D) H') \/ (J.go i H'/\∃ N:List V->St->Hp->Prop,(∀ acc' Y2 H2,N acc' Y2 H2->∃ m',m' < m/\W (i+1) m' acc' Y2 H2) /\
  ∀ x H2,J.yld i H' x H2->g x Y' H2 λ Y2 H3=>tt Y2 H3 λ b H4=>if b=true then te Y2 H4 λ y H5=>H5 D=some (.lst acc)/\acc.length < sizeLine/\N (acc++[y]) Y2 (upd H5 D (.lst (acc++[y]))) else N acc Y2 H4)
def zx41 (wi:TI) (n:Nat) (ix:List Nat) (g:TG) (tt:TT) (te:TE):TE:=λ Y H Q=>wi Y H λ J H1=>zxc1 n ix g tt te Y J H1 Q
def zl71:TT:=λ _ H Q=>Q true H
noncomputable def PIf (X:Cx) (ifs:List Expr) (t:TT):Prop :=
 ∀ (pins:List (Addr×Obj)) (s:Shared) (Y:St) (H:Hp) (Q:Bool->Hp->Prop),Inv X pins Y H s->t Y H Q ->
  wpAny (model X.prog X.w) X.A (forIn ifs true λ c r=>if r=true then do let ok <- isTrue c X.env (eval c X.env);pure (ForInStep.yield ok) else pure (ForInStep.yield r)) (TP X pins Y Q) X.xe s
theorem zv5:PIf X [] zl71:=λ pins s Y H Q I h=>wpAny_tests_nil ⟨H,I,h⟩
theorem zvs {c:Expr} {t:TT} (h:PT X c t):PIf X [c] t:=λ pins s Y H Q I q=>wpAny_tests_one (h pins s Y H Q I q)
section
variable {X:Cx} {tg iter elt:Expr} {ifs:List Expr} {scope:Scope} {pos:Pos} {own:List Str} {ix:List Nat} {wi:TI} {g:TG} {tt:TT} {te:TE} {sc:Scope} {N:List Str}
theorem zjf {pins:List (Addr×Obj)} {Y:St} {s2:Shared} {itv:Value} {Q:VK} {RR:Value->Addr->Result->Shared->Prop} {E:Value->Shared->Prop} (hc:X.calm=true) (S:CompSc X.env.scope X.N own ix scope)
  (hb:∀ s₀ H₀ C fp,PG (zv6 X scope (zie X.N own ix) s₀ H₀ C fp) tg g/\PIf (zv6 X scope (zie X.N own ix) s₀ H₀ C fp) ifs tt/\PE (zv6 X scope (zie X.N own ix) s₀ H₀ C fp) elt te)
  (h2:PIE X pins Y tg (λ J H1=>zxc1 own.length ix g tt te Y J H1 Q) itv s2)
  (hR:∀ (D C:Addr) (m:Str->Option Value) (s':Shared) (H':Hp),s'.heap.Ns C m->C≠X.env.locals->(∀ x c,X.env.cells.lookup x=some c->c≠C)->H' C=none->(X.s₀.heap.objs.size<=C)->(∀ p∈X.pn++pins,p.1≠C) ->
   (∀ h'',Heap.SameBut C s'.heap h''->Inv X pins Y H' { s' with heap:=h'' })->Q (.ref D) H'->RR (.ref D) C (.ok .next) s') :
  wpAny (model X.prog X.w) X.A (newList []) (λ acc s₃=>wpAny (model X.prog X.w) X.A (newFunctionEnv scope X.env.globals (zj5 X.env scope.names []) [] X.env.qual none .none (some X.env)) (λ cenv s₄ =>
   codeAny (model X.prog X.w) X.A (.compStart (.ListComp elt [⟨tg,iter,ifs,0⟩] scope pos) 0 itv acc { cenv with scope:=relabel scope X.env }) (RR acc cenv.locals) s₄) E s₃) E s2:=by
 obtain ⟨it,fp,tn,J,H1,e,I2,T,st2,f2,h⟩:=h2;subst e;have hD:H1 s2.heap.objs.size=none:=I2.hok.fresh (u6 _);obtain ⟨W,⟨m0,w0⟩,turn⟩:=h _ hD;have hlt:∀ b∈fp,b < s2.heap.objs.size:=λ b hbf=>by obtain ⟨o,e,_⟩:=T.obj 0 _ st2 b hbf;exact vO e
 refine wpAny_newObj_type ?_
 -- the new list is tracked
 have I3:Inv X pins Y (upd H1 s2.heap.objs.size (.lst [])) { s2 with heap:=s2.heap.push { cls:=.type "list",dict:=none,data:=.seq ([]:List Value).toArray } }:=I2.lnew (ys:=[]) (its:=[]) .nil (wE _);generalize hs3:({ s2 with heap:=s2.heap.push { cls:=.type "list",dict:=none,data:=.seq ([]:List Value).toArray } }:Shared)=s3 at I3 ⊢;have hsz:s3.heap.objs.size=s2.heap.objs.size+1:=by rw [<- hs3];exact yG ..
 have k3:∀ b o,s2.heap.get? b=some o->s3.heap.get? b=some o:=λ b o e=>by rw [<- hs3];exact vM _ e
 have neD:∀ b∈fp,b≠s2.heap.objs.size:=λ b hbf=>wC (hlt b hbf);have f3:∀ b∈fp,FpOk X pins (upd H1 s2.heap.objs.size (.lst [])) b:=λ b hbf=>⟨by rw [zr0 (neD b hbf)];exact (f2 b hbf).1,(f2 b hbf).2⟩
 have hlt3:∀ b∈fp,b < s3.heap.objs.size:=λ b hbf=>by rw [hsz];exact yJ (hlt b hbf)
 refine zlf ?_;have hns₁:=(Heap.Ns.new s3.heap (.type "dict")).keeps (pushCells_keeps scope.names _);have k4:∀ b o,s3.heap.get? b=some o->(pushCells (s3.heap.push { cls:=.type "dict",data:=.dict #[] }) scope.names).get? b=some o:=λ b o e=>pushCells_keeps _ _ b o (vM _ e);have hcl:∀ x c,(zj5 X.env scope.names []).lookup x=some c->X.env.cells.lookup x=some c:=λ x c e=>ztd scope.names [] (λ _ _ q=>by cases q) e;have kc:=zwk scope.names (s3.heap.push { cls:=.type "dict",data:=.dict #[] }) (zj5 X.env scope.names []) (λ x c e=>by
  obtain ⟨v,z⟩:=I3.cell x c (hcl x c e);exact ⟨v,z.keeps λ b o e=>vM _ e⟩)
 rw [yG] at kc;generalize pushCells (s3.heap.push { cls:=.type "dict",data:=.dict #[] }) scope.names=h₁ at hns₁ k4 kc ⊢;have I4:=zkx (t':=s3.toks) I3 S hns₁ kc k4 f3 hlt3;obtain ⟨hG,hT,hE⟩:=hb s3 (upd H1 s2.heap.objs.size (.lst [])) s3.heap.objs.size fp;have fp':∀ {H':Hp},(∀ b∈fp,H' b=none)->∀ b∈fp,FpOk (zv6 X scope (zie X.N own ix) s3 (upd H1 s2.heap.objs.size (.lst [])) s3.heap.objs.size fp) [] H' b:=λ {H'} hn b hbf=>by
  refine ⟨hn b hbf,wC (hlt3 b hbf),?_,.inl hbf,λ x c e=>(zyy _ _ _ e).elim (λ q=>(f2 b hbf).2.2.2.2.1 x c (hcl x c q)) (λ q e2=>absurd (wS (hlt3 b hbf) (yW (e2 ▸ q.2))) (wW _)),λ p hp=>absurd (show p∈([]:List (Addr×Obj)) from hp) (by simp)⟩;intro z;rcases vL.mp (I3.stkSub b z) with z|z
  ·exact (f2 b hbf).2.1 z
  ·exact (f2 b hbf).2.2.1 z
 have st4:tn 0 h₁:=T.keep _ _ _ st2 λ b _ o e=>k4 b o (k3 b o e);have cne:∀ x c,X.env.cells.lookup x=some c->c≠s3.heap.objs.size:=λ x c e z=>by
  obtain ⟨v,q⟩:=I3.cell x c e;exact absurd q.lt (by rw [z];exact wW _)
 have loop:codeAny (model X.prog X.w) X.A (.compLoop (.ListComp elt [⟨tg,iter,ifs,0⟩] scope pos) 0 (.ref it) (.ref s2.heap.objs.size) (compEnvC scope (zfq X scope s3.heap.objs.size) s3.heap.objs.size X.env)) (RR (.ref s2.heap.objs.size) s3.heap.objs.size) { s3 with heap:=h₁ }:=by
  refine zcg (λ n s'=>∃ i acc Y' H',Inv (zv6 X scope (zie X.N own ix) s3 (upd H1 s2.heap.objs.size (.lst [])) s3.heap.objs.size fp) [] Y' H' s'/\tn i s'.heap/\(∀ b∈fp,H' b=none)/\W i n acc Y' H') ?_ m0 ⟨0,[],_,_,I4,st4,λ b hbf=>(f3 b hbf).1,w0⟩;rintro n s5 ⟨i,acc,Y5,H5,I5,st5,fr5,w5⟩;rcases turn i n acc Y5 H5 w5 with ⟨stop,qn⟩|⟨go,NN,hN,step⟩
  ·refine thn (T.done (zv6 X scope (zie X.N own ix) s3 (upd H1 s2.heap.objs.size (.lst [])) s3.heap.objs.size fp) rfl rfl rfl hc i [] s5 Y5 H5 _ I5 (fp' fr5) st5 stop) λ r s6 hz=>?_;obtain ⟨hr,I6⟩:=hz;subst hr;obtain ⟨m6,hn6,_⟩:=I6.loc;exact hR _ _ m6 s6 H5 hn6 (yU I3.lt) cne I6.free (I3.sz) (λ p hp z=>absurd (vO (I3.pin p hp).1) (by rw [z];exact wW _)) (λ h'' sb=>zdl I3 f3 I6 sb) qn
  ·refine thn (T.item (zv6 X scope (zie X.N own ix) s3 (upd H1 s2.heap.objs.size (.lst [])) s3.heap.objs.size fp) rfl rfl rfl hc i [] s5 Y5 H5 _ I5 (fp' fr5) st5 go) λ r s6 hz=>?_;obtain ⟨u,hr,h6⟩:=hz;subst hr;refine thn h6 λ _ s7 hz=>?_;obtain ⟨x,H7,I7,r7,y7,st7,fr7⟩:=hz;have I7':=I7.pinned (fp' fr7) (T.obj _ _ st7);have noE:∀ {α:Type} {t:Sem α} {Q1:α->Shared->Prop} {E1:Value->Shared->Prop} {sx:Shared},wpAny (model X.prog X.w) X.A t Q1 (λ _ _=>False) sx->wpAny (model X.prog X.w) X.A t Q1 E1 sx:=λ q=>wpAny_noRaise q;refine noE (thn (hG _ s7 Y5 H7 x u _ I7' r7 (step x H7 y7)) λ _ s8 hz=>?_);obtain ⟨Y8,H8,I8,q8⟩:=hz;refine noE (thn (hT _ s8 Y8 H8 _ I8 q8) λ b s9 hz=>?_);obtain ⟨H9,I9,q9⟩:=hz;have again:∀ {Yz:St} {Hz:Hp} {sz:Shared} {accz:List V},Inv (zv6 X scope (zie X.N own ix) s3 (upd H1 s2.heap.objs.size (.lst [])) s3.heap.objs.size fp) ([]++zxn fp s7.heap) Yz Hz sz->NN accz Yz Hz->∃ m,m < n/\∃ i acc Y' H',Inv (zv6 X scope (zie X.N own ix) s3 (upd H1 s2.heap.objs.size (.lst [])) s3.heap.objs.size fp) [] Y' H' sz/\tn i sz.heap/\(∀ b∈fp,H' b=none)/\W i m acc Y' H':=λ {Yz Hz sz accz} Iz nz=>by
    obtain ⟨m',hm,wz⟩:=hN accz Yz Hz nz;refine ⟨m',hm,i+1,accz,Yz,Hz,Iz.unpinned,T.keep _ _ _ st7 λ b hbf o e=>(Iz.pin (b,o) (wX _ (wX _ (zo8 hbf e)))).1,λ b hbf=>?_,wz⟩;obtain ⟨o,e,d⟩:=T.obj _ _ st7 b hbf;exact (Iz.pin (b,o) (wX _ (wX _ (zo8 hbf e)))).2.1
   cases b with
  |false =>
    have q9':NN acc Y8 H9:=by simpa using q9
    simp only [xO,if_false];exact again I9 q9'
  |true =>
    have q9':te Y8 H9 λ y H5=>H5 s2.heap.objs.size=some (.lst acc)/\acc.length < sizeLine/\NN (acc++[y]) Y8 (upd H5 s2.heap.objs.size (.lst (acc++[y]))):=by simpa using q9
    simp only [if_true];refine noE (thn (hE _ s9 Y8 H9 _ I9 q9') λ y s10 hz=>?_);obtain ⟨yv,H10,I10,r10,hl,hz,q10⟩:=hz;refine noE (thn (zy1 _ s10 Y8 H10 (.ref s2.heap.objs.size) [yv] (.ref s2.heap.objs.size) [y] (λ _ H'=>NN (acc++[yv]) Y8 H') I10 rfl (.cons r10 .nil) ⟨_,acc,yv,rfl,rfl,hl,hz,q10⟩) λ _ s11 hz=>?_);obtain ⟨_,H11,I11,_,q11⟩:=hz;exact again I11 q11
 exact codeAny_compStart_list loop (T.self X.A 0 _ _ _ st4 loop)
theorem zl9 (hc:X.calm=true) (hsc:X.env.scope=sc) (hN:X.N=N) (S:CompSc sc N own ix scope) (hi:PI X tg iter wi)
  (hb:∀ s₀ H₀ C fp,PG (zv6 X scope (zie N own ix) s₀ H₀ C fp) tg g/\PIf (zv6 X scope (zie N own ix) s₀ H₀ C fp) ifs tt/\PE (zv6 X scope (zie N own ix) s₀ H₀ C fp) elt te)
  (hs:∀ x,foldedSetIterable iter X.env x=pure x:=by intro _;rfl):PE X (.ListComp elt [⟨tg,iter,ifs,0⟩] scope pos) (zx41 wi own.length ix g tt te):=by
 subst hsc hN;intro pins s Y H Q I h;rw [eval_ListComp];refine wpAny_comprehension_free (use:=none) (g:=⟨tg,iter,ifs,0⟩) (gs:=[]) rfl hs (zne λ y hy hf=>I.ok.has y.1 (S.free y hy hf)) S.kind S.names ?_;show wpAny _ _ (eval iter X.env) _ _ _;refine thn (hi pins s Y H _ I h) λ v s1 h1=>thn h1 λ itv s2 h2=>?_;refine zjf (Q:=Q) (RR:=λ acc C=>compPost (model X.prog X.w) X.A X.xe none (EP X pins Y Q) acc C) hc S hb h2 ?_;intro D C m s' H' hns _ _ _ _ _ hI q;exact ⟨m,hns,λ h'' sb=>⟨.ref D,H',hI h'' sb,rfl,q⟩⟩
theorem zy4 {i:Nat} {pos' pos2:Pos} (hc:X.calm=true) (hsc:X.env.scope=sc) (hN:X.N=N) (S:CompSc sc N own ix scope) (hnd:X.N.Nodup) (hxi:X.N[i]?=some x) (hx:X.env.scope.names.lookup x=some .local) (hi:PI X tg iter wi)
  (hb:∀ s₀ H₀ C fp,PG (zv6 X scope (zie N own ix) s₀ H₀ C fp) tg g/\PIf (zv6 X scope (zie N own ix) s₀ H₀ C fp) ifs tt/\PE (zv6 X scope (zie N own ix) s₀ H₀ C fp) elt te)
  (hsw:swapsWith (.ListComp elt [⟨tg,iter,ifs,0⟩] scope pos) (some (.Name x pos')) pos2.line X.env=pure true:=by rfl)
  (hs:∀ x,foldedSetIterable iter X.env x=pure x:=by intro _;rfl):PS X (.Assign [.Name x pos'] (.ListComp elt [⟨tg,iter,ifs,0⟩] scope pos) pos2) (tAsg (zx41 wi own.length ix g tt te) (zqp i)):=by
 subst hsc hN;intro pins s Y H D I h;rw [exec_Assign_Name_used _ _ _ _ hsw];refine wpAny_bind (wpAny_standAt (wpAny_bind ?_));show wpAny _ X.A (do let _ <- comprehension (.ListComp elt [⟨tg,iter,ifs,0⟩] scope pos) scope X.env _ (newList []) false (eval iter X.env) (some (assign (.Name x pos') X.env))) _ _ s;refine wpAny_bind (wpAny_mono (wpAny_comprehension_free (use:=some (assign (.Name x pos') X.env)) (g:=⟨tg,iter,ifs,0⟩) (gs:=[]) (Q:=λ _ s'=>SP X pins D .next s') rfl hs (zne λ y hy hf=>I.ok.has y.1 (S.free y hy hf)) S.kind S.names
  (thn (hi pins s Y H _ I h) λ v s1 h1=>thn h1 λ itv s2 h2=>?_)) (λ _ s' hq=>wpAny_pure (wpAny_pure hq)) λ _ _ e=>e)
 refine zjf (Q:=λ v H1=>zqp i v Y H1 D.nx) (RR:=λ acc C=>compPost (model X.prog X.w) X.A X.xe (some (assign (.Name x pos') X.env)) (λ _ s'=>SP X pins D .next s') acc C) hc S hb h2 ?_;intro L C m s' H' hns nL nC hC hC0 hCp hI q;show wpAny _ _ (assign (.Name x pos') X.env (.ref L)) _ _ s';have I':Inv X pins Y H' s':=hI s'.heap ⟨rfl,λ _ _=>rfl⟩;refine wpAny_assign_Name (zdi I' hnd hxi (.inl hx) (v:=.ref L) rfl (λ s2 I2 hch=>?_) (.inr hx));obtain ⟨a,sba,ha⟩:=hch;have naC:C≠a:=by
  rcases ha with z|z
  ·rw [z];exact nL
  ·exact λ e=>nC x a z e.symm
 refine ⟨m,hns.sameBut sba naC,λ h'' sb=>?_⟩;refine ⟨_,H',I2.turned (t':=s2.toks) (it:=C) (λ b o nb e=>?_) hC nL (.inr hC0) nC hCp,q⟩;rw [sb.2 b nb];exact e
end
noncomputable def zqc1 (K:Fg):R2:=λ x y H Q=>rI0 (λ i j=>.int (i+j)) x y H Q \/ (∃ i j,x=.str i/\y=.str j/\i.length+j.length<=sizeLine/\Q (.str (i++j)) H) \/ rCat x y H Q \/ zya1 K x y H Q
def zra1:R2:=λ x y H Q=>rI CMul (λ i j=>.int (i * j)) x y H Q \/ rRep x y H Q
def rSlU (K:Fg):V->Option Int->Option Int->Hp->VK->Prop:=λ x lo hi H Q=>rSlL K x lo hi H Q \/ rSlT K x lo hi H Q
noncomputable def ztd1 (K:Fg) (x:V) (H:Hp) (R:It->Hp->Prop):Prop:=(∃ a,x=.ref a/\(∃ xs,SqL K H a xs)/\R (Itl K a) H) \/ (∃ a,x=.ref a/\(∃ xs,SqT K H a xs)/\R (Itt K a) H)
def rLen (K:Fg):List V->Hp->VK->Prop:=λ xs H Q=>∃ x n,xs=[x]/\LenV K x H n/\Q (.int (n:Nat)) H
def zlb1:List V->Hp->VK->Prop:=λ xs H Q=>∃ i j,xs=[.int i,.int j]/\Q (.int (if j > i then j else i)) H
def zqd1 (xs:List V) (H:Hp) (Q:VK):Prop:=xs.length<=sizeLine/\∀ p,H p=none->Q (.ref p) (upd H p (.tup xs))
def zvd1 (xs:List V) (H:Hp) (Q:VK):Prop:=xs.length<=sizeLine/\∀ p,H p=none->Q (.ref p) (upd H p (.lst xs))
def zr51 (t:TA):TE:=λ Y H Q=>t Y H λ xs H1=>zqd1 xs H1 Q
def zl51 (t:TA):TE:=λ Y H Q=>t Y H λ xs H1=>zvd1 xs H1 Q
def zpd1 (x:V) (H:Hp) (Q:Option Int->Hp->Prop):Prop:=∃ i,x=.int i/\Q (some i) H
def zv21 (t:TE):TO:=λ Y H Q=>t Y H λ x H1=>zpd1 x H1 Q
noncomputable def kFld (K:Fg) (f:Str) (x:V) (H:Hp) (Q:VK):Prop:=∃ a C dx fs v,x=.ref a/\H a=some (.ins C dx fs)/\Cls K C/\NoAttr K C f/\fs.lookup f=some v/\Q v H
def zcb1 (K:Fg) (ta:TE) (f:Str):TE:=λ Y H Q=>ta Y H λ x H1=>kFld K f x H1 Q
def kBl (x:V) (H:Hp) (Q:Bool->Hp->Prop):Prop:=∃ k,x=.bl k/\Q k H
def zj01 (t:TE):TT:=λ Y H Q=>t Y H λ x H'=>kBl x H' Q
def kTru (K:Fg) (x:V) (H:Hp) (Q:Bool->Hp->Prop):Prop:=∃ k,TruV K x H k/\Q k H
def zwb1 (K:Fg) (t:TE):TT:=λ Y H Q=>t Y H λ x H'=>kTru K x H' Q
section
variable {X:Cx} {tg:Expr}
theorem ze01 (h:X.K=K):OpR X (binaryOp .Add) (zqc1 K):=h ▸ zy61.or (zlm.or (zw91.or zrz))
theorem zpz:OpR X (binaryOp .Mult) zra1:=zh81.or zqz
theorem ix_U (h:X.K=K):IxR X (rIx K):=h ▸ zf81
theorem sl_U (h:X.K=K):SlR X (rSlU K):=h ▸ zvz.or zn91
theorem ze1 (h:X.K=K):CallR X (.builtin "len") (rLen K):=h ▸ zpw
theorem zyi (hc:X.calm=true):CallR X (.builtin "max") zlb1:=zzp hc
theorem zl1 {t:TA} {x1} (h:PA X es t):PE X (.Tuple es x1 pos) (zr51 t):=zi91 h
theorem zp1 {t:TA} (h:PA X es t):PE X (.List es pos) (zl51 t):=zr31 h
theorem zdd {e:Expr} {te:TE} (h:PE X e te):PO X (some e) (zv21 te):=zx31 h
theorem zs1 (h:X.K=K) {e:Expr} {f:Str} (he:PE X e ta) (hb:attributeBase e f X.env (eval e X.env)=eval e X.env):PE X (.Attribute e f pos) (zcb1 K ta f):=h ▸ zn61 he hb
theorem zt0 {b:Expr} {tb:TE} {op:CmpOp} {r:R2} (ho:OpR X (compareOp op) r) (ha:PE X a ta) (hb:PE X b tb) (hm:behindInMarks op b=false):PT X (.Compare a [op] [b] pos) (zj01 (tOp r ta tb)):=zt21 ho ha hb hm
theorem zw4 (h:X.K=K) (ha:PE X a ta) (he:∀ whole,isTrue a X.env whole=(do let v <- whole;standAt a.pos;holding [v] (truthy v))):PT X a (zwb1 K ta):=h ▸ zcv ha he
def clsV:V->Option Value
|.ty n=>some (.type n)
|.ref a=>some (.ref a)
|_=>none
theorem zdo {cV:V} {c v:Value} (h:clsV cV=some c) (r:RelV cV v):v=c:=by
 cases cV with
|ty n=>cases h;exact r
|ref a=>cases h;exact r
|_=>cases h
noncomputable def rIsI (K:Fg):List V->Hp->VK->Prop:=λ xs H Q=>∃ x cV c t b,xs=[x,cV]/\clsV cV=some c/\TyOf K H x t/\PySem.W.kitOne K t c=some b/\Q (.bl b) H
theorem zyj (h:X.K=K):CallR X (.builtin "isinstance") (rIsI K):=by
 subst h;intro pins s Y H xs us Q I r h;obtain ⟨x,cV,c,t,b,rfl,rc,ty,e,q⟩:=h;obtain ⟨u,v,rfl,ru,rv⟩:=r.two;obtain rfl:=zdo rc rv;exact zfp I ru ty e λ tk=>⟨.bl b,H,I.tok tk,rfl,q⟩
end
noncomputable def Def (P:Program) (w:World) (K:Fg) (mg:Str->Option Value) (base:Heap) (x:Str) (k:Nat) (ps:List Str) (sp:Sp):Prop :=
 ∃ f fd,FnOk P w K mg base CX0 k f fd ps sp/\Binds K fd ps []/\PySem.W.keepIn K (.ref f)=true/\mg x=some (.ref f)
noncomputable def zuo (P:Program) (w:World) (K:Fg) (mg:Str->Option Value) (base:Heap) (x:Str) (C:Addr) (k:Nat) (ps:List Str) (sp:Sp):Prop :=
 ∃ f fd,Mk K C f/\FnOk P w K mg base CX0 k f fd ps sp/\Binds K fd ps []/\mg x=some (.ref C)
noncomputable def MethD (P:Program) (w:World) (K:Fg) (mg:Str->Option Value) (base:Heap) (C:Addr) (m:Str) (k:Nat) (ps:List Str) (sp:Sp):Prop :=
 ∃ f fd,Cls K C/\Meth K C m f/\FnOk P w K mg base CX0 k f fd ps sp/\Binds K fd ps []
section
variable {X:Cx} {k:Nat} {C:Addr} {ps:List Str} {sp:Sp} {x m:Str} {p pos apos:Pos} {e o:Expr} {es:List Expr} {ta:TE} {t:TA}
theorem zo0 (d:Def X.prog X.w X.K X.mg X.base x k ps sp) (hr:Room k X.A) (hg:Gl X x) (ha:PA X (e :: es) t) (hdb:(x == ("__debug__":Str))=false:=by decide)
  (he:starEach (e :: es) X.env=(false,eval e X.env) :: starEach es X.env:=by rfl) (hpl:(backTo pos (starEach es X.env)).any (·.1)=false:=by rfl):PE X (.Call (.Name x p) (e :: es) [] pos) (zly sp [] E0 t):=by
 obtain ⟨f,fd,F,b,kp,m⟩:=d;exact zhr F hr hg m kp b .nil zhy ha hdb he hpl
theorem zvd (d:zuo X.prog X.w X.K X.mg X.base x C k ps sp) (hr:Room (k+1) X.A) (hg:Gl X x) (ha:PA X (e :: es) t) (hdb:(x == ("__debug__":Str))=false:=by decide)
  (he:starEach (e :: es) X.env=(false,eval e X.env) :: starEach es X.env:=by rfl) (hpl:(backTo pos (starEach es X.env)).any (·.1)=false:=by rfl):PE X (.Call (.Name x p) (e :: es) [] pos) (ze61 C sp [] E0 t):=by
 obtain ⟨f,fd,M,F,b,m⟩:=d;exact zv01 M F hr hg m b .nil zhy ha hdb he hpl
theorem zg7 {pl:Sem Bool} (d:MethD X.prog X.w X.K X.mg X.base C m k ps sp) (hr:Room k X.A) (he:PE X o ta) (ha:PA X (e :: es) t)
  (hst:starEach (e :: es) X.env=(false,eval e X.env) :: starEach es X.env:=by rfl) (hpl:(backTo pos (starEach es X.env)).any (·.1)=false:=by rfl)
  (ht:eval (.Call (.Attribute o m apos) (e :: es) [] pos) X.env=(do
   let ov <- eval o X.env
   standAt apos.atName
   let (f,first) <- holding [ov] (getMethod ov m pl)
   callWith pos f first (backTo pos (starEach (e :: es) X.env)) (backToKw pos (keywordEach [] X.env))):=by rfl) :
  PE X (.Call (.Attribute o m apos) (e :: es) [] pos) (zry C m sp [] E0 ta t):=by
 obtain ⟨f,fd,c,M,F,b⟩:=d;exact zlz he c M F hr b .nil zhy ha hst hpl ht
end
theorem zt1 {H:Hp} {p:Addr} (h:H p=none) (o:HO):Same H (upd H p o):=λ b u q=>by rw [zr0 (zz4 q h)];exact q
theorem zto {H H':Hp} {a:Addr} {xs:List V} (e:Same H H') (h:SqT K H a xs):SqT K H' a xs:=by
 rcases h with (h|⟨o,h⟩)|h
 ·exact .inl (.inl (e _ _ h))
 ·exact .inl (.inr ⟨o,e _ _ h⟩)
 ·exact .inr h
section
variable {K:Fg} {Y:St} {H:Hp} {Q:VK} {D:Ends} {a b p:Addr} {i j k:Int} {x y v:V} {xs ys:List V} {ta tb te:TE} {t u:TS} {tA:TA} {tt tt':TT} {A B:Prop}
theorem zad1 (h:SqT K H a xs) (e:atI xs i=some v) (q:Q v H):rIx K (.ref a) (.int i) H Q:=.inr (.inl ⟨a,xs,i,v,rfl,rfl,h,e,q⟩)
end
theorem zh5:bootBuiltins "len"=some (.builtin "len"):=by decide +kernel
theorem zru:bootBuiltins "max"=some (.builtin "max"):=by decide +kernel
theorem zkq:bootBuiltins "min"=some (.builtin "min"):=by decide +kernel
theorem zz1:bootBuiltins "isinstance"=some (.builtin "isinstance"):=by decide +kernel
theorem zn81:bootBuiltins "int"=some (.type "int"):=by decide +kernel
theorem zb81:bootBuiltins "str"=some (.type "str"):=by decide +kernel
theorem zr41:bootBuiltins "bool"=some (.type "bool"):=by decide +kernel
theorem zna:bootBuiltins "list"=some (.type "list"):=by decide +kernel
theorem zjn:bootBuiltins "tuple"=some (.type "tuple"):=by decide +kernel
structure Md (K:Fg) (mg:Str->Option Value):Prop where
 ex:∃ h:Heap,K.In h/\h.Ns mainGlobals mg
theorem Md.got (M:Md K mg) {v:Value} (e:PySem.W.nsIn K mainGlobals x=some (some v)):mg x=some v:=let ⟨_,X,G⟩:=M.ex;PySem.W.mg_of X G e
theorem Md.not (M:Md K mg) (e:PySem.W.nsIn K mainGlobals x=some none):mg x=none:=let ⟨_,X,G⟩:=M.ex;PySem.W.mg_none_of X G e
structure TopDef (K:Fg) (x:Str) (st:Stmt):Prop where
 ex:∃ f fd,PySem.W.nsIn K mainGlobals x=some (some (.ref f))/\Fun K x x st f fd
theorem zop {kV:Value} (a:PySem.W.nsIn K mainGlobals x=some (some (.ref f)))
  (l:K.lookup f=some ⟨oc,od,.func (PySem.W.fnOf x x (zr7 st) (zx2 st) (zi0 st) .none kV doc pm an cdv ct),osl⟩) (c:PySem.W.codeIn K cdv x=true) (k:PySem.W.keepIn K (.ref f)=true):TopDef K x st:=⟨⟨_,_,a,zc11 l c k⟩⟩
structure TopMeth (K:Fg) (C:Addr) (m qual:Str) (st:Stmt):Prop where
 ex:∃ f fd,PySem.W.findIn K (.ref C) m=some (some (.ref f))/\PySem.W.isFn K (.ref f)=true/\Fun K m qual st f fd
theorem zko {kV:Value} (a:PySem.W.findIn K (.ref C) x=some (some (.ref f))) (i:PySem.W.isFn K (.ref f)=true)
  (l:K.lookup f=some ⟨oc,od,.func (PySem.W.fnOf x qual (zr7 st) (zx2 st) (zi0 st) .none kV doc pm an cdv ct),osl⟩) (c:PySem.W.codeIn K cdv qual=true) (k:PySem.W.keepIn K (.ref f)=true):TopMeth K C x qual st:=⟨⟨_,_,a,i,zc11 l c k⟩⟩
structure TopCls (K:Fg) (x:Str) (C:Addr):Prop where
 at_:PySem.W.nsIn K mainGlobals x=some (some (.ref C))
 cls:Cls K C
 mkk:PySem.W.makesIn K C=true
 kp:PySem.W.keepIn K (.ref C)=true
theorem zbq (a:PySem.W.nsIn K mainGlobals x=some (some (.ref C))) (pg:PySem.W.plainGet K C Str.empty=true) (hd:PySem.W.hasDictIn K C=true) (po:PySem.W.plainOver K C=true)
  (sa:PySem.W.findIn K (.ref C) "__setattr__"=some (some (.builtin "object.__setattr__"))) (mk:PySem.W.makesIn K C=true) (kc:PySem.W.keepIn K (.ref C)=true):TopCls K x C:=⟨a,⟨pg,hd,po,sa⟩,mk,kc⟩
section
variable {P:Program} {w:World} {K:Fg} {mg:Str->Option Value} {base:Heap}
noncomputable abbrev zya (x qual:Str) (st:Stmt) (ps:List Str):Prop :=
 ∀ (kV doc pm:Value) (an:Option Addr) (cdv ct:Value) (us:List Value),us.length=ps.length->bindArgs (PySem.W.fnOf x qual (zr7 st) (zx2 st) (zi0 st) .none kV doc pm an cdv ct) ⟨us,[]⟩=pure (ps.zip us)
noncomputable abbrev zj8 (P:Program) (w:World) (K:Fg) (mg:Str->Option Value) (base:Heap) (qual:Str) (st:Stmt) (N:List Str) (k:Nat) (sp:Sp):Prop :=
 ∀ (f:Addr) (cdv:Value) (A:Around) (outer:List Env) (s:Shared) (H:Hp) (vs:List V) (Q:VK) (E:XK),Room k (A.deeper (envOfC qual (zi0 st) s.heap.objs.size f cdv))->sp vs H Q E ->
   ∃ t,PSs (cxOf CX0 P w K mg base N qual (zi0 st) f cdv A outer s H E).nox (zx2 st) t/\t { nx:=λ _ H'=>Q .non H',rt:=Q } (start N vs) H
theorem zo3 {k:Nat} (M:Md K mg) (T:TopDef K x st) (S:FnScope N ps (zi0 st)) (hb:zya x x st ps) (len:∀ vs H Q E,sp vs H Q E->vs.length=ps.length)
  (body:zj8 P w K mg base x st N k sp):Def P w K mg base x (k+1) ps sp:=by
 obtain ⟨f,fd,a,F⟩:=T.ex;exact ⟨f,fd,F.ok S len (λ cdv A outer s H vs Q E hr h=>body f cdv A outer s H vs Q E hr h),F.binds hb,F.kp,M.got a⟩
theorem zx7 {k:Nat} (c:Cls K C) (T:TopMeth K C m qual st) (S:FnScope N ps (zi0 st)) (hb:zya m qual st ps) (len:∀ vs H Q E,sp vs H Q E->vs.length=ps.length)
  (body:zj8 P w K mg base qual st N k sp):MethD P w K mg base C m (k+1) ps sp:=by
 obtain ⟨f,fd,a,i,F⟩:=T.ex;exact ⟨f,fd,c,⟨a,i,F.kp⟩,F.ok S len (λ cdv A outer s H vs Q E hr h=>body f cdv A outer s H vs Q E hr h),F.binds hb⟩
theorem zwj {k:Nat} (M:Md K mg) (c:TopCls K x C) (T:TopMeth K C "__init__" qual st) (S:FnScope N ps (zi0 st)) (hb:zya "__init__" qual st ps)
  (len:∀ vs H Q E,sp vs H Q E->vs.length=ps.length) (body:zj8 P w K mg base qual st N k sp):zuo P w K mg base x C (k+1) ps sp:=by
 obtain ⟨f,fd,a,i,F⟩:=T.ex;exact ⟨f,fd,⟨c.mkk,a,i,c.kp⟩,F.ok S len (λ cdv A outer s H vs Q E hr h=>body f cdv A outer s H vs Q E hr h),F.binds hb,M.got c.at_⟩
theorem zq61 {k:Nat} {fa:Addr} (M:Md K mg) (T:TopDef K "law" st) (hfa:mg "law"=some (.ref fa)) (S:FnScope N ["script"] (zi0 st)) (hb:zya "law" "law" st ["script"]) (len:∀ vs H Q E,sp vs H Q E->vs.length=1)
  (body:∀ base:Heap,K.In base->base.Ns mainGlobals mg->zj8 P w K mg base "law" st N k sp) :
  ∃ fd:FuncData,(∀ (s:Shared) (v:Value),BindsTo s fd ⟨[v],[]⟩ [("script",v)])/\∀ base:Heap,K.In base->base.Ns mainGlobals mg->FnOk P w K mg base CX0 (k+1) fa fd ["script"] sp:=by
 obtain ⟨f,fd,a,F⟩:=T.ex;have e:=hfa.symm.trans (M.got a);cases e;obtain ⟨oc,od,kV,doc,pm,an,cdv,ct,osl,e1,lk,hcd⟩:=id F.ex;refine ⟨fd,λ s v=>.of_eq ?_,λ base kb nb=>F.ok S len λ cdv A outer s H vs Q E hr h=>body base kb nb fa cdv A outer s H vs Q E hr h⟩;rw [e1];exact hb kV doc pm an cdv ct [v] rfl
end
def zv11:PyData->Bool
|.int _=>true
|.str _=>true
|_=>false
mutual
inductive Is (K:Fg) (H:Hp):V->PyData->Prop
|non:Is K H .non .none
|bl (b:Bool):Is K H (.bl b) (.bool b)
|int (i:Int):Is K H (.int i) (.int i)
|str (x:Str):Is K H (.str x) (.str x)
|lst {a:Addr} {xs:List V} {ds:List PyData}:SqL K H a xs->IsAll K H xs ds->Is K H (.ref a) (.list ds)
|tup {a:Addr} {xs:List V} {ds:List PyData}:H a=some (.tup xs)->IsAll K H xs ds->Is K H (.ref a) (.tuple ds)
|tuc {a:Addr} {xs:List V} {ds:List PyData}:SqT K H a xs->IsAll K H xs ds->ds.all zv11=false->Is K H (.ref a) (.tuple ds)
inductive IsAll (K:Fg) (H:Hp):List V->List PyData->Prop
|nil:IsAll K H [] []
|cons {x:V} {d:PyData} {xs:List V} {ds:List PyData}:Is K H x d->IsAll K H xs ds->IsAll K H (x :: xs) (d :: ds)
end
mutual
theorem Is.mono {K:Fg} {H H':Hp} (s:Same H H'):∀ {v:V} {d:PyData},Is K H v d->Is K H' v d
|_,_,.non=>.non
|_,_,.bl b=>.bl b
|_,_,.int i=>.int i
|_,_,.str x=>.str x
|_,_,.lst h r=>.lst (s.seq h) (IsAll.mono s r)
|_,_,.tup h r=>.tup (s _ _ h) (IsAll.mono s r)
|_,_,.tuc h r n=>.tuc (zto s h) (IsAll.mono s r) n
theorem IsAll.mono {K:Fg} {H H':Hp} (s:Same H H'):∀ {v:List V} {d:List PyData},IsAll K H v d->IsAll K H' v d
|_,_,.nil=>.nil
|_,_,.cons h r=>.cons (Is.mono s h) (IsAll.mono s r)
end
section
variable {X:Cx} {pins:List (Addr×Obj)} {Y:St} {H:Hp} {s:Shared}
mutual
theorem znb (I:Inv X pins Y H s):∀ {v:V} {d:PyData} {u:Value},Is X.K H v d->RelV v u->∃ as,Reads s.heap u d as
|_,_,_,.non,r=>by cases r;exact ⟨_,.none⟩
|_,_,_,.bl b,r=>by cases r;exact ⟨_,.bool b⟩
|_,_,_,.int i,r=>by obtain ⟨t,rfl⟩:=r;exact ⟨_,.int i t⟩
|_,_,_,.str x,r=>by obtain ⟨t,rfl⟩:=r;exact ⟨_,.str x t⟩
|_,_,_,.lst h q,r=>by
  cases r;obtain ⟨its,rv,p,_⟩:=I.list h;obtain ⟨as,z⟩:=zj7 I q rv;obtain ⟨o,ho,hc,n,hd⟩:=p.isList;exact ⟨_,.list ho hc hd (by simpa using z)⟩
|_,_,_,.tup h q,r=>by
  cases r;obtain ⟨its,rv,p,_⟩:=I.tuple (SqT.of h);obtain ⟨as,z⟩:=zj7 I q rv;obtain ⟨o,ho,hc,n,hd⟩:=(show s.heap.IsTuple _ its.toArray from p)
  exact ⟨_,.tuple ho hc hd (by simpa using z)⟩
|_,_,_,.tuc h q _,r=>by
  cases r;obtain ⟨its,rv,p,_⟩:=I.tuple h;obtain ⟨as,z⟩:=zj7 I q rv;obtain ⟨o,ho,hc,n,hd⟩:=(show s.heap.IsTuple _ its.toArray from p)
  exact ⟨_,.tuple ho hc hd (by simpa using z)⟩
theorem zj7 (I:Inv X pins Y H s):∀ {v:List V} {d:List PyData} {u:List Value},IsAll X.K H v d->Vals v u->∃ as,ReadsAll s.heap u d as
|_,_,_,.nil,r=>by cases r;exact ⟨_,.nil⟩
|_,_,_,.cons h q,r=>by
  cases r with
 |cons r1 r2 =>
   obtain ⟨as,z⟩:=znb I h r1;obtain ⟨bs,y⟩:=zj7 I q r2;exact ⟨_,.cons z y⟩
end
end
noncomputable def rEqU (K:Fg):R2:=λ x y H Q=>rEq x y H Q \/ (∃ d e,Is K H x d/\Is K H y e/\SeqAt.shaped d=true/\SeqAt.shaped e=true/\Q (.bl (PyData.eqv d e)) H)
noncomputable def rNeU (K:Fg):R2:=λ x y H Q=>rNe x y H Q \/ (∃ d e,Is K H x d/\Is K H y e/\SeqAt.shaped d=true/\SeqAt.shaped e=true/\Q (.bl (!PyData.eqv d e)) H)
section
variable {X:Cx}
theorem zl5 (h:X.K=K) (hu:X.A.units+64 < cLine):OpR X (compareOp .Eq) (rEqU K):=by
 subst h;refine zbe1.or ?_;intro pins s Y H x y v u Q I rx ry q;obtain ⟨d,e,hd,he,sd,se,q⟩:=q;obtain ⟨as,r1⟩:=znb I hd rx;obtain ⟨bs,r2⟩:=znb I he ry;exact eq_dataH r1 r2 sd se hu ⟨.bl _,H,I,rfl,q⟩
theorem zik (h:X.K=K) (hu:X.A.units+64 < cLine):OpR X (compareOp .NotEq) (rNeU K):=by
 subst h;refine zbd1.or ?_;intro pins s Y H x y v u Q I rx ry q;obtain ⟨d,e,hd,he,sd,se,q⟩:=q;obtain ⟨as,r1⟩:=znb I hd rx;obtain ⟨bs,r2⟩:=znb I he ry;exact ne_dataH r1 r2 sd se hu ⟨.bl _,H,I,rfl,q⟩
noncomputable def zp01 (P:Program) (w:World) (K:Fg) (mg:Str->Option Value) (base:Heap) (m:Str) (k:Nat) (ta:TE) (t:TA):TE:=λ Y H Q=>ta Y H λ x H1=>∃ a C dx fs ps sp,x=.ref a/\H1 a=some (.ins C dx fs)/\fs.lookup m=none /\
 MethD P w K mg base C m k ps sp/\t Y H1 λ vs H2=>sp (x :: vs) H2 Q E0
theorem zfv {P:Program} {w:World} {base:Heap} {k:Nat} {m:Str} {pos apos:Pos} {e o:Expr} {t:TA} {pl:Sem Bool} (hP:X.prog=P) (hw:X.w=w) (hK:X.K=K) (hmg:X.mg=mg) (hbs:X.base=base) (hr:Room k X.A) (he:PE X o ta) (ha:PA X (e :: es) t)
  (hst:starEach (e :: es) X.env=(false,eval e X.env) :: starEach es X.env:=by rfl) (hpl:(backTo pos (starEach es X.env)).any (·.1)=false:=by rfl)
  (ht:eval (.Call (.Attribute o m apos) (e :: es) [] pos) X.env=(do
   let ov <- eval o X.env
   standAt apos.atName
   let (f,first) <- holding [ov] (getMethod ov m pl)
   callWith pos f first (backTo pos (starEach (e :: es) X.env)) (backToKw pos (keywordEach [] X.env))):=by rfl) :
  PE X (.Call (.Attribute o m apos) (e :: es) [] pos) (zp01 P w K mg base m k ta t):=by
 subst hP hw hK hmg hbs;intro pins s Y H Q I h;refine PySem.W.methodCall_KW (pl:=pl) (thn (he pins s Y H _ I h) λ u s1 hz=>?_) ht;obtain ⟨x,H1,I1,rx,a,C,dx,fs,ps,sp,ex,ea,l,d,q⟩:=hz;subst ex;obtain rfl:u=vN a:=rx;obtain ⟨f,fd,c,hm,F,b⟩:=d;refine zu8 I1 ea c hm l ?_;refine PySem.W.callWith_K (first:=[.ref a]) (h₀:=X.base) I.ok.mod.kin hm.kp (thn (ha pos pins s1 Y H1 _ I1 q) λ us s2 ⟨vs,H2,I2,r,q2⟩=>⟨I2.kIn,?_⟩) hst hpl;exact zyo (us:=.ref a :: us) (vs:=.ref a :: vs) (dvs:=[]) (ds:=[]) F hr b .nil zhy I2 (.cons rfl r) (by rw [wJ];exact q2)
end
variable {K:Fg} {X:Cx} {Y:St} {a n:Nat} {b:Addr} {es:List Expr} {h':Heap} {pins:List (Addr×Obj)} {pos:Pos} {s:Shared} {w:World} {xs:List V}
section
variable {X:Cx}
def Its (z:Str):It:=⟨λ i _=>i < z.cps.size,λ i H x H'=>H'=H/\∃ c,z.cps[i]?=some c/\x=.str ⟨#[c]⟩,λ i _=>z.cps.size<=i⟩
theorem zvw {P:Program} {tg:Expr} (z:Str) (t:Tok) (it:Addr):Turn P w K tg (Its z) [it] it (λ i h=>h.IsStrIter it "str_ascii_iterator" z t i) where
 mem:=by simp
 obj:=λ i h st b hb=>by
  have e:b=it:=by simpa using hb
  subst e;obtain ⟨o,e,c,d⟩:=st;exact ⟨o,e,λ v z=>by rw [d] at z;cases z⟩
 keep:=λ i h h' st k=>by
  obtain ⟨o,e,c,d⟩:=st;exact ⟨o,k it (by simp) o e,c,d⟩
 item:=by
  intro X hP hw hK hc i pins s Y H E I hf st hg;subst hP hw hK;have hg':i < z.cps.size:=hg;obtain ⟨f0,f1,f2,f3,f4,f5⟩:=hf it (by simp);have hx:z.cps[i]?=some z.cps[i]:=by simp [hg']
  refine wpAny_pyNext_ascii_item st hx λ h' st' sb=>?_;have I1:Inv X pins Y H { s with heap:=h',toks:=s.toks+1 }:=I.turned (t':=s.toks+1) (λ b o hb e=>(sb.2 b hb).trans e) f0 f1 f3 f4 f5;obtain ⟨o,e,c,d⟩:=id st';exact ⟨_,rfl,zt51 (s:={ s with heap:=h',toks:=s.toks+1 }) e c d (by decide) ⟨.str ⟨#[z.cps[i]]⟩,H,I1,⟨_,rfl⟩,⟨rfl,_,hx,rfl⟩,st',λ b hb=>(hf b hb).1⟩⟩
 done:=by
  intro X hP hw hK hc i pins s Y H E I hf st hg;subst hP hw hK;have hg':z.cps.size<=i:=hg;obtain ⟨f0,f1,f2,f3,f4,f5⟩:=hf it (by simp);have hx:z.cps[i]?=none:=by simp [hg']
  exact wpAny_pyNext_ascii_end (I.ok.hd hc) st hx λ h' eb=>⟨rfl,I.turned (t':=s.toks) (λ b o hb e=>eb b o hb e) f0 f1 f3 f4 f5⟩
 self:=λ A i s Q E st h=>wpAny_pyIter_striter_ascii st h
def rInU (K:Fg):R2:=λ x y H Q=>rIn K false x y H Q \/ ∃ c z,x=.str ⟨#[c]⟩/\y=.str z/\Q (.bl (decide (c∈z.cps.toList))) H
def zgr (K:Fg):R2:=λ x y H Q=>rIn K true x y H Q \/ ∃ c z,x=.str ⟨#[c]⟩/\y=.str z/\Q (.bl (!decide (c∈z.cps.toList))) H
theorem za91 (hK:X.K=K):OpR X (compareOp .In) (rInU K):=by
 subst hK;refine zvp.or ?_;intro pins s Y H x y v u Q I rx ry h;obtain ⟨c,z,rfl,rfl,q⟩:=h;exact zap pins s Y H _ _ v u Q I rx ry ⟨_,_,rfl,rfl,by rw [StrLaws.found_one];exact q⟩
theorem zzo (hK:X.K=K):OpR X (compareOp .NotIn) (zgr K):=by
 subst hK;refine zsh.or ?_;intro pins s Y H x y v u Q I rx ry h;obtain ⟨c,z,rfl,rfl,q⟩:=h;exact zig pins s Y H _ _ v u Q I rx ry ⟨_,_,rfl,rfl,by rw [StrLaws.found_one];exact q⟩
def repS (x:Str) (n:Nat):Str:=⟨(vP n x.cps).foldl (·++·) #[]⟩
theorem zmv (c:List (Array Nat)):∀ a:Array Nat,c.foldl (·++·) a=a++(c.map zX).flatten.toArray:=by
 induction c with
|nil=>intro a;simp
|cons y r ih=>intro a;rw [z7,ih,uaE];congr 1;apply kP.mp;simp
theorem zwv (x:Str) (n:Nat):(repS x n).cps.toList=(vP n x.cps.toList).flatten:=by
 unfold repS;rw [zmv];simp
def zma1:R2:=λ x y H Q=>∃ z n,x=.str z/\y=.int n/\0<=n/\z.length * n.toNat<=sizeLine/\n<=sizeLine/\Q (.str (repS z n.toNat)) H
theorem ze41:OpR X (binaryOp .Mult) zma1:=by
 intro pins s Y H x y v u Q I rx ry h;obtain ⟨z,n,rfl,rfl,h1,h2,h3,q⟩:=h;obtain ⟨t,rfl⟩:=rx;obtain ⟨t',rfl⟩:=ry;have hl:sizeLine=16777216:=sizeLine_eq;have hz:z.length=z.cps.size:=rfl;by_cases n0:n=0
 ·subst n0;refine P.mul_str (by rw [decide_eq_false (by lia),decide_eq_false (by lia)];rfl) (λ a b hc=>?_) (λ a b=>?_) ?_
  ·exact absurd a (by decide)
  ·exact decide_eq_false (by simp)
  ·rw [if_pos (by decide)];exact ⟨by decide,.str (repS z 0),H,I.tok _,⟨_,rfl⟩,q⟩
 have h1:0 < n:=by lia
 refine P.mul_str (by rw [decide_eq_false (by lia),decide_eq_false (by lia)];rfl) (λ _ _ hc=>?_) (λ _ _=>?_) ?_
 ·have h4:(2 ^ 63 - 1:Int) / n ≥ z.length:=by
   refine (Int.le_ediv_iff_mul_le h1).mpr ?_;have h5:((z.length * n.toNat:Nat):Int)=(z.length:Int) * n:=by rw [Int.natCast_mul,Int.toNat_of_nonneg (by lia)]
   have h6:((z.length * n.toNat:Nat):Int)<=(sizeLine:Nat):=by exact_mod_cast h2
   lia
  lia
 ·exact decide_eq_false (by lia)
 ·rw [if_neg (by lia)];by_cases hc:(n == 1 || z.length == 0)=true
  ·rw [if_pos hc];refine ⟨.str (repS z n.toNat),H,I,⟨t,?_⟩,q⟩;have:repS z n.toNat=z:=by
    have e:(repS z n.toNat).cps.toList=z.cps.toList:=by
     rw [zwv];rcases (Bool.or_eq_true _ _).mp hc with hc|hc
     ·have:n=1:=by simpa using hc
      subst this;simp
     ·have:z.cps.toList=[]:=by
       have:z.cps.size=0:=by simpa [hz] using hc
       simpa using this
      rw [this];simp
    cases z with|mk c =>
     show repS ⟨c⟩ n.toNat=⟨c⟩
     have e2:(repS ⟨c⟩ n.toNat).cps=c:=kP.mp e;cases hq:repS ⟨c⟩ n.toNat with|mk d=>rw [hq] at e2;cases e2;rfl
   rw [this]
  ·rw [if_neg hc];exact ⟨fits_reps (decide_eq_false (by lia)),.str (repS z n.toNat),H,I.tok _,⟨_,rfl⟩,q⟩
def rSlS:V->Option Int->Option Int->Hp->VK->Prop:=λ x lo hi H Q=>∃ z,x=.str z/\z.length<=sizeLine/\Q (.str (Txt.slice z lo hi)) H
theorem zh41:SlR X rSlS:=by
 intro pins s Y H x v vl vu lo hi sl Q I rx hs pl pu h;obtain ⟨z,rfl,hz,q⟩:=h;obtain ⟨t,rfl⟩:=rx;obtain ⟨o,ho,hc,hd⟩:=hs;have go:∀ (l u:Option (Int×Tok)),partValue l=vl->partValue u=vu->l.map (·.1)=lo->u.map (·.1)=hi->wpAny (model X.prog X.w) X.A (getItem (.str z t) (.ref sl)) (EP X pins Y Q) X.xe s:=λ l u e1 e2 e3 e4=>by
  subst e3 e4;refine wpAny_getItem_str_slice (l:=l) (u:=u) (st:=none) ⟨o,ho,hc,by rw [e1,e2];exact hd⟩ rfl (post_val_or_str ⟨wU (Txt.slice_le z _ _) hz,λ t' k=>?_⟩);exact ⟨.str (Txt.slice z (l.map (·.1)) (u.map (·.1))),H,I.tok _,⟨_,rfl⟩,q⟩
 refine ⟨"str",_,F.slot_str_getitem.lookup,typeIs_str _ _ _,?_⟩;cases pl with
|none=>cases pu with
 |none=>exact go none none rfl rfl rfl rfl
 |int j u=>exact go none (some (j,u)) rfl rfl rfl rfl
|int i t=>cases pu with
 |none=>exact go (some (i,t)) none rfl rfl rfl rfl
 |int j u=>exact go (some (i,t)) (some (j,u)) rfl rfl rfl rfl
end
theorem zls {H:Hp} {tk:Nat} (I:Inv X pins Y H s) (f:FpOk X pins H b) (k:Heap.SameBut b s.heap h'):Inv X pins Y H { s with heap:=h',toks:=tk } :=
 let ⟨f0,f1,_,f3,f4,f5⟩:=f
 I.turned (λ c o hc e=>(k.2 c hc).trans e) f0 f1 f3 f4 f5
theorem zr11 {H:Hp} {tk:Nat} (I:Inv X pins Y H s) (f:FpOk X pins H b) (k:Heap.ExtBut b s.heap h'):Inv X pins Y H { s with heap:=h',toks:=tk } :=
 let ⟨f0,f1,_,f3,f4,f5⟩:=f
 I.turned (λ c o hc e=>k c o hc e) f0 f1 f3 f4 f5
def entM (w:World) (e:Str×Tok×Value):DictEntry:=⟨PyData.keyHash w.params e.1,.str e.1 e.2.1,e.2.2⟩
structure KD (w:World) (K:Fg) (d:Addr) (kvs:List (Str×V)):Prop where
 ne:(d == sysModules)=false
 ex:∃ (l:List (Str×Tok×Value)) (n:Nat),K.lookup d=some { cls:=.type "dict",data:=.dict (l.map (entM w)).toArray n }/\Paired (λ (p:Str×V) (q:Str×Tok×Value)=>p.1=q.1/\RelV p.2 q.2.2) kvs l
theorem zn11 {w:World} {k:Str}:∀ {kvs:List (Str×V)} {l:List (Str×Tok×Value)},Paired (λ (p:Str×V) (q:Str×Tok×Value)=>p.1=q.1/\RelV p.2 q.2.2) kvs l ->
  RelO (kvs.lookup k) (((l.map (entM w)).find? λ e=>xN k e.key).map (·.val))
|_,_,.nil=>trivial
|_,_,.cons (a:=p) (b:=q) h r=>by
  obtain ⟨x,v⟩:=p;obtain ⟨y,t,u⟩:=q;obtain ⟨e,rv⟩:=h;cases e;have ih:=zn11 (w:=w) (k:=k) r;show RelO (xD k ((x,v) :: _)) (((entM w (x,t,u) :: _).find? λ e=>xN k e.key).map (·.val));rw [wA,xU];by_cases hk:k=x
  ·subst hk;have h1:(k == k)=true:=beq_self_eq_true k;have h2:xN k (entM w (k,t,u)).key=true:=by simp [entM,xN]
   rw [h1,h2];exact rv
  ·have h1:(k == x)=false:=beq_eq_false_iff_ne.mpr hk;have h2:xN k (entM w (x,t,u)).key=false:=by
    show (x == k)=false;exact beq_eq_false_iff_ne.mpr λ e=>hk e.symm
   rw [h1,h2];exact ih
section
variable {X:Cx} {pins:List (Addr×Obj)} {Y:St} {H:Hp} {s:Shared} {d:Addr} {kvs:List (Str×V)}
theorem KD.map (D:KD X.w X.K d kvs) (I:Inv X pins Y H s):∃ f:Str->Option Value,s.heap.MapOf (PySem.strKind X.prog X.w) d f/\∀ k,RelO (kvs.lookup k) (f k):=by
 obtain ⟨l,n,e,r⟩:=D.ex;refine ⟨λ k=>((l.map (entM X.w)).find? λ e=>xN k e.key).map (·.val),⟨_,(l.map (entM X.w)).toArray,n,I.kIn d _ e,⟨rfl,rfl,rfl⟩,rfl,λ e he=>?_,λ k=>?_⟩,λ k=>zn11 r⟩
 ·obtain ⟨q,_,rfl⟩:=vQ.mp (by simpa using he:e∈l.map (entM X.w));exact ⟨q.1,by simp [entM,PySem.strKind,xN],rfl⟩
 ·show findBy (PySem.strKind X.prog X.w).is _ k=_;unfold findBy;rw [List.find?_toArray];rfl
def rInM (w:World) (K:Fg):R2:=λ x y H Q=>∃ d kvs z,x=.str z/\y=.ref d/\KD w K d kvs/\Q (.bl (kvs.lookup z).isSome) H
def zms (w:World) (K:Fg):R2:=λ x y H Q=>∃ d kvs z,x=.str z/\y=.ref d/\KD w K d kvs/\Q (.bl (!(kvs.lookup z).isSome)) H
def rIxM (w:World) (K:Fg):R2:=λ x y H Q=>∃ d kvs z v,x=.ref d/\y=.str z/\KD w K d kvs/\kvs.lookup z=some v/\Q v H
theorem znc {a:Option V} {b:Option Value} (r:RelO a b):b.isSome=a.isSome:=by
 cases a <;> cases b <;> first|rfl|exact False.elim r
theorem zfa1 (hw:X.w=w) (hK:X.K=K):OpR X (compareOp .In) (rInM w K):=by
 subst hw hK;intro pins s Y H x y v u Q I rx ry h;obtain ⟨d,kvs,z,rfl,rfl,D,q⟩:=h;obtain ⟨t,rfl⟩:=rx;cases ry;obtain ⟨f,m,r⟩:=D.map I;refine wpAny_in_of (k:=z) (PySem.strKind_is X.prog X.w z t) D.ne m ?_;rw [znc (r z)];exact ⟨.bl _,H,I.tok _,rfl,q⟩
theorem zpq (hw:X.w=w) (hK:X.K=K):OpR X (compareOp .NotIn) (zms w K):=by
 subst hw hK;intro pins s Y H x y v u Q I rx ry h;obtain ⟨d,kvs,z,rfl,rfl,D,q⟩:=h;obtain ⟨t,rfl⟩:=rx;cases ry;obtain ⟨f,m,r⟩:=D.map I;refine wpAny_notIn_of (k:=z) (PySem.strKind_is X.prog X.w z t) D.ne m ?_;rw [znc (r z)];exact ⟨.bl _,H,I.tok _,rfl,q⟩
theorem ix_M (hw:X.w=w) (hK:X.K=K):IxR X (rIxM w K):=by
 subst hw hK;intro value slice pins s Y H x y v u Q I rx ry h hs;obtain ⟨d,kvs,z,r0,rfl,rfl,D,e,q⟩:=h;cases rx;obtain ⟨t,rfl⟩:=ry;obtain ⟨f,m,r⟩:=D.map I;have rz:=r z;rw [e] at rz;obtain ⟨u,eu,ru⟩:=rz.some_of;exact tail_any m.typeIs ğj.lookup (wpAny_getItem_of (k:=z) (PySem.strKind_is X.prog X.w z t) m eu ⟨r0,H,I.tok _,ru,q⟩) hs
end
noncomputable def Walks (J:It) (H:Hp) (n:Nat) (Yv:Nat->V->Hp->Prop):Prop:=∀ H',Same H H'->(∀ i,i < n->J.go i H')/\J.stop n H'/\∀ i x H2,i < n->J.yld i H' x H2->Same H' H2/\Yv i x H2
def zsc1:R2:=λ x y H Q=>zra1 x y H Q \/ zma1 x y H Q
def rInW (w:World) (K:Fg):R2:=λ x y H Q=>rInU K x y H Q \/ rInM w K x y H Q
def zsr (w:World) (K:Fg):R2:=λ x y H Q=>zgr K x y H Q \/ zms w K x y H Q
def rIxW (w:World) (K:Fg):R2:=λ x y H Q=>rIx K x y H Q \/ rIxM w K x y H Q
def rSlW (K:Fg):V->Option Int->Option Int->Hp->VK->Prop:=λ x lo hi H Q=>rSlU K x lo hi H Q \/ rSlS x lo hi H Q
def zi71 (K:Fg) (x:V) (H:Hp) (R:It->Hp->Prop):Prop:=ztd1 K x H R \/ ∃ z:Str,x=.str z/\z.cps.all (· < 128)=true/\R (Its z) H
def iW (K:Fg) (tl:TE):TI:=λ Y H R=>tl Y H λ x H1=>zi71 K x H1 R
section
variable {X:Cx} {w:World} {K:Fg} {tg:Expr}
theorem zkz:OpR X (binaryOp .Mult) zsc1:=zpz.or ze41
theorem zg91 (hw:X.w=w) (hK:X.K=K):OpR X (compareOp .In) (rInW w K):=(za91 hK).or (zfa1 hw hK)
theorem zyp (hw:X.w=w) (hK:X.K=K):OpR X (compareOp .NotIn) (zsr w K):=(zzo hK).or (zpq hw hK)
theorem ix_W (hw:X.w=w) (hK:X.K=K):IxR X (rIxW w K):=(ix_U hK).or (ix_M hw hK)
theorem sl_W (hK:X.K=K):SlR X (rSlW K):=(sl_U hK).or zh41
theorem pi_W (h:X.K=K) {l:Expr} {tl:TE} (hl:PE X l tl):PI X tg l (iW K tl):=by
 subst h;intro pins s Y H R I h;refine thn (hl pins s Y H _ I h) λ v s1 hz=>?_;obtain ⟨x,H1,I1,r1,q1⟩:=hz;rcases q1 with (⟨a,e,⟨xs,hq⟩,q⟩|⟨a,e,⟨xs,hq⟩,q⟩)|⟨z,rfl,ha,q⟩
 ·subst e;cases r1;obtain ⟨its,rv,p,hz⟩:=I1.list hq;refine wpAny_pyIter_list p.isList ?_;refine ⟨s1.heap.objs.size,[s1.heap.objs.size],_,_,H1,rfl,I1.kept (t':=s1.toks) λ b o e=>vM _ e,zoq a _,⟨_,v4 _ rfl,rfl,rfl⟩,λ b hb=>?_,q⟩;have e:b=s1.heap.objs.size:=by simpa using hb
  subst e;exact I1.fpOk (u6 _) (I1.hok.fresh (u6 _))
 ·subst e;cases r1;obtain ⟨its,rv,p,hz⟩:=I1.tuple hq;refine wpAny_pyIter_tuple (show s1.heap.IsTuple a its.toArray from p) ?_;refine ⟨s1.heap.objs.size,[s1.heap.objs.size],_,_,H1,rfl,I1.kept (t':=s1.toks) λ b o e=>vM _ e,zal a _,⟨_,v4 _ rfl,rfl,rfl⟩,λ b hb=>?_,q⟩;have e:b=s1.heap.objs.size:=by simpa using hb
  subst e;exact I1.fpOk (u6 _) (I1.hok.fresh (u6 _))
 ·obtain ⟨t,rfl⟩:=r1;refine wpAny_pyIter_ascii ha ?_;refine ⟨s1.heap.objs.size,[s1.heap.objs.size],_,_,H1,rfl,I1.kept (t':=s1.toks) λ b o e=>vM _ e,zvw z t _,⟨_,v4 _ rfl,rfl,rfl⟩,λ b hb=>?_,q⟩;have e:b=s1.heap.objs.size:=by simpa using hb
  subst e;exact I1.fpOk (u6 _) (I1.hok.fresh (u6 _))
noncomputable def zsa1 (K:Fg):List V->Hp->VK->Prop:=λ xs H Q=>∃ p ys,xs=[.ref p]/\(SqL K H p ys \/ SqT K H p ys)/\∀ l,H l=none->Q (.ref l) (upd H l (.lst ys))
theorem zu4 (h:X.K=K):CallR X (.type "list") (zsa1 K):=h ▸ zqg
end
section
variable {K:Fg} {w:World} {H:Hp} {Q:VK} {a b:Addr} {xs ys:List V} {i:Int} {v:V} {z:Str} {kvs:List (Str×V)} {d:Addr}
theorem zsd1 (h:SqT K H a xs) (e:atI xs i=some v) (q:Q v H):rIxW w K (.ref a) (.int i) H Q:=.inl (zad1 h e q)
end
theorem sIx_nat {d:Nat} (h:a<=n):HT.sIx n d (some (a:Int))=a:=by
 unfold HT.sIx;simp;rw [if_neg (by lia)];lia
theorem sIx_none {d:Nat}:HT.sIx n d none=d:=rfl
theorem zhn (h:a<=xs.length):cutV xs (some (a:Int)) none=xs.drop a:=by
 unfold cutV;rw [sIx_nat h,sIx_none];exact yB (by simp)
theorem zk41 {b:Nat} (hb:b<=xs.length):cutV xs none (some (b:Int))=xs.take b:=by
 unfold cutV;rw [sIx_none,sIx_nat hb];simp
theorem zb6 {pos:Pos} (hK:X.K=K) {k:Nat} {t:TGs} (hc:X.calm=true) (h:PGs X es t)
  (hn:(assignEach es X.env).length=n:=by rfl) (hst:(assignEach es X.env).findIdx? (·.1)=none:=by rfl):PG X (.Tuple es k pos) (gTup K n t):=by
 subst hK;exact zl81 hc h hn hst
def kBM (K:Fg) (T:String) (r:V->List V->Hp->VK->Prop) (t:TA) (Y:St) (x:V) (H:Hp) (Q:VK):Prop:=tyV K T x H/\t Y H λ xs H2=>r x xs H2 Q
def tBMU (K:Fg) (T:String) (r:V->List V->Hp->VK->Prop) (to:TE) (t:TA):TE:=λ Y H Q=>to Y H λ x H1=>kBM K T r t Y x H1 Q
theorem zg6 (hK:X.K=K) {o e:Expr} {to:TE} {t:TA} {name:Str} {apos cpos:Pos} {T id:String} {r:V->List V->Hp->VK->Prop} (pa:PlainAttrs T) (slot:Slot T name id) (hty:typeOf (.builtin id)=pure (.type "method_descriptor")) (hm:MtR X id r) (ho:PE X o to) (ha:PA X (e :: es) t)
  (hbase:attributeBase o name X.env (eval o X.env)=eval o X.env:=by rfl)
  (hfew:((backTo cpos (starEach (e :: es) X.env)).all (λ x=>!x.1) && (backToKw cpos (keywordEach [] X.env)).all (λ x=>x.1.isSome)
   && decide ((e :: es).length+([]:List Keyword).length+(if ([]:List Keyword).isEmpty then 0 else 1) < 30))=true:=by rfl)
  (hline:(apos.endLine == cpos.line)=true:=by rfl) (hs:starEach (e :: es) X.env=(false,eval e X.env) :: starEach es X.env:=by rfl) (hplain:(backTo cpos (starEach es X.env)).any (·.1)=false:=by rfl) :
  PE X (.Call (.Attribute o name apos) (e :: es) [] cpos) (tBMU K T r to t):=by
 subst hK;exact zod1 pa slot hty hm ho ha hbase hfew hline hs hplain
def zsy (_ j:Int):Prop:=0 < j/\j < 2 ^ 200
theorem zcl {j:Int} (h0:0 < j) (h1:j < 2 ^ 200):j.natAbs.log2 < 9000:=by
 have h:j.natAbs.log2 < 200:=(Nat.log2_lt (by lia)).mpr (by lia);lia
theorem zv1:OpR X (binaryOp .FloorDiv) (rI zsy λ i j=>.int (i / j)):=opI λ i j _ _ _ _ _ hc q=>by
 have h1:(0:Int) < j:=hc.1;exact floordiv_int (by lia) (by rw [uaM i (by lia)];exact q) (.inl (PyProof.noPylong_of_log2 (zcl hc.1 hc.2)))
noncomputable def zqm {α:Type} (xs:List α) (lo hi st:Option Int):List α:=(sliceRange (sliceBounds lo hi st xs.length).1 (sliceBounds lo hi st xs.length).2.1 (sliceBounds lo hi st xs.length).2.2).filterMap (xs[·]?)
theorem zvc {xs:List V} {vs:List Value} (h:Vals xs vs):∀ js:List Nat,Vals (js.filterMap (xs[·]?)) (js.filterMap (vs[·]?))
|[]=>.nil
|j :: js=>by
  have ih:=zvc h js;cases hn:xs[j]? with
 |some n =>
   obtain ⟨u,hu,r⟩:=h.get hn;simp only [xF,hn,hu];exact .cons r ih
 |none =>
   have hv:=h.none_of hn;simp only [xF,hn,hv];exact ih
theorem zsp {vs:List Value} (h:Vals xs vs) (lo hi st:Option Int):Vals (zqm xs lo hi st) (slicePick vs.toArray lo hi st).toList:=by
 have e:(slicePick vs.toArray lo hi st).toList=(sliceRange (sliceBounds lo hi st xs.length).1 (sliceBounds lo hi st xs.length).2.1 (sliceBounds lo hi st xs.length).2.2).filterMap (vs[·]?):=by
  simp [slicePick,h.length]
 rw [e];exact zvc h _
noncomputable def rSl3 (K:Fg):V->Option Int->Option Int->Option Int->Hp->VK->Prop:=λ x lo hi st H Q=>∃ a xs,x=.ref a/\SqL K H a xs/\st≠some 0/\∀ p,H p=none->Q (.ref p) (upd H p (.lst (zqm xs lo hi st)))
def tSl3 (K:Fg) (te:TE) (tl th tk:TO):TE:=λ Y H Q=>te Y H λ x H1=>tl Y H1 λ l H2=>th Y H2 λ u H3=>tk Y H3 λ st H4=>rSl3 K x l u st H4 Q
theorem zrq (hK:X.K=K) {e:Expr} {te:TE} {lo hi:Option Expr} {st:Expr} {tl th tk:TO} {p2:Pos} (he:PE X e te) (hl:PO X lo tl) (hu:PO X hi th) (hs:PO X (some st) tk):PE X (.Subscript e (.Slice lo hi (some st) p2) pos) (tSl3 K te tl th tk):=by
 subst hK;intro pins s Y H Q I h;refine Subscript_ (thn (he pins s Y H _ I h) λ v s1 hz=>?_);obtain ⟨x,H1,I1,r1,q1⟩:=hz;refine wpAny_Slice (thn (hl pins s1 Y H1 _ I1 q1) λ vl s2 ⟨l,H2,I2,pl,q2⟩=>thn (hu pins s2 Y H2 _ I2 q2) λ vu s3 ⟨u,H3,I3,pu,q3⟩=>thn (hs pins s3 Y H3 _ I3 q3) λ vk s4 hz=>?_);obtain ⟨k,H4,I4,pk,q4⟩:=hz;obtain ⟨a,xs,rfl,hx,h0,q⟩:=q4;cases r1;have I5:Inv X pins Y H4 { s4 with heap:=s4.heap.push { cls:=.type "slice",data:=.fields #[vl,vu,vk] } }:=I4.kept (t':=s4.toks) λ b ob q=>vM _ q;obtain ⟨its,r,ht,hz⟩:=I5.list hx;have hlen:=r.length;refine tail_any (T := "list") (ops:=[.ref a,.ref s4.heap.objs.size]) ht.isList.typeIs slot_list_getitem.lookup (wpAny_getItem_list_slice ht.isList (Heap.IsSliceOf.new ..) pl pu pk h0 ?_ (by rw [vT] <;> lia)) (by with_unfolding_all rfl);have rv:=zsp r l u k;refine ⟨.ref _,_,I5.laid (t':=s4.toks) (o:=.lst (zqm xs l u k)) (λ b ob q=>vM _ q) (u6 _) ?_,rfl,q _ (I5.hok.fresh (u6 _))⟩;refine ⟨?_,_,0,rv,?_⟩
 ·have:=slicePick_size_le its.toArray l u k;have e:=rv.length;simp only [wT,vT] at this e;lia
 ·rw [Array.toArray_toList];exact v4 _ rfl
def rSum (K:Fg):List V->Hp->VK->Prop:=λ vs H Q=>∃ (a:Addr) (ns:List Int),vs=[.ref a]/\SqL K H a (ns.map V.int)/\Q (.int ns.sum) H
theorem zmi (h:X.K=K) (hc:X.calm=true):CallR X (.builtin "sum") (rSum K):=by
 subst h;intro pins s Y H xs us Q I r h;obtain ⟨a,ns,rfl,hx,q⟩:=h;obtain ⟨u,rfl,r1⟩:=zup r;cases r1;obtain ⟨its,rv,p,hz⟩:=I.list hx;have hi:IntsAre its ns:=zj3 rv;obtain ⟨ys,hy⟩:=hi.allInts.items;have hl:s.heap.IsList a (intItems ys):=hy ▸ p.isList;refine sum_intListG (I.ok.hd hc) hl λ h' tk t' hk=>?_;have e1:ns=ys.toList.map (·.1):=by
  rw [<- nums_intItems,<- hy];exact (show numsOf its.toArray.toList=ns from hi.numsOf).symm
 have e2:preSum (numAt ys) ys.size=ns.sum:=by
  rw [preSum_eq,yB (by simp),e1]
 rw [e2];exact ⟨.int ns.sum,H,I.kept hk,⟨_,rfl⟩,q⟩
noncomputable def ztr:List V->Hp->VK->Prop:=λ vs H Q=>∃ i j,vs=[.int i,.int j]/\0 < j/\j < 2 ^ 200/\∀ p,H p=none->Q (.ref p) (upd H p (.tup [.int (i / j),.int (i % j)]))
theorem zbi:CallR X (.builtin "divmod") ztr:=by
 intro pins s Y H xs us Q I r h;obtain ⟨i,j,rfl,h0,h1,q⟩:=h;obtain ⟨u,w',rfl,⟨t,rfl⟩,⟨t',rfl⟩⟩:=zs41 r;refine divmod_int (by lia) ?_ (.inl (PyProof.noPylong_of_log2 (zcl h0 h1)));rw [uaM i (by lia),uaF i (by lia)];refine ⟨.ref s.heap.objs.size,_,I.laid (t':=s.toks+1+1) (o:=.tup [.int (i / j),.int (i % j)]) (λ b ob q=>vM _ q) (u6 _) ?_,rfl,q _ (I.hok.fresh (u6 _))⟩;exact ⟨by show 2<=sizeLine;rw [sizeLine_eq];decide,[.int (i / j) s.toks,.int (i % j) (s.toks+1)],.cons ⟨_,rfl⟩ (.cons ⟨_,rfl⟩ .nil),IsTup.new _ _⟩
theorem ze31:bootBuiltins "sum"=some (.builtin "sum"):=by decide +kernel
theorem zbp:bootBuiltins "divmod"=some (.builtin "divmod"):=by decide +kernel
theorem zli:bootBuiltins "sorted"=some (.builtin "sorted"):=by decide +kernel
def Fit (n:Nat) (d:PyData):Prop:=d.canLay0=true/\d.depth<=n
theorem zk8:∀ {ds:List PyData},(∀ d∈ds,d.canLay0=true)->zF ds=true
|[],_=>rfl
|d :: ds,h=>by
  show (d.canLay0 && zF ds)=true;rw [h d (by simp),zk8 λ e he=>h e (v8 _ he)];rfl
theorem zc9 {n:Nat}:∀ {ds:List PyData},(∀ d∈ds,d.depth<=n)->zG ds<=n
|[],_=>wE _
|d :: ds,h=>by
  show max d.depth (zG ds)<=n;have:=h d (by simp);have:=zc9 λ e he=>h e (v8 d he);lia
theorem Fit.tup {n:Nat} {ds:List PyData} (h:∀ d∈ds,Fit n d):Fit (n+1) (.tuple ds):=⟨by show zF ds=true;exact zk8 λ d hd=>(h d hd).1,by show zG ds+1<=n+1;have:=zc9 λ d hd=>(h d hd).2;lia⟩
theorem Fit.lst {n:Nat} {ds:List PyData} (h:∀ d∈ds,Fit n d):Fit (n+1) (.list ds):=⟨by show zF ds=true;exact zk8 λ d hd=>(h d hd).1,by show zG ds+1<=n+1;have:=zc9 λ d hd=>(h d hd).2;lia⟩
theorem Fit.int {n:Nat} (i:Int):Fit n (.int i):=⟨rfl,wE _⟩
theorem Fit.str {n:Nat} {x:Str} (h:x.cps.all (· < 0x110000)=true):Fit n (.str x):=⟨h,wE _⟩
theorem Fit.shaped {n:Nat} {d:PyData} (h:Fit n d) (hn:n<=64):SeqAt.shaped d=true:=by
 unfold SeqAt.shaped;rw [h.1,decide_eq_true (wU h.2 hn)];rfl
def zp51 (K:Fg):Sp:=λ vs H Q _=>∃ (a:Addr) (ns:List Int),vs=[.ref a]/\SqL K H a (ns.map V.int)/\ns.length<=63/\∀ H',Q (.bl true) H'
theorem law_walk {k:Nat} {l:PySem.W.OpenLaw} {q:Program} {loose:List Str} {XP:(Str->Option Value)->Heap->Prop} {YP:World->Heap->Prop} {d:DefRec} {K:Params->Fg} (hk:Room k callerA) (hn:l.most=some 63) (hdf:d.params.defaults=[])
  (hY:∀ (w:World) (h:Heap),YP w h->(K w.params).In h)
  (F:∀ (w:World) (mg:Str->Option Value) (fa:Addr) (h:Heap),(K w.params).In h->h.Ns mainGlobals mg->mg d.name=some (.ref fa) ->
   ∃ fd:FuncData,(∀ (s:Shared) (u:Value),BindsTo s fd ⟨[u],[]⟩ [("script",u)])/\∀ base:Heap,(K w.params).In base->base.Ns mainGlobals mg->FnOk l.prog w (K w.params) mg base CX0 k fa fd ["script"] (zp51 (K w.params))) :
  PySem.W.WalkO q loose XP YP l.row.toRowW d [] (λ f vs=>PySem.call f vs) :=
 _2.walk_of (n:=63) (k:=k) (x := "script") (CX:=λ _=>CX0) (sp:=λ w=>zp51 (K w.params)) hn (by decide) hdf hk hY F (λ _ _ a ns hl _ hS=>⟨a,ns,rfl,hS,hl,λ _=>rfl⟩) λ _ _ _ _ _ z=>z
end _3
namespace _2
open PySem PySem.Spec PyProof.Rows
variable {H':Hp} {X:Cx} {Y:St} {a b:Addr} {h':Heap} {kvs:List (List Key×V)} {o:Option V} {pins:List (Addr×Obj)} {pos:Pos} {s:Shared} {trs:List (TE×TE)} {u:Value} {w:World} {xs:List (List Key×Addr×Value)} {y:V}
section
variable {κ:Type} [DecidableEq κ]
def valV (kvs:List (κ×V)) (k:κ):Option V:=(kvs.find? λ kv=>decide (kv.1=k)).map (·.2)
noncomputable def putK (kvs:List (κ×V)) (k:κ) (v:V):List (κ×V) :=
 if (kvs.any λ kv=>decide (kv.1=k))=true then kvs.map (λ kv=>if kv.1=k then (kv.1,v) else kv) else kvs++[(k,v)]
theorem zgg {p:κ×V} {r:List (κ×V)} {k:κ} (e:p.1=k):valV (p :: r) k=some p.2:=by simp [valV,xU,e]
theorem zzh {p:κ×V} {r:List (κ×V)} {k:κ} (e:¬ p.1=k):valV (p :: r) k=valV r k:=by simp [valV,xU,e]
theorem zkl (k:κ):∀ kvs:List (κ×V),(kvs.any λ kv=>decide (kv.1=k))=(valV kvs k).isSome
|[]=>rfl
|p :: r=>by
  rw [xT];by_cases e:p.1=k
  ·simp only [zgg e,decide_eq_true e,Bool.true_or,uaK]
  ·rw [zzh e,decide_eq_false e,Bool.false_or];exact zkl k r
theorem zz2 (kvs:List (κ×V)) (k:κ) (v:V):(putK kvs k v).length<=kvs.length+1:=by
 unfold putK;split
 ·rw [u5];lia
 ·rw [vK,wY,yX];lia
theorem RelO.isSome_eq {u:Option Value} (r:RelO o u):o.isSome=u.isSome:=by
 cases o with
|none=>cases u with
 |none=>rfl
 |some _=>exact (show False from r).elim
|some _=>cases u with
 |none=>exact (show False from r).elim
 |some _=>rfl
theorem RelO.getD {o:Option V} {u:Option Value} {d:V} {d':Value} (r:RelO o u) (rd:RelV d d'):RelV (o.getD d) (u.getD d'):=by
 cases o with
|none=>cases u with
 |none=>exact rd
 |some _=>exact (show False from r).elim
|some _=>cases u with
 |none=>exact (show False from r).elim
 |some _=>exact r
theorem KV.val {kvs:List (κ×V)} {vs:List (κ×Value)} (r:KV kvs vs) (k:κ):RelO (valV kvs k) (valueAt vs k):=by
 unfold KV at r
 induction r with
|nil=>exact True.intro
|@cons p q ps qs h t ih =>
  obtain ⟨h1,h2⟩:=h;by_cases e:p.1=k
  ·have e':q.1=k:=h1.symm.trans e;have b:valueAt (q :: qs) k=some q.2:=by simp [valueAt,xU,e']
   rw [zgg e,b];exact h2
  ·have e':¬ q.1=k:=λ z=>e (h1.trans z);have b:valueAt (q :: qs) k=valueAt qs k:=by simp [valueAt,xU,e']
   rw [zzh e,b];exact ih
theorem KV.any {kvs:List (κ×V)} {vs:List (κ×Value)} (r:KV kvs vs) (k:κ):(kvs.any λ kv=>decide (kv.1=k))=vs.any λ kv=>decide (kv.1=k):=by
 unfold KV at r
 induction r with
|nil=>rfl
|cons h t ih=>rw [xT,xT,ih,h.1]
theorem KV.repl {kvs:List (κ×V)} {vs:List (κ×Value)} (r:KV kvs vs) (k:κ) (ry:RelV y u) :
  KV (kvs.map λ kv=>if kv.1=k then (kv.1,y) else kv) (vs.map λ kv=>if kv.1=k then (kv.1,u) else kv):=by
 unfold KV at r ⊢
 induction r with
|nil=>exact .nil
|@cons p q ps qs h t ih =>
  rw [vW,vW];refine .cons ?_ ih;obtain ⟨h1,h2⟩:=h;by_cases e:p.1=k
  ·rw [if_pos e,if_pos (h1.symm.trans e)];exact ⟨h1,ry⟩
  ·rw [if_neg e,if_neg (λ z=>e (h1.trans z))];exact ⟨h1,h2⟩
theorem KV.put {kvs:List (κ×V)} {vs:List (κ×Value)} (r:KV kvs vs) (k:κ) (ry:RelV y u):KV (putK kvs k y) (stored vs k u):=by
 unfold putK stored;rw [r.any k];by_cases e:(vs.any λ kv=>decide (kv.1=k))=true
 ·rw [if_pos e,if_pos e];exact r.repl k ry
 ·rw [if_neg e,if_neg e];exact Paired.snoc r ⟨rfl,ry⟩
theorem KV.length {kvs:List (κ×V)} {vs:List (κ×Value)} (r:KV kvs vs):kvs.length=vs.length:=Paired.length r
end
theorem zks {P:Program} {k:Key} (r:RelV (kV k) u):(zq1 P w).is k u=true:=by
 cases k with
|inl i=>obtain ⟨t,e⟩:=(show ∃ t,u=yF i t from r);subst e;exact zak P w i t
|inr x=>obtain ⟨t,e⟩:=(show ∃ t,u=yS x t from r);subst e;exact zgk P w x t
theorem zkj {P:Program} {w:World}:∀ {ks:List Key} {us:List Value},Vals (ks.map kV) us->ItemsAre (zq1 P w) ks us
|[],_,r=>by rw [x8] at r;cases r;exact .nil
|k :: ks,_,r=>by
  rw [vW] at r;cases r with
 |cons h t=>exact .cons (zks h) (zkj t)
abbrev KT (H:Hp):List (List Key×V)->List (List Key×Addr×Value)->Prop:=Paired λ p q=>p.1=q.1/\H q.2.1=some (.tup (p.1.map kV))/\RelV p.2 q.2.2
theorem KT.val {H:Hp} (r:KT H kvs xs) (k:List Key):RelO (valV kvs k) ((atKey xs k).map (·.2)):=by
 induction r with
|nil=>exact True.intro
|@cons p q ps qs h t ih =>
  obtain ⟨h1,_,h2⟩:=h;by_cases e:p.1=k
  ·have e':q.1=k:=h1.symm.trans e;have b:atKey (q :: qs) k=some q.2:=by simp [atKey,xU,e']
   rw [zgg e,b];exact h2
  ·have e':¬ q.1=k:=λ z=>e (h1.trans z);have b:atKey (q :: qs) k=atKey qs k:=by simp [atKey,xU,e']
   rw [zzh e,b];exact ih
theorem KT.repl {H:Hp} (r:KT H kvs xs) (k:List Key) (ry:RelV y u) :
  KT H (kvs.map λ kv=>if kv.1=k then (kv.1,y) else kv) (xs.map (putAt k u)):=by
 induction r with
|nil=>exact .nil
|@cons p q ps qs h t ih =>
  rw [vW,vW];refine .cons ?_ ih;obtain ⟨h1,h2,h3⟩:=h;unfold putAt;by_cases e:p.1=k
  ·rw [if_pos e,if_pos (h1.symm.trans e)];exact ⟨h1,h2,ry⟩
  ·rw [if_neg e,if_neg (λ z=>e (h1.trans z))];exact ⟨h1,h2,h3⟩
theorem KT.put {H:Hp} (r:KT H kvs xs) (k:List Key) (hb:H b=some (.tup (k.map kV))) (ry:RelV y u) :
  KT H (putK kvs k y) (storedH xs k b u):=by
 have e:(kvs.any λ kv=>decide (kv.1=k))=(atKey xs k).isSome:=by
  rw [zkl,(r.val k).isSome_eq,yY]
 unfold putK storedH;rw [e];by_cases q:(atKey xs k).isSome=true
 ·rw [if_pos q,if_pos q];exact r.repl k ry
 ·rw [if_neg q,if_neg q];exact Paired.snoc r ⟨rfl,hb,ry⟩
theorem KT.keeps {H:Hp} (r:KT H kvs xs) (ht:∀ b ys,H b=some (.tup ys)->H' b=some (.tup ys)):KT H' kvs xs :=
 Paired.mapP r λ _ _ z=>⟨z.1,ht _ _ z.2.1,z.2.2⟩
section
variable {P:Program} {w:World} {H:Hp} {h:Heap} {a:Addr}
theorem zza1 {u:HO} (ok:HOk P w H h) (e:Rd H a u):ObjOk P w H h a u:=e.ok ok
theorem zou {kvs:List (Key×V)} (ok:HOk P w H h) (e:Rd H a (.dK kvs)):kvs.length<=sizeLine/\(a == sysModules)=false/\∃ vs,KV kvs vs/\h.DictOf (zq1 P w) a vs :=
 show ObjOk P w H h a (.dK kvs) from zza1 ok e
theorem zs51 {kvs:List (Key×V)} (ok:HOk P w H h) (e:H a=some (.dK kvs)):kvs.length<=sizeLine/\(a == sysModules)=false/\∃ vs,KV kvs vs/\h.DictOf (zq1 P w) a vs:=zou ok (.inl e)
theorem zlh {ks:List Key} (ok:HOk P w H h) (e:H a=some (.tup (ks.map kV))):(tupleKind (zq1 P w)).is h ks a:=by
 obtain ⟨_,its,r,o,h1,h2,n,h3⟩:=(show ObjOk P w H h a (.tup (ks.map kV)) from ok a _ e)
 exact ⟨o,its.toArray,n,h1,h2,h3,by simpa using zkj r⟩
theorem zdv (ok:HOk P w H h) (e:Rd H a (.dT kvs)):kvs.length<=sizeLine/\(a == sysModules)=false /\
  ∃ xs,KT H kvs xs/\h.DictOfH (tupleKind (zq1 P w)) a xs:=by
 obtain ⟨z,y,xs,r,o,es,ep,h1,h2,h3,h4,h5⟩:=(show ObjOk P w H h a (.dT kvs) from zza1 ok e)
 refine ⟨z,y,xs,r,o,es,ep,h1,h2,h3,h4,λ x hx=>?_,h5⟩;have all:∀ {l:List (List Key×V)} {m:List (List Key×Addr×Value)},KT H l m->∀ x∈m,(tupleKind (zq1 P w)).is h x.1 x.2.1:=by
  intro l m q
  induction q with
 |nil=>intro x hx;exact nomatch hx
 |@cons p q ps qs hq t ih =>
   intro x hx;rcases vL.mp hx with e|hx
   ·subst e;exact zlh ok (by rw [<- hq.1];exact hq.2.1)
   ·exact ih x hx
 exact all r x hx
theorem zzb1 (ok:HOk P w H h) (e:H a=some (.dT kvs)):kvs.length<=sizeLine/\(a == sysModules)=false /\
  ∃ xs,KT H kvs xs/\h.DictOfH (tupleKind (zq1 P w)) a xs:=zdv ok (.inl e)
end
noncomputable def DGet (H:Hp) (a:Addr) (y:V) (r:Option V):Prop :=
 (∃ kvs k,Rd H a (.dK kvs)/\y=kV k/\r=valV kvs k) \/ ∃ kvs k b,Rd H a (.dT kvs)/\y=.ref b/\H b=some (.tup (k.map kV))/\r=valV kvs k
noncomputable def DPut (H:Hp) (a:Addr) (y v:V) (H':Hp):Prop :=
 (∃ kvs k,H a=some (.dK kvs)/\y=kV k/\kvs.length < sizeLine/\H'=upd H a (.dK (putK kvs k v))) \/
 ∃ kvs k b,H a=some (.dT kvs)/\y=.ref b/\H b=some (.tup (k.map kV))/\kvs.length < sizeLine/\H'=upd H a (.dT (putK kvs k v))
theorem DGet.k {H:Hp} {a:Addr} {kvs:List (Key×V)} {k:Key} (e:H a=some (.dK kvs)):DGet H a (kV k) (valV kvs k):=.inl ⟨kvs,k,.inl e,rfl,rfl⟩
theorem DGet.t {H:Hp} {k:List Key} (e:H a=some (.dT kvs)) (eb:H b=some (.tup (k.map kV))):DGet H a (.ref b) (valV kvs k):=.inr ⟨kvs,k,b,.inl e,rfl,eb,rfl⟩
theorem DPut.k {H:Hp} {a:Addr} {kvs:List (Key×V)} {k:Key} {v:V} (e:H a=some (.dK kvs)) (hl:kvs.length < sizeLine):DPut H a (kV k) v (upd H a (.dK (putK kvs k v))):=.inl ⟨kvs,k,e,rfl,hl,rfl⟩
theorem DPut.t {H:Hp} {k:List Key} {v:V} (e:H a=some (.dT kvs)) (eb:H b=some (.tup (k.map kV))) (hl:kvs.length < sizeLine) :
  DPut H a (.ref b) v (upd H a (.dT (putK kvs k v))):=.inr ⟨kvs,k,b,e,rfl,eb,hl,rfl⟩
section
variable {X:Cx} {pins:List (Addr×Obj)} {Y:St} {H:Hp} {s:Shared} {a:Addr} {y v:V} {u r:Value} {o:Option V} {A:Around} {E:Value->Shared->Prop}
theorem Inv.big (I:Inv X pins Y H s):sysModules < s.heap.objs.size:=by
 have h:mainGlobals < s.heap.objs.size:=(I.mod.glob.keeps I.bk).lt;exact Nat.lt_trans (by decide) h
theorem zei {Q:Value->Shared->Prop} (hu:A.units+1 < cLine) (I:Inv X pins Y H s) (g:DGet H a y (some v)) (ry:RelV y u) (h:∀ w' s',Inv X pins Y H s'->RelV v w'->Q w' s') :
  wpAny (model X.prog X.w) A (getItem (.ref a) u) Q E s:=by
 rcases g with ⟨kvs,k,e,ey,l⟩|⟨kvs,k,b,e,ey,eb,l⟩
 ·subst ey;obtain ⟨z,hd,vs,rel,dd⟩:=zou I.hok e;obtain ⟨w',hw,rw'⟩:=RelO.some_of (v:=v) (o:=valueAt vs k) (by rw [l];exact rel.val k);exact wpAny_getItem_of (zks ry) dd.mapOf hw (h w' _ (I.tok _) rw')
 ·subst ey;cases (show u=vN b from ry);obtain ⟨z,hd,xs,rel,dd⟩:=zdv I.hok e;obtain ⟨w',hw,rw'⟩:=RelO.some_of (v:=v) (o:=(atKey xs k).map (·.2)) (by rw [l];exact rel.val k);obtain ⟨p,hp,hp2⟩:=wO.mp hw;refine wpAny_getItem_heap (tupleKind_room_in1 hu) (zlh I.hok eb) dd hp ?_;rw [hp2];exact h w' _ (I.tok _) rw'
theorem d_in {Q:Value->Shared->Prop} (hu:A.units+1 < cLine) (I:Inv X pins Y H s) (g:DGet H a y o) (ry:RelV y u) (h:∀ s',Inv X pins Y H s'->Q (.bool o.isSome) s') :
  wpAny (model X.prog X.w) A (compareOp .In u (.ref a)) Q E s:=by
 rcases g with ⟨kvs,k,e,ey,l⟩|⟨kvs,k,b,e,ey,eb,l⟩
 ·subst ey;obtain ⟨z,hd,vs,rel,dd⟩:=zou I.hok e;refine wpAny_in_of (zks ry) hd dd.mapOf ?_;rw [<- (rel.val k).isSome_eq,<- l];exact h _ (I.tok _)
 ·subst ey;cases (show u=vN b from ry);obtain ⟨z,hd,xs,rel,dd⟩:=zdv I.hok e;refine wpAny_in_heap (tupleKind_room_in1 hu) (zlh I.hok eb) hd dd ?_;have q:=(rel.val k).isSome_eq;rw [yY] at q;rw [<- q,<- l];exact h _ (I.tok _)
theorem zq31 {Q:Value->Shared->Prop} (hu:A.units+1 < cLine) (I:Inv X pins Y H s) (g:DGet H a y o) (ry:RelV y u) (h:∀ s',Inv X pins Y H s'->Q (.bool (!o.isSome)) s') :
  wpAny (model X.prog X.w) A (compareOp .NotIn u (.ref a)) Q E s:=by
 rcases g with ⟨kvs,k,e,ey,l⟩|⟨kvs,k,b,e,ey,eb,l⟩
 ·subst ey;obtain ⟨z,hd,vs,rel,dd⟩:=zou I.hok e;refine wpAny_notIn_of (zks ry) hd dd.mapOf ?_;rw [<- (rel.val k).isSome_eq,<- l];exact h _ (I.tok _)
 ·subst ey;cases (show u=vN b from ry);obtain ⟨z,hd,xs,rel,dd⟩:=zdv I.hok e;refine wpAny_notIn_heap (tupleKind_room_in1 hu) (zlh I.hok eb) hd dd ?_;have q:=(rel.val k).isSome_eq;rw [yY] at q;rw [<- q,<- l];exact h _ (I.tok _)
theorem zcf {t':Nat} {ob:HO} (I:Inv X pins Y H s) (mu:Mut (H a)) (hs:Heap.SameBut a s.heap h') (he:∃ q,h'.get? a=some q) (new:ObjOk X.prog X.w (upd H a ob) h' a ob) :
  Inv X pins Y (upd H a ob) { s with heap:=h',toks:=t' } :=
 I.write (x:=a) (e:=a) mu (.inl rfl) (λ b q hb z=>(hs.2 b hb).trans z) he new
theorem zlx {P:Program} {kvs:List (Key×V)} {vs:List (Key×Value)} (z:kvs.length<=sizeLine) (hd:(a == sysModules)=false) (rel:KV kvs vs) (dd:h'.DictOf (zq1 P w) a vs) :
  ObjOk P w H' h' a (.dK kvs):=⟨z,hd,vs,rel,dd⟩
theorem znq {Q:Unit->Shared->Prop} (hu:A.units+1 < cLine) (I:Inv X pins Y H s) (g:DPut H a y v H') (ry:RelV y u) (rv:RelV v r) (h:∀ s',Inv X pins Y H' s'->Q () s') :
  wpAny (model X.prog X.w) A (setItem (.ref a) u r) Q E s:=by
 rcases g with ⟨kvs,k,e,ey,l,eH⟩|⟨kvs,k,b,e,ey,eb,l,eH⟩
 ·subst ey eH;obtain ⟨z,hd,vs,rel,dd⟩:=zs51 I.hok e;have hz:vs.length<=sizeLine:=by rw [<- rel.length];exact z
  have hl:(putK kvs k v).length<=sizeLine:=by have:=zz2 kvs k v;lia
  refine wpAny_setItem_pairs (hsz:=hz) (zks ry) dd λ h' dd' hs=>h _ ?_;have he:∃ q,h'.get? a=some q:=let ⟨q,_,_,hq,_⟩:=dd';⟨q,hq⟩;exact zcf I (by rw [e];exact True.intro) hs he (zlx hl hd (rel.put k rv) dd')
 ·subst ey eH;cases (show u=vN b from ry);obtain ⟨z,hd,xs,rel,dd⟩:=zzb1 I.hok e;have hz:xs.length<=sizeLine:=by rw [<- Paired.length rel];exact z
  have hl:(putK kvs k v).length<=sizeLine:=by have:=zz2 kvs k v;lia
  refine wpAny_setItem_heap (hsz:=hz) (tupleKind_room_in1 hu) (zlh I.hok eb) dd λ h' dd' hs=>h _ ?_;obtain ⟨q,es,ep,hq,h2,h3,h4,_,h5⟩:=dd';refine zcf I (by rw [e];exact True.intro) hs ⟨q,hq⟩ ⟨hl,hd,_,(rel.put k eb rv).keeps λ c ys ec=>?_,q,es,ep,hq,h2,h3,h4,h5⟩;rw [zr0 (zkb1 ec e (λ z=>nomatch z))];exact ec
end
theorem zck {H:Hp} (I:Inv X pins Y H s) (g:DGet H a y o):s.TypeIs (.ref a) "dict":=by
 rcases g with ⟨kvs,k,e,_,_⟩|⟨kvs,k,b,e,_,_,_⟩
 ·obtain ⟨_,_,vs,_,dd⟩:=zou I.hok e;exact dd.typeIs
 ·obtain ⟨_,_,xs,_,dd⟩:=zdv I.hok e;exact dd.typeIs
theorem zxm {P:Program} {H:Hp} (h:Heap) (hb:sysModules < h.objs.size):ObjOk P w H (h.push { cls:=.type "dict",data:=.dict #[] }) h.objs.size (.dK []) :=
 ⟨wE _,beq_eq_false_iff_ne.mpr (Ne.symm (wC hb)),[],.nil,Heap.DictOf.new h⟩
theorem zdn {P:Program} {H:Hp} (h:Heap) (hb:sysModules < h.objs.size):ObjOk P w H (h.push { cls:=.type "dict",data:=.dict #[] }) h.objs.size (.dT []) :=
 ⟨wE _,beq_eq_false_iff_ne.mpr (Ne.symm (wC hb)),[],.nil,_,#[],0,v4 _ rfl,⟨rfl,rfl,rfl⟩,rfl,rfl,List.nodup_nil⟩
def zg11:TE:=λ _ H Q=>∀ p,H p=none->Q (.ref p) (upd H p (.dT []))
section
variable {X:Cx} {pos:Pos}
theorem zbx:PE X (.Dict [] [] pos) zg11:=λ pins s Y H Q I h =>
 wpAny_Dict_empty ⟨.ref s.heap.objs.size,_,I.laid (a:=s.heap.objs.size) (o:=.dT []) (t':=s.toks) (λ _ _ q=>vM _ q) (u6 _) (zdn s.heap I.big),rfl,h _ (I.hok.fresh (u6 _))⟩
end
noncomputable def zxu:List (TE×TE)->St->Hp->(List (V×V)->Hp->Prop)->Prop
|[],_,H,Q=>Q [] H
|(tk,tv) :: r,Y,H,Q=>tk Y H λ x H1=>tv Y H1 λ y H2=>zxu r Y H2 λ ps H3=>Q ((x,y) :: ps) H3
abbrev VV:List (V×V)->List (Value×Value)->Prop:=Paired λ p q=>RelV p.1 q.1/\RelV p.2 q.2
noncomputable def PPs (X:Cx) (pos:Pos) (keys:List (Option Expr)) (values:List Expr) (trs:List (TE×TE)):Prop :=
 ∀ (pins:List (Addr×Obj)) (s:Shared) (Y:St) (H:Hp) (Q:List (V×V)->Hp->Prop),Inv X pins Y H s->zxu trs Y H Q ->
  wpAny (model X.prog X.w) X.A (evalPairs (pairTrees keys values X.env pos)) (λ vs s'=>∃ ps H',Inv X pins Y H' s'/\VV ps vs/\Q ps H') X.xe s
theorem zu31:PPs X pos [] [] []:=λ pins s Y H Q I h=>pairTrees_nil_walk ⟨[],H,I,.nil,h⟩
theorem zey {k v:Expr} {ks:List (Option Expr)} {vs:List Expr} {tk tv:TE} (hk:PE X k tk) (hv:PE X v tv) (hr:PPs X pos ks vs trs) :
  PPs X pos (some k :: ks) (v :: vs) ((tk,tv) :: trs):=λ pins s Y H Q I h =>
 pairTrees_cons_walk (thn (hk pins s Y H _ I h) λ u s1 ⟨x,H1,I1,rx,q1⟩=>thn (hv pins s1 Y H1 _ I1 q1) λ w2 s2 ⟨y,H2,I2,ry,q2⟩ =>
  thn (hr pins s2 Y H2 _ I2 q2) λ ws s3 ⟨ps,H3,I3,rel,q3⟩=>⟨(x,y) :: ps,H3,I3,.cons ⟨rx,ry⟩ rel,q3⟩)
def zng (kvs more:List (Key×V)):List (Key×V):=more.foldl (λ acc kv=>putK acc kv.1 kv.2) kvs
theorem KV.merge:∀ {more:List (Key×V)} {rs:List (Key×Value)} {kvs:List (Key×V)} {vs:List (Key×Value)},KV more rs->KV kvs vs->KV (zng kvs more) (merged vs rs):=by
 intro more rs kvs vs r;unfold KV at r
 induction r generalizing kvs vs with
|nil=>intro q;exact q
|@cons p q ps qs h t ih =>
  intro r0;have e:KV (putK kvs p.1 p.2) (stored vs q.1 q.2):=by
   have:=r0.put p.1 h.2;rw [<- h.1];exact this
  exact ih e
theorem zq9:∀ (more kvs:List (Key×V)),(zng kvs more).length<=kvs.length+more.length
|[],kvs=>by show kvs.length<=kvs.length+0;lia
|p :: r,kvs=>by
  have h1:=zq9 r (putK kvs p.1 p.2);have h2:=zz2 kvs p.1 p.2;show (zng (putK kvs p.1 p.2) r).length<=_;rw [wY];lia
theorem zff {P:Program} {w:World}:∀ {kvs:List (Key×V)} {ws:List (Value×Value)},VV (kvs.map λ kv=>(kV kv.1,kv.2)) ws->∃ rs,Carries (zq1 P w) ws rs/\KV kvs rs
|[],_,r=>by rw [x8] at r;cases r;exact ⟨[],True.intro,.nil⟩
|p :: kvs,_,r=>by
  rw [vW] at r;cases r with
 |@cons a b as bs h t =>
   obtain ⟨rs,c,q⟩:=zff (P:=P) (w:=w) t;obtain ⟨b1,b2⟩:=b;exact ⟨(p.1,b2) :: rs,⟨zks h.1,rfl,c⟩,.cons ⟨rfl,h.2⟩ q⟩
noncomputable def zpa1 (trs:List (TE×TE)):TE:=λ Y H Q=>∀ p,H p=none->zxu trs Y (upd H p (.dK [])) λ ps H2=>H2 p=some (.dK [])/\∃ kvs:List (Key×V),ps=kvs.map (λ kv=>(kV kv.1,kv.2))/\kvs.length<=15/\Q (.ref p) (upd H2 p (.dK (zng [] kvs)))
theorem zs31 {keys:List (Option Expr)} {values:List Expr} (h:PPs X pos keys values trs) (hall:keys.all (·.isSome)=true) (hl:keys.length=values.length) (h0:keys≠[])
  (h15:keys.length<=15):PE X (.Dict keys values pos) (zpa1 trs):=by
 intro pins s Y H Q I q;have hn:=I.hok.fresh (u6 s.heap.objs.size);have I1:=I.laid (a:=s.heap.objs.size) (o:=.dK []) (h':=s.heap.push { cls:=.type "dict",data:=.dict #[] }) (t':=s.toks) (λ _ _ q=>vM _ q) (u6 _) (zxm s.heap I.big);refine wpAny_Dict_walk (knd:=zq1 X.prog X.w) hall hl h0 h15 (thn (h pins _ Y _ _ I1 (q _ hn)) λ ws s2 hz=>?_);obtain ⟨ps,H2,I2,rel,e,kvs,ep,lk,q2⟩:=hz;subst ep;obtain ⟨rs,c,rk⟩:=zff (P:=X.prog) (w:=X.w) rel;obtain ⟨z,hd,vs0,r0,dd⟩:=zs51 I2.hok e;cases r0;refine ⟨rs,c,dd,λ h' dd' hs=>⟨.ref s.heap.objs.size,_,?_,rfl,q2⟩⟩;have hz:(zng [] kvs).length<=sizeLine:=by
  have h1:=zq9 kvs [];rw [yX] at h1;rw [sizeLine_eq];lia
 have he:∃ q,h'.get? s.heap.objs.size=some q:=let ⟨q,_,_,hq,_⟩:=dd';⟨q,hq⟩;exact zcf I2 (by rw [e];exact True.intro) hs he (zlx hz hd (rk.merge .nil) dd')
def IsD (H:Hp) (a:Addr):Prop:=(∃ kvs,Rd H a (.dK kvs)) \/ ∃ kvs,Rd H a (.dT kvs)
theorem zr61 {H:Hp} (I:Inv X pins Y H s) (d:IsD H a) :
  s.TypeIs (.ref a) "dict"/\(∀ b,vN a=.ref b->∃ ob,s.heap.get? b=some ob/\ob.dict=none)/\(a == sysModules)=false:=by
 rcases d with ⟨kvs,e⟩|⟨kvs,e⟩
 ·obtain ⟨_,hd,vs,_,dd⟩:=zou I.hok e;refine ⟨dd.typeIs,λ b q=>?_,hd⟩;cases q;obtain ⟨ob,_,_,h1,h2,_⟩:=dd;exact ⟨ob,h1,h2.2.1⟩
 ·obtain ⟨_,hd,xs,_,dd⟩:=zdv I.hok e;refine ⟨dd.typeIs,λ b q=>?_,hd⟩;cases q;obtain ⟨ob,_,_,h1,h2,_⟩:=dd;exact ⟨ob,h1,h2.2.1⟩
section
variable {X:Cx} {pins:List (Addr×Obj)} {Y:St} {H:Hp} {s:Shared} {a:Addr} {y d:V} {u r:Value} {o:Option V} {A:Around} {E:Value->Shared->Prop}
theorem zaa1 {Q:Value->Shared->Prop} (hu:A.units+1 < cLine) (I:Inv X pins Y H s) (g:DGet H a y o) (ry:RelV y u) (rd:RelV d r) (h:∀ w' s',Inv X pins Y H s'->RelV (o.getD d) w'->Q w' s') :
  wpAny (model X.prog X.w) A (call (.builtin "dict.get") [.ref a,u,r]) Q E s:=by
 rcases g with ⟨kvs,k,e,ey,l⟩|⟨kvs,k,b,e,ey,eb,l⟩
 ·subst ey;obtain ⟨z,hd,vs,rel,dd⟩:=zou I.hok e;refine call_meetsIn ğf dd.typeIs ğp (ğm _ _ _) (meets_dict_get_default (zq1 X.prog X.w) a (zks ry) hd r) ⟨_,dd.mapOf,h _ _ (I.tok _) ?_⟩;rw [l];exact (rel.val k).getD rd
 ·subst ey;cases (show u=vN b from ry);obtain ⟨z,hd,xs,rel,dd⟩:=zdv I.hok e;refine call_meetsIn ğf dd.typeIs ğp (ğm _ _ _) (meetsH_dict_get_default (tupleKind (zq1 X.prog X.w)) a b hd r) ⟨tupleKind_room_in1 hu,k,xs,zlh I.hok eb,dd,h _ _ (I.tok _) ?_⟩;rw [l];exact (rel.val k).getD rd
end
end _2
namespace _3
open PySem PySem.Spec PyProof.Rows _2
variable {K:Fg} {X:Cx} {a:Addr} {ds:List PyData} {pos:Pos}
def rInD:R2:=λ x y H Q=>∃ a o,y=.ref a/\DGet H a x o/\Q (.bl o.isSome) H
def zus:R2:=λ x y H Q=>∃ a o,y=.ref a/\DGet H a x o/\Q (.bl (!o.isSome)) H
def rIxD:R2:=λ x y H Q=>∃ a v,x=.ref a/\DGet H a y (some v)/\Q v H
def zob1:V->V->V->Hp->(Hp->Prop)->Prop:=λ o i v H Q=>∃ a H',o=.ref a/\DPut H a i v H'/\Q H'
section
variable {X:Cx}
theorem zz61 (hu:X.A.units+64 < cLine):OpR X (compareOp .In) rInD:=by
 intro pins s Y H x y v u Q I rx ry h;obtain ⟨a,o,rfl,g,q⟩:=h;obtain rfl:u=vN a:=ry;exact d_in (by lia) I g rx λ s3 I3=>⟨.bl o.isSome,H,I3,rfl,q⟩
theorem zjp (hu:X.A.units+64 < cLine):OpR X (compareOp .NotIn) zus:=by
 intro pins s Y H x y v u Q I rx ry h;obtain ⟨a,o,rfl,g,q⟩:=h;obtain rfl:u=vN a:=ry;exact zq31 (by lia) I g rx λ s3 I3=>⟨.bl (!o.isSome),H,I3,rfl,q⟩
theorem ix_D (hu:X.A.units+64 < cLine):IxR X rIxD:=by
 intro value slice pins s Y H x y v u Q I rx ry h hs;obtain ⟨a,v',rfl,g,q⟩:=h;obtain rfl:v=vN a:=rx;exact tail_any (zck I g) ğj.lookup (zei (by lia) I g ry λ w' s3 I3 rw'=>⟨v',H,I3,rw',q⟩) hs
theorem zmd1 (hu:X.A.units+64 < cLine):PSet X zob1:=by
 intro pins s Y H o i v ov iv u Q I ro ri rv h;obtain ⟨a,H',rfl,g,q⟩:=h;obtain rfl:ov=vN a:=ro;exact znq (by lia) I g ri rv λ s4 I4=>⟨H',I4,q⟩
theorem zwd1 (hu:X.A.units+64 < cLine):PGet X rIxD:=by
 intro pins s Y H o i ov iv Q I ro ri h;obtain ⟨a,v',rfl,g,q⟩:=h;obtain rfl:ov=vN a:=ro;exact zei (by lia) I g ri λ w' s3 I3 rw'=>⟨v',H,I3,rw',q⟩
def zub1 (K:Fg):R2:=λ x y H Q=>∃ a xs j v,x=.ref a/\y=.int j/\0<=j/\SqL K H a xs/\xs[j.toNat]?=some v/\Q v H
theorem zae1 (hK:X.K=K):PGet X (zub1 K):=by
 subst hK;intro pins s Y H o i ov iv Q I ro ri h;obtain ⟨a,xs,j,v,rfl,rfl,h0,hq,he,q⟩:=h;obtain rfl:ov=vN a:=ro;obtain ⟨t,rfl⟩:=ri;obtain ⟨its,r,pl,hz⟩:=I.list hq;obtain ⟨u,eu,ru⟩:=r.get he;have hl:=r.length;have hn:=zsg;have hj:=(vZ.mp he).1;refine wpAny_getItem_list pl.isList h0 (by lia) (by simpa using eu) ⟨v,H,I,ru,q⟩
theorem PGet.or {r r':R2} (h:PGet X r) (h':PGet X r'):PGet X (λ x y H Q=>r x y H Q \/ r' x y H Q):=by
 intro pins s Y H o i ov iv Q I ro ri q;rcases q with q|q
 ·exact h pins s Y H o i ov iv Q I ro ri q
 ·exact h' pins s Y H o i ov iv Q I ro ri q
theorem PSet.or {r r':TSet} (h:PSet X r) (h':PSet X r'):PSet X (λ o i v H Q=>r o i v H Q \/ r' o i v H Q):=by
 intro pins s Y H o i v ov iv u Q I ro ri rv q;rcases q with q|q
 ·exact h pins s Y H o i v ov iv u Q I ro ri rv q
 ·exact h' pins s Y H o i v ov iv u Q I ro ri rv q
end
def rInV (w:World) (K:Fg):R2:=λ x y H Q=>rInW w K x y H Q \/ rInD x y H Q
def zzq (w:World) (K:Fg):R2:=λ x y H Q=>zsr w K x y H Q \/ zus x y H Q
def rIxV (w:World) (K:Fg):R2:=λ x y H Q=>rIxW w K x y H Q \/ rIxD x y H Q
def zy51 (K:Fg):R2:=λ x y H Q=>zub1 K x y H Q \/ rIxD x y H Q
def zv51:V->V->V->Hp->(Hp->Prop)->Prop:=λ o i v H Q=>zpb1 o i v H Q \/ zob1 o i v H Q
section
variable {X:Cx} {w:World} {K:Fg}
theorem zo81 (hu:X.A.units+64 < cLine) (hw:X.w=w) (hK:X.K=K):OpR X (compareOp .In) (rInV w K):=(zg91 hw hK).or (zz61 hu)
theorem zui (hu:X.A.units+64 < cLine) (hw:X.w=w) (hK:X.K=K):OpR X (compareOp .NotIn) (zzq w K):=(zyp hw hK).or (zjp hu)
theorem ix_V (hu:X.A.units+64 < cLine) (hw:X.w=w) (hK:X.K=K):IxR X (rIxV w K):=(ix_W hw hK).or (ix_D hu)
theorem zky (hu:X.A.units+64 < cLine) (hK:X.K=K):PGet X (zy51 K):=PGet.or (zae1 hK) (zwd1 hu)
theorem zas (hu:X.A.units+64 < cLine):PSet X zv51:=PSet.or zjt (zmd1 hu)
end
def kBM0 (K:Fg) (T:String) (r:V->List V->Hp->VK->Prop) (x:V) (H:Hp) (Q:VK):Prop:=tyV K T x H/\r x [] H Q
def zmc1 (K:Fg) (T:String) (r:V->List V->Hp->VK->Prop) (to:TE):TE:=λ Y H Q=>to Y H λ x H1=>kBM0 K T r x H1 Q
theorem zjo (hK:X.K=K) {o:Expr} {to:TE} {name:Str} {apos cpos:Pos} {T id:String} {r:V->List V->Hp->VK->Prop} (pa:PlainAttrs T) (slot:Slot T name id) (hty:typeOf (.builtin id)=pure (.type "method_descriptor")) (hm:MtR X id r) (ho:PE X o to)
  (hbase:attributeBase o name X.env (eval o X.env)=eval o X.env:=by rfl) (hline:(apos.endLine == cpos.line)=true:=by rfl):PE X (.Call (.Attribute o name apos) [] [] cpos) (zmc1 K T r to):=by
 subst hK;exact zh91 pa slot hty hm ho hbase hline
theorem zor {pins:List (Addr×Obj)} {Y:_2.St} {H:Hp} {s:Shared} {h':Heap} {t':Nat} {c:Addr} (I:_2.Inv X pins Y H s) (k:∀ b o,b≠a->b≠c->s.heap.get? b=some o->h'.get? b=some o)
  (fa:FpOk X pins H a) (fc:FpOk X pins H c):_2.Inv X pins Y H { s with heap:=h',toks:=t' }:=by
 obtain ⟨a0,a1,_,a3,a4,a5⟩:=fa;obtain ⟨c0,c1,_,c3,c4,c5⟩:=fc;have na:∀ b u,H b=some u->b≠a:=λ b u e z=>by rw [z,a0] at e;cases e
 have nc:∀ b u,H b=some u->b≠c:=λ b u e z=>by rw [z,c0] at e;cases e
 refine I.step (g':=s.gens) (d':=s.drawn) (ch:=[a,c]) (λ b hb=>?_) (λ b o _ _ hc e _=>k b o (λ z=>hc (by simp [z])) (λ z=>hc (by simp [z])) e) (λ b o _ _ hc e _=>⟨o.slots,k b o (λ z=>hc (by simp [z])) (λ z=>hc (by simp [z])) e⟩) (λ _ _ _ _ n=>n)
  (λ b o hc e=>⟨o,k b o (λ z=>hc (by simp [z])) (λ z=>hc (by simp [z])) e⟩) (λ _ _ e=>e) (λ _ _ _ e=>e) (λ b ps e=>⟨#[],by rw [e];simp⟩) (λ m hm=>?_) (λ b u e=>?_) I.bare
 ·simp at hb;rcases hb with e|e
  ·subst e;exact ⟨a3,a1,a4,a5⟩
  ·subst e;exact ⟨c3,c1,c4,c5⟩
 ·obtain ⟨o,es,ep,ho,r⟩:=hm;exact ⟨o,es,ep,k _ o (Ne.symm a1) (Ne.symm c1) ho,r⟩
 ·refine (I.hok b u e).stay (λ d v hc q=>k d v ?_ ?_ q) (λ _ q=>q) λ _ _ q=>q
  ·rcases hc with z|z
   ·rw [z];exact na b u e
   ·exact na d _ z
  ·rcases hc with z|z
   ·rw [z];exact nc b u e
   ·exact nc d _ z
theorem zvr {h:Heap} {ob o:Obj} {b:Addr} (e:(h.push ob).get? b=some o) (n:b≠h.objs.size):h.get? b=some o:=by
 obtain ⟨e1,e2⟩:=uaN.mp e;refine uaN.mpr ⟨?_,e2⟩;cases h
 simpa [Heap.push,Array.getElem?_push,n] using e1
noncomputable def Ite (K:Fg) (a:Addr):It:=⟨λ i H=>∃ xs x,SqL K H a xs/\xs[i]?=some x,λ i H x H'=>∃ y p,(∀ ys,SqL K H a ys->ys[i]?=some y)/\H p=none/\x=.ref p/\H'=upd H p (.tup [.int (i:Int),y]),λ i H=>∃ xs,SqL K H a xs/\xs.length<=i⟩
theorem zxp {P:Program} {w:World} {elts:List Expr} {c:_} {e it:Addr} (hne:e≠it) :
  Turn P w K (.Tuple elts c pos) (Ite K a) [e,it] e (λ i h=>(∃ old,IsEnum h e it (i:Int) old)/\h.IsListIter it a i) where
 mem:=by simp
 obj:=λ i h S b hb=>by
  obtain ⟨⟨old,he⟩,hi⟩:=S;simp at hb;rcases hb with rfl|rfl
  ·exact ⟨_,he,λ v q=>by cases q⟩
  ·obtain ⟨o,e1,c1,d1⟩:=hi;exact ⟨o,e1,λ v z=>by rw [d1] at z;cases z⟩
 keep:=λ i h h' S k=>by
  obtain ⟨⟨old,he⟩,hi⟩:=S;exact ⟨⟨old,k _ (by simp) _ he⟩,hi.at λ o e1=>k it (by simp) o e1⟩
 item:=by
  intro X hP hw hK hc i pins s Y H E I hf S hg;subst hP hw hK;obtain ⟨⟨old,he⟩,hi⟩:=S;obtain ⟨xs,x,hq,hx⟩:=hg;obtain ⟨its,rv,p,hz⟩:=I.list hq;obtain ⟨u,hu,ru⟩:=rv.get hx;refine wpAny_pyNext_enum_item he hi p.isList (x:=u) (by simpa using hu) hne λ h' ho hi' ht hsz hk=>?_;have eL:e < s.heap.objs.size:=vO he;have iL:it < s.heap.objs.size:=by obtain ⟨o,e1,_⟩:=hi;exact vO e1
  have hfr:=I.hok.fresh (u6 s.heap.objs.size);have I1:_2.Inv X pins Y (upd H s.heap.objs.size (.tup [.int (i:Int),x])) { s with heap:=s.heap.push { cls:=.type "tuple",data:=.seq #[.int i s.toks,u] },toks:=s.toks+1 } :=
   I.laid (t':=s.toks+1) (o:=.tup [.int (i:Int),x]) (λ b ob q=>vM _ q) (u6 _) ⟨by show 2<=sizeLine;rw [sizeLine_eq];decide,[.int i s.toks,u],.cons ⟨_,rfl⟩ (.cons ru .nil),IsTup.new _ _⟩
  have fe:=hf e (by simp);have fi:=hf it (by simp);have fe1:FpOk X pins (upd H s.heap.objs.size (.tup [.int (i:Int),x])) e:=⟨by rw [zr0 (wC eL)];exact fe.1,fe.2⟩
  have fi1:FpOk X pins (upd H s.heap.objs.size (.tup [.int (i:Int),x])) it:=⟨by rw [zr0 (wC iL)];exact fi.1,fi.2⟩
  have I2:_2.Inv X pins Y (upd H s.heap.objs.size (.tup [.int (i:Int),x])) { s with heap:=h',toks:=s.toks+1 } :=
   zor (s:={ s with heap:=s.heap.push { cls:=.type "tuple",data:=.seq #[.int i s.toks,u] },toks:=s.toks+1 }) I1 (λ b o nb1 nb2 q=>by
    by_cases z:b=s.heap.objs.size
    ·subst z;have q':(s.heap.push { cls:=.type "tuple",data:=.seq #[.int i s.toks,u] }).get? s.heap.objs.size=some o:=q;rw [v4 _ rfl] at q';cases q';exact ht
    ·exact hk b o nb1 nb2 (zvr q z)) fe1 fi1
  refine ⟨.ref s.heap.objs.size,rfl,wpAny_letOwnedTupleGo_enum ho λ h2 he2 hs2=>?_⟩;refine ⟨.ref s.heap.objs.size,_,zls (tk:=s.toks+1) I2 fe1 hs2,rfl,⟨x,s.heap.objs.size,λ ys hy=>by rw [I.list_inj hy hq];exact hx,hfr,rfl,rfl⟩,⟨⟨u,by simpa using he2⟩,hi'.at λ o e1=>hs2.extBut _ _ (Ne.symm hne) e1⟩,λ b hb=>?_⟩;simp at hb;rcases hb with rfl|rfl
  ·exact fe1.1
  ·exact fi1.1
 done:=by
  intro X hP hw hK hc i pins s Y H E I hf S hg;subst hP hw hK;obtain ⟨⟨old,he⟩,hi⟩:=S;obtain ⟨xs,hq,hx⟩:=hg;obtain ⟨its,rv,p,hz⟩:=I.list hq;have hl:=rv.length;exact wpAny_pyNext_enum_end (I.ok.hd hc) he hi p.isList (by simp;lia) λ h' eb=>⟨rfl,zr11 (tk:=s.toks) I (hf it (by simp)) eb⟩
 self:=λ _ _ _ _ _ S h=>wpAny_pyIter_enum S.1.choose_spec h
theorem zqh:bootBuiltins "enumerate"=some (.type "enumerate"):=by decide +kernel
section
variable {X:Cx} {elts:List Expr}
def zgd1 (K:Fg) (vs:List V) (H:Hp) (R:It->Hp->Prop):Prop:=∃ a xs,vs=[.ref a]/\SqL K H a xs/\R (Ite K a) H
def zt81 (K:Fg) (ta:TA):TI:=λ Y H R=>ta Y H λ vs H1=>zgd1 K vs H1 R
theorem zxb (hK:X.K=K) {c:_} {tpos:Pos} {a:Expr} {ta:TA} {p pos:Pos} (hg:Gl X "enumerate") (hm:X.mg "enumerate"=none) (ha:PA X [a] ta) (hs:starEach [a] X.env=[(false,eval a X.env)]:=by rfl) :
  PI X (.Tuple elts c tpos) (.Call (.Name "enumerate" p) [a] [] pos) (zt81 K ta):=by
 subst hK;intro pins s Y H R I h;refine Call_ (zzj I hg hm zqh (PyProof.Rows.callWith_type1 (thn (ha pos pins s Y H _ I h) λ us s1 hz=>?_) (by rw [hs];rfl) (by rfl)));obtain ⟨vs,H1,I1,r1,q1⟩:=hz;obtain ⟨l,xs,e,hq,q⟩:=q1;subst e;obtain ⟨u1,rfl,ru⟩:=zup r1;obtain rfl:u1=vN l:=ru;obtain ⟨its,rv,pl,hz⟩:=I1.list hq;refine call_enumerate_list pl.isList ?_;intro h' he hi hsz kk;refine wpAny_pyIter_enum he ?_;have I2:_2.Inv X pins Y H1 { s1 with heap:=h' }:=I1.kept (t':=s1.toks) kk;refine ⟨s1.heap.objs.size+1,[s1.heap.objs.size+1,s1.heap.objs.size],_,_,H1,rfl,I2,zxp (k6 _),⟨⟨.none,he⟩,hi⟩,λ b hb=>?_,q⟩;have hb':s1.heap.objs.size<=b:=by
  simp at hb;rcases hb with z|z
  ·exact z ▸ zC _
  ·exact z ▸ u6 _
 exact I1.fpOk hb' (I1.hok.fresh hb')
end
def zba1:R2:=λ x y H Q=>zsc1 x y H Q \/ rRep x y H Q
theorem zw2:OpR X (binaryOp .Mult) zba1:=zkz.or zqz
def zgw:V->List V->Hp->VK->Prop:=λ x vs H Q=>∃ a k d o,x=.ref a/\vs=[k,d]/\DGet H a k o/\Q (o.getD d) H
theorem zjs (hu:X.A.units+64 < cLine):MtR X "dict.get" zgw:=by
 intro pins s Y H x xs v us Q I rx rv h;obtain ⟨a,k,d,o,rfl,rfl,g,q⟩:=h;obtain ⟨u,r,rfl,ru,rr⟩:=zs41 rv;obtain rfl:v=vN a:=rx;exact zaa1 (by lia) I g ru rr λ w' s3 I3 rw'=>⟨o.getD d,H,I3,rw',q⟩
section
variable {X:Cx}
noncomputable def zjc1 (K:Fg):R2:=λ x y H Q=>∃ l b xs zs,x=.ref l/\y=.ref b/\SqL K H l xs/\SqL K H b zs/\xs.length+zs.length<=sizeLine/\∀ p,H p=none->Q (.ref p) (upd H p (.lst (xs++zs)))
theorem zq11 (hK:X.K=K):OpR X (binaryOp .Add) (zjc1 K):=by
 subst hK;intro pins s Y H x y v u Q I rx ry h;obtain ⟨l,b,xs,zs,rfl,rfl,hH,hB,hz,q⟩:=h;cases rx;cases ry;obtain ⟨its,r,⟨⟨cls,dd,data,sl⟩,n,ho,hc,_,hd⟩,z1⟩:=I.list hH;obtain ⟨its2,r2,⟨⟨cls2,dd2,data2,sl2⟩,n2,ho2,hc2,_,hd2⟩,z2⟩:=I.list hB;simp only at hc hd hc2 hd2;subst hc hd hc2 hd2;have e1:=r.length;have e2:=r2.length;refine concat_meets ⟨_,ho,rfl⟩ ⟨_,ho2,rfl⟩ noFill_list_add seq_list_add PySem.F.slot_list_add PySem.F.entry_list_add (PySem.F.args_list_add_2 _ _) (list_addW l b its.toArray its2.toArray n n2 dd dd2 sl sl2 (by simp;lia)) ⟨ho,ho2,?_⟩;have ea:its.toArray++its2.toArray=(its++its2).toArray:=by simp
 rw [ea];exact ⟨.ref _,_,I.lnew (t':=s.toks) (r.append r2) (by rw [vK];lia),rfl,q _ I.fresh⟩
def zm91 (K:Fg):R2:=λ x y H Q=>zqc1 K x y H Q \/ zjc1 K x y H Q
theorem zb1 (hK:X.K=K):OpR X (binaryOp .Add) (zm91 K):=(ze01 hK).or (zq11 hK)
noncomputable def rIsS (K:Fg):List V->Hp->VK->Prop:=λ vs H Q=>∃ a cV c b,vs=[.ref a,cV]/\clsV cV=some c/\(((∃ xs,SqL K H a xs)/\PySem.W.kitOne K (.type "list") c=some b) \/ ((∃ xs,SqT K H a xs)/\PySem.W.kitOne K (.type "tuple") c=some b))/\Q (.bl b) H
theorem zcw (h:X.K=K):CallR X (.builtin "isinstance") (rIsS K):=by
 subst h;intro pins s Y H xs us Q I r h;obtain ⟨a,cV,c,b,rfl,rc,hh,q⟩:=h;obtain ⟨u,v,rfl,ru,rv⟩:=r.two;obtain rfl:=zdo rc rv;cases (show u=vN a from ru);rcases hh with ⟨⟨xs,hx⟩,e⟩|⟨⟨xs,hx⟩,e⟩
 ·obtain ⟨its,_,⟨o,n,ho,hc,_,hd⟩,_⟩:=I.list hx;exact PySem.W.kia_one PySem.W.kitx_list I.kIn ⟨o,ho,hc⟩ e (λ z=>nomatch z) λ tk=>⟨.bl b,H,I.tok tk,rfl,q⟩
 ·obtain ⟨its,_,⟨o,h1,h2,_⟩,_⟩:=I.tuple hx;exact PySem.W.kia_one PySem.W.kitx_tuple I.kIn ⟨o,h1,h2⟩ e (λ z=>nomatch z) λ tk=>⟨.bl b,H,I.tok tk,rfl,q⟩
def rIsW (K:Fg):List V->Hp->VK->Prop:=λ vs H Q=>rIsI K vs H Q \/ rIsS K vs H Q
theorem zz8 (h:X.K=K):CallR X (.builtin "isinstance") (rIsW K):=(zyj h).or (zcw h)
theorem zah (l:Addr) (items:Array Value) (n:Nat) (b:Addr) (items2:Array Value) (n2:Nat) (dd2:Option Addr) (sl2:Array (Option Value)) (hc0:¬(!items.isEmpty && Builtin.List.listTooLong (items.size+items2.size))=true) (hc1:items.size<=sizeLine) (hs2:items.size+items2.size<=sizeLine+1) :
  Meets (Builtin.«list.extend» ⟨[.ref l,.ref b],[]⟩) (λ _ R s=>s.heap.get? l=some { cls:=.type "list",dict:=none,data:=.seq items n,slots:=#[] }/\s.heap.get? b=some { cls:=.type "list",dict:=dd2,data:=.seq items2 n2,slots:=sl2 }/\R (.ok (.ret xB)) { s with heap:=s.heap.update l (Obj.mapSeq λ x=>x++items2),toks:=s.toks }) :=
 .of_wp λ prog w A R s h=>by
  obtain ⟨hp,g,d,tk,os⟩:=s;obtain ⟨hl,hb,h⟩:=h;have f1:=AutoSeq1.idx_int;have f2:=AutoSeq1.sub_tuple_tuple;have f3:=AutoSeq1.sub_list_list;have f4:=AutoSeq1.sub_tuple_list;have f5:=AutoSeq1.sub_list_tuple;have hz':(items++items2).size<=sizeLine+1:=by rw [Array.size_append];exact hs2
  wp_walk using (wpAny_updateSeq hl rfl (hz:=hc1) (_hz':=hz')),wpAny_loadPart' hl,wpAny_loadPart' hb;exact ⟨_,rfl,h⟩
noncomputable def znn (K:Fg):V->List V->Hp->VK->Prop:=λ x vs H Q=>∃ l b xs zs,x=.ref l/\vs=[.ref b]/\H l=some (.lst xs)/\SqL K H b zs/\xs.length+zs.length<=sizeLine/\Q .non (upd H l (.lst (xs++zs)))
theorem zs8 (hK:X.K=K):MtM X "list.extend" (znn K):=by
 subst hK;intro pins s Y H x vs v us Q I rx rv h;obtain ⟨l,b,xs,zs,rfl,rfl,hH,hB,hz,q⟩:=h;cases rx;obtain ⟨u,rfl,ru⟩:=rv.one;cases ru;obtain ⟨z,its,n,r,hl,e⟩:=I.lstM hH;obtain ⟨its2,r2,⟨⟨cls2,dd2,data2,sl2⟩,n2,ho2,hc2,_,hd2⟩,z2⟩:=I.list hB;simp only at hc2 hd2;subst hc2 hd2;have hl2:=r2.length;have hsz:its.toArray.size+its2.toArray.size<=sizeLine:=by rw [vT,vT];lia
 have hlong:¬ (!its.toArray.isEmpty && Builtin.List.listTooLong (its.toArray.size+its2.toArray.size))=true:=by
  rw [zai hsz,Bool.and_false];exact vU
 refine call_meets F.slot_list_extend ⟨_,e,rfl⟩ F.entry_list_extend (F.args_list_extend_2 _ _)
  (zah l its.toArray n b its2.toArray n2 dd2 sl2 hlong (by rw [vT];lia) (by lia)) ⟨e,ho2,?_⟩
 refine ⟨.non,_,I.lset (its':=its++its2) hH e (by simp) (r.append r2) ?_,rfl,q⟩;rw [vK];lia
end
theorem IsAll.dlen {K:Fg} {F:Hp}:∀ {xs:List V} {ds:List PyData},IsAll K F xs ds->xs.length=ds.length
|_,_,.nil=>rfl
|_,_,.cons _ r=>congrArg (·+1) (IsAll.dlen r)
theorem IsAll.dget {K:Fg} {F:Hp}:∀ {xs:List V} {ds:List PyData} {i:Nat} {d:PyData},IsAll K F xs ds->ds[i]?=some d->∃ x,xs[i]?=some x/\Is K F x d
|_,_,_,_,.nil,e=>by simp at e
|_,_,0,_,.cons h _,e=>by simp at e;subst e;exact ⟨_,rfl,h⟩
|_,_,i+1,d,.cons _ r,e=>by
  obtain ⟨x,h1,h2⟩:=IsAll.dget (i:=i) (d:=d) r (by simpa using e);exact ⟨x,by simpa using h1,h2⟩
theorem IsAll.dapp {K:Fg} {F:Hp}:∀ {xs ys:List V} {ds es:List PyData},IsAll K F xs ds->IsAll K F ys es->IsAll K F (xs++ys) (ds++es)
|_,_,_,_,.nil,s=>s
|_,_,_,_,.cons h r,s=>.cons h (IsAll.dapp r s)
theorem IsAll.dtake {K:Fg} {F:Hp}:∀ (n:Nat) {xs:List V} {ds:List PyData},IsAll K F xs ds->IsAll K F (xs.take n) (ds.take n)
|0,_,_,_=>.nil
|_+1,_,_,.nil=>.nil
|n+1,_,_,.cons h r=>.cons h (IsAll.dtake n r)
theorem IsAll.ddrop {K:Fg} {F:Hp}:∀ (n:Nat) {xs:List V} {ds:List PyData},IsAll K F xs ds->IsAll K F (xs.drop n) (ds.drop n)
|0,_,_,h=>h
|_+1,_,_,.nil=>.nil
|n+1,_,_,.cons _ r=>IsAll.ddrop n r
theorem IsAll.dset {K:Fg} {F:Hp} {x:V} {d:PyData} (hx:Is K F x d):∀ (n:Nat) {xs:List V} {ds:List PyData},IsAll K F xs ds->IsAll K F (xs.set n x) (ds.set n d)
|_,_,_,.nil=>.nil
|0,_,_,.cons _ r=>.cons hx r
|n+1,_,_,.cons h r=>.cons h (IsAll.dset hx n r)
theorem Is.list_inv {F:Hp} {v:V} (h:Is K F v (.list ds)):∃ a xs,v=.ref a/\SqL K F a xs/\IsAll K F xs ds:=by
 cases h with
|lst h1 h2=>exact ⟨_,_,rfl,h1,h2⟩
theorem Is.tuple_inv {F:Hp} {v:V} (h:Is K F v (.tuple ds)):∃ a xs,v=.ref a/\SqT K F a xs/\IsAll K F xs ds:=by
 cases h with
|tup h1 h2=>exact ⟨_,_,rfl,SqT.of h1,h2⟩
|tuc h1 h2 _=>exact ⟨_,_,rfl,h1,h2⟩
theorem Is.int_inv {F:Hp} {v:V} {i:Int} (h:Is K F v (.int i)):v=.int i:=by cases h;rfl
theorem Is.bl_inv {F:Hp} {v:V} {b:Bool} (h:Is K F v (.bool b)):v=.bl b:=by cases h;rfl
theorem Is.str_inv {F:Hp} {v:V} {b:Str} (h:Is K F v (.str b)):v=.str b:=by cases h;rfl
theorem Is.non_inv {F:Hp} {v:V} (h:Is K F v .none):v=.non:=by cases h;rfl
end _3
namespace _4
open PySem PySem.Spec PyProof.Rows _2 _3
variable {F' H':Hp} {K:Fg} {a p:Addr} {fp fq:List Addr} {o:HO} {x:V} {xs:List V}
abbrev D:=PyData
def HD (x:Option HO):Prop:=x≠none/\∀ ks:List Key,x≠some (.tup (ks.map kV))
theorem HD.mono {H:Hp} (h:HD (H a)) (s:Same H H'):HD (H' a):=by
 cases e:H a with
|none=>exact absurd e h.1
|some o=>rw [s a o e,<- e];exact h
theorem HD.of {H:Hp} (h:H a=some o) (n:∀ ks:List Key,o≠.tup (ks.map kV)):HD (H a):=by
 rw [h];exact ⟨by simp,λ ks z=>n ks (wI.inj z)⟩
theorem zl21 {H:Hp} (h:HD (upd H a o a)):∀ b,(H b≠none->upd H a o b≠none)/\(HD (H b)->HD (upd H a o b)):=λ b=>by
 by_cases z:b=a
 ·rw [z];exact ⟨λ _=>h.1,λ _=>h⟩
 ·rw [zr0 z];exact ⟨id,id⟩
structure Ext (F H F' H':Hp):Prop where
 h:Same H H'
 f:Same F F'
 fh:Same F' H'
 nw:∀ a,HD (H a)->F a=none->F' a=none
theorem Ext.refl {F H:Hp} (s:Same F H):Ext F H F H:=⟨λ _ _ z=>z,λ _ _ z=>z,s,λ _ _ z=>z⟩
theorem Ext.trans {F H F1 H1 F2 H2:Hp} (a:Ext F H F1 H1) (b:Ext F1 H1 F2 H2):Ext F H F2 H2 :=
 ⟨a.h.trans b.h,a.f.trans b.f,b.fh,λ c hc fc=>b.nw c (hc.mono a.h) (a.nw c hc fc)⟩
theorem Ext.nwo {F H:Hp} (e:Ext F H F' H') (h:H a=some o) (n:∀ ks:List Key,o≠.tup (ks.map kV)) (f:F a=none):F' a=none:=e.nw a (.of h n) f
inductive T where
|fz (d:D)|li (ds:List D)|ls (ts:List T)|ob (C:Addr) (fs:List (Str×T))|dk (kvs:List (Key×D))|dt (kvs:List (List Key×D))|tp (ts:List T)|wh
inductive KvIs (K:Fg) (F:Hp) {κ:Type}:List (κ×V)->List (κ×D)->Prop
|nil:KvIs K F [] []
|cons {k:κ} {v:V} {d:D} {r:List (κ×V)} {s:List (κ×D)}:Is K F v d->KvIs K F r s->KvIs K F ((k,v) :: r) ((k,d) :: s)
theorem KvIs.mono {K:Fg} {F F':Hp} {κ:Type} (s:Same F F'):∀ {r:List (κ×V)} {t:List (κ×D)},KvIs K F r t->KvIs K F' r t
|_,_,.nil=>.nil
|_,_,.cons h r=>.cons (h.mono s) (r.mono s)
mutual
inductive Rt (K:Fg) (F H:Hp):V->T->List Addr->Prop
|fz {v:V} {d:D}:Is K F v d->Rt K F H v (.fz d) []
|li {a:Addr} {xs:List V} {ds:List D}:H a=some (.lst xs)->F a=none->IsAll K F xs ds->Rt K F H (.ref a) (.li ds) [a]
|ls {a:Addr} {xs:List V} {ts:List T} {fp:List Addr}:H a=some (.lst xs)->F a=none->RtAll K F H xs ts fp->Rt K F H (.ref a) (.ls ts) (a :: fp)
|ob {a C dx:Addr} {fs:List (Str×V)} {ts:List (Str×T)} {fp:List Addr}:H a=some (.ins C dx fs)->H dx=some (.own a)->F a=none->F dx=none->RtFs K F H fs ts fp->Rt K F H (.ref a) (.ob C ts) (a :: dx :: fp)
|dk {a:Addr} {kvs:List (Key×V)} {ds:List (Key×D)}:H a=some (.dK kvs)->F a=none->KvIs K F kvs ds->Rt K F H (.ref a) (.dk ds) [a]
|dt {a:Addr} {kvs:List (List Key×V)} {ds:List (List Key×D)}:H a=some (.dT kvs)->F a=none->KvIs K F kvs ds->Rt K F H (.ref a) (.dt ds) [a]
|tp {a:Addr} {xs:List V} {ts:List T} {fp:List Addr}:H a=some (.tup xs)->F a=none->(∀ ks:List Key,xs≠ks.map kV)->RtAll K F H xs ts fp->Rt K F H (.ref a) (.tp ts) (a :: fp)
|wh {a:Addr}:Rt K F H (.ref a) .wh []
inductive RtAll (K:Fg) (F H:Hp):List V->List T->List Addr->Prop
|nil:RtAll K F H [] [] []
|cons {x:V} {t:T} {xs:List V} {ts:List T} {fp fq:List Addr}:Rt K F H x t fp->RtAll K F H xs ts fq->RtAll K F H (x :: xs) (t :: ts) (fp++fq)
inductive RtFs (K:Fg) (F H:Hp):List (Str×V)->List (Str×T)->List Addr->Prop
|nil:RtFs K F H [] [] []
|cons {f:Str} {x:V} {t:T} {xs:List (Str×V)} {ts:List (Str×T)} {fp fq:List Addr}:Rt K F H x t fp->RtFs K F H xs ts fq->RtFs K F H ((f,x) :: xs) ((f,t) :: ts) (fp++fq)
end
section
variable {K:Fg} {F H F' H':Hp}
theorem Rt.ind {P : V → T → List Addr → Prop} {Q : List V → List T → List Addr → Prop} {R : List (Str × V) → List (Str × T) → List Addr → Prop}
    (c1 : ∀ {v : V} {d : D}, Is K F v d → P v (.fz d) [])
    (c2 : ∀ {a : Addr} {xs : List V} {ds : List D}, H a = some (.lst xs) → F a = none → IsAll K F xs ds → P (.ref a) (.li ds) [a])
    (c3 : ∀ {a : Addr} {xs : List V} {ts : List T} {fp : List Addr}, H a = some (.lst xs) → F a = none → Q xs ts fp → P (.ref a) (.ls ts) (a :: fp))
    (c4 : ∀ {a C dx : Addr} {fs : List (Str × V)} {ts : List (Str × T)} {fp : List Addr}, H a = some (.ins C dx fs) → H dx = some (.own a) → F a = none → F dx = none → R fs ts fp → P (.ref a) (.ob C ts) (a :: dx :: fp))
    (c5 : ∀ {a : Addr} {kvs : List (Key × V)} {ds : List (Key × D)}, H a = some (.dK kvs) → F a = none → KvIs K F kvs ds → P (.ref a) (.dk ds) [a])
    (c6 : ∀ {a : Addr} {kvs : List (List Key × V)} {ds : List (List Key × D)}, H a = some (.dT kvs) → F a = none → KvIs K F kvs ds → P (.ref a) (.dt ds) [a])
    (ct : ∀ {a : Addr} {xs : List V} {ts : List T} {fp : List Addr}, H a = some (.tup xs) → F a = none → (∀ ks : List Key, xs ≠ ks.map kV) → Q xs ts fp → P (.ref a) (.tp ts) (a :: fp))
    (cw : ∀ {a : Addr}, P (.ref a) .wh [])
    (c7 : Q [] [] []) (c8 : ∀ {x : V} {t : T} {xs : List V} {ts : List T} {fp fq : List Addr}, P x t fp → Q xs ts fq → Q (x :: xs) (t :: ts) (fp ++ fq))
    (c9 : R [] [] []) (c0 : ∀ {f : Str} {x : V} {t : T} {xs : List (Str × V)} {ts : List (Str × T)} {fp fq : List Addr}, P x t fp → R xs ts fq → R ((f, x) :: xs) ((f, t) :: ts) (fp ++ fq)) :
    (∀ {v : V} {t : T} {fp : List Addr}, Rt K F H v t fp → P v t fp) ∧ (∀ {v : List V} {t : List T} {fp : List Addr}, RtAll K F H v t fp → Q v t fp) ∧ (∀ {v : List (Str × V)} {t : List (Str × T)} {fp : List Addr}, RtFs K F H v t fp → R v t fp) :=
  ⟨fun h => Rt.rec (motive_1 := fun v t fp _ => P v t fp) (motive_2 := fun v t fp _ => Q v t fp) (motive_3 := fun v t fp _ => R v t fp) c1 c2 (fun a b _ => c3 a b) (fun a b c d _ => c4 a b c d) c5 c6 (fun a b c _ => ct a b c) cw c7 (fun _ _ => c8) c9 (fun _ _ => c0) h,
   fun h => RtAll.rec (motive_1 := fun v t fp _ => P v t fp) (motive_2 := fun v t fp _ => Q v t fp) (motive_3 := fun v t fp _ => R v t fp) c1 c2 (fun a b _ => c3 a b) (fun a b c d _ => c4 a b c d) c5 c6 (fun a b c _ => ct a b c) cw c7 (fun _ _ => c8) c9 (fun _ _ => c0) h,
   fun h => RtFs.rec (motive_1 := fun v t fp _ => P v t fp) (motive_2 := fun v t fp _ => Q v t fp) (motive_3 := fun v t fp _ => R v t fp) c1 c2 (fun a b _ => c3 a b) (fun a b c d _ => c4 a b c d) c5 c6 (fun a b c _ => ct a b c) cw c7 (fun _ _ => c8) c9 (fun _ _ => c0) h⟩
def Keep (F' H H':Hp) (fp:List Addr):Prop:=∀ a∈fp,H' a=H a/\F' a=none
theorem Keep.hd (k:Keep F' H H' (a :: fp)) (h:H a=some o):H' a=some o:=(k a wR).1.trans h
theorem Keep.no (k:Keep F' H H' (a :: fp)):F' a=none:=(k a wR).2
theorem Keep.tl (k:Keep F' H H' (a :: fp)):Keep F' H H' fp:=λ b hb=>k b (v8 _ hb)
theorem Keep.l (k:Keep F' H H' (fp++fq)):Keep F' H H' fp:=λ b hb=>k b (xG _ hb)
theorem Keep.r (k:Keep F' H H' (fp++fq)):Keep F' H H' fq:=λ b hb=>k b (wX _ hb)
theorem zvh (s:Same F F'):(∀ {v:V} {t:T} {fp:List Addr},Rt K F H v t fp->Keep F' H H' fp->Rt K F' H' v t fp)/\(∀ {v:List V} {t:List T} {fp:List Addr},RtAll K F H v t fp->Keep F' H H' fp->RtAll K F' H' v t fp)/\(∀ {v:List (Str×V)} {t:List (Str×T)} {fp:List Addr},RtFs K F H v t fp->Keep F' H H' fp->RtFs K F' H' v t fp) :=
 Rt.ind (P:=λ v t fp=>Keep F' H H' fp->Rt K F' H' v t fp) (Q:=λ v t fp=>Keep F' H H' fp->RtAll K F' H' v t fp) (R:=λ v t fp=>Keep F' H H' fp->RtFs K F' H' v t fp)
  (λ h _=>.fz (h.mono s)) (λ h _ i k=>.li (k.hd h) k.no (i.mono s)) (λ h _ i k=>.ls (k.hd h) k.no (i k.tl)) (λ h h2 _ _ i k=>.ob (k.hd h) (k.tl.hd h2) k.no k.tl.no (i k.tl.tl))
  (λ h _ i k=>.dk (k.hd h) k.no (i.mono s)) (λ h _ i k=>.dt (k.hd h) k.no (i.mono s)) (λ h _ nk i k=>.tp (k.hd h) k.no nk (i k.tl)) (λ _=>.wh) (λ _=>.nil) (λ a b k=>.cons (a k.l) (b k.r)) (λ _=>.nil) (λ a b k=>.cons (a k.l) (b k.r))
theorem Rt.frame (s:Same F F') {v:V} {t:T} (h:Rt K F H v t fp) (k:∀ a∈fp,H' a=H a/\F' a=none):Rt K F' H' v t fp:=(zvh s).1 h k
theorem RtAll.frame (s:Same F F') {v:List V} {t:List T} (h:RtAll K F H v t fp) (k:∀ a∈fp,H' a=H a/\F' a=none):RtAll K F' H' v t fp:=(zvh s).2.1 h k
theorem RtFs.frame (s:Same F F') {v:List (Str×V)} {t:List (Str×T)} (h:RtFs K F H v t fp) (k:∀ a∈fp,H' a=H a/\F' a=none):RtFs K F' H' v t fp:=(zvh s).2.2 h k
def Dom (F H:Hp) (fp:List Addr):Prop:=∀ a∈fp,HD (H a)/\F a=none
theorem Dom.nil:Dom F H []:=λ _ h=>nomatch h
theorem Dom.cons {a:Addr} {o:HO} {fp:List Addr} (h:H a=some o) (n:∀ ks:List Key,o≠.tup (ks.map kV)) (f:F a=none) (r:Dom F H fp):Dom F H (a :: fp):=λ b hb=>by
 rcases vL.mp hb with e|e
 ·rw [e];exact ⟨.of h n,f⟩
 ·exact r b e
theorem Dom.app (a:Dom F H fp) (b:Dom F H fq):Dom F H (fp++fq):=λ c hc=>(vJ.mp hc).elim (a c) (b c)
theorem znf:(∀ {v:V} {t:T} {fp:List Addr},Rt K F H v t fp->Dom F H fp)/\(∀ {v:List V} {t:List T} {fp:List Addr},RtAll K F H v t fp->Dom F H fp)/\(∀ {v:List (Str×V)} {t:List (Str×T)} {fp:List Addr},RtFs K F H v t fp->Dom F H fp) :=
 Rt.ind (P:=λ _ _ fp=>Dom F H fp) (Q:=λ _ _ fp=>Dom F H fp) (R:=λ _ _ fp=>Dom F H fp) (λ _=>.nil) (λ h f _=>.cons h (λ _=>nofun) f .nil) (λ h f r=>.cons h (λ _=>nofun) f r) (λ h h2 f f2 r=>.cons h (λ _=>nofun) f (.cons h2 (λ _=>nofun) f2 r))
  (λ h f _=>.cons h (λ _=>nofun) f .nil) (λ h f _=>.cons h (λ _=>nofun) f .nil) (λ h f n r=>.cons h (λ ks z=>n ks (by cases z;rfl)) f r) .nil .nil .app .nil .app
theorem Rt.dom {v:V} {t:T} (h:Rt K F H v t fp):∀ a∈fp,H a≠none/\F a=none:=λ a ha=>⟨(znf.1 h a ha).1.1,(znf.1 h a ha).2⟩
theorem RtAll.dom {v:List V} {t:List T} (h:RtAll K F H v t fp):∀ a∈fp,H a≠none/\F a=none:=λ a ha=>⟨(znf.2.1 h a ha).1.1,(znf.2.1 h a ha).2⟩
theorem RtFs.dom {v:List (Str×V)} {t:List (Str×T)} (h:RtFs K F H v t fp):∀ a∈fp,H a≠none/\F a=none:=λ a ha=>⟨(znf.2.2 h a ha).1.1,(znf.2.2 h a ha).2⟩
theorem Rt.hdd {v:V} {t:T} (h:Rt K F H v t fp):∀ a∈fp,HD (H a):=λ a ha=>(znf.1 h a ha).1
theorem RtAll.hdd {v:List V} {t:List T} (h:RtAll K F H v t fp):∀ a∈fp,HD (H a):=λ a ha=>(znf.2.1 h a ha).1
end
theorem Rt.ext {F H:Hp} {v:V} {t:T} (e:Ext F H F' H') (h:Rt K F H v t fp):Rt K F' H' v t fp :=
 h.frame e.f λ a ha=>by
  obtain ⟨h1,h2⟩:=h.dom a ha;cases q:H a with
 |none=>exact absurd q h1
 |some o=>exact ⟨e.h a o q,e.nw a (h.hdd a ha) h2⟩
inductive Sl where
|un|sh (d:D)|ow (t:T)|bo (t:T)|io (a:Addr) (t:T)
abbrev DSt:=List Sl
abbrev DE:=DSt->(D->Prop)->Prop
abbrev DF:=DSt->(List D->Prop)->Prop
abbrev DT:=DSt->(Bool->Prop)->Prop
noncomputable def RSl (K:Fg) (F H:Hp) (v:Option V):Sl->Prop
|.un=>True
|.sh d=>∃ x,v=some x/\Is K F x d
|.ow t=>∃ x fp,v=some x/\Rt K F H x t fp/\fp.Nodup
|.bo t=>∃ x fp,v=some x/\Rt K F H x t fp/\fp.Nodup
|.io a t=>∃ fp,v=some (.ref a)/\Rt K F H (.ref a) t fp/\fp.Nodup
theorem RSl.ext {K:Fg} {F H F' H':Hp} {v:Option V} (e:Ext F H F' H'):∀ {s:Sl},RSl K F H v s->RSl K F' H' v s
|.un,_=>trivial
|.sh _,⟨x,a,b⟩=>⟨x,a,b.mono e.f⟩
|.ow _,⟨a,xs,h1,h2,h3⟩=>⟨a,xs,h1,h2.ext e,h3⟩
|.bo _,⟨a,xs,h1,h2,h3⟩=>⟨a,xs,h1,h2.ext e,h3⟩
|.io _ _,⟨xs,h1,h2,h3⟩=>⟨xs,h1,h2.ext e,h3⟩
structure RV (K:Fg) (F H:Hp) (Y:_2.St) (U:DSt):Prop where
 len:Y.length=U.length
 sl:∀ i s,U[i]?=some s->RSl K F H (Y.getD i none) s
theorem RV.ext {K:Fg} {F H F' H':Hp} {Y:_2.St} {U:DSt} (e:Ext F H F' H') (r:RV K F H Y U):RV K F' H' Y U:=⟨r.len,λ i s h=>(r.sl i s h).ext e⟩
def Vw (K:Fg) (F H:Hp) (v:V) (d:D):Prop:=Is K F v d \/ ∃ a xs ds,v=.ref a/\d=.list ds/\H a=some (.lst xs)/\IsAll K F xs ds
theorem Vw.ext {F H:Hp} {v:V} {d:D} (e:Ext F H F' H') (h:Vw K F H v d):Vw K F' H' v d:=by
 rcases h with h|⟨a,xs,ds,h1,h2,h3,h4⟩
 ·exact .inl (h.mono e.f)
 ·exact .inr ⟨a,xs,ds,h1,h2,e.h _ _ h3,h4.mono e.f⟩
theorem Vw.is {F H:Hp} {v:V} {d:D} (s:Same F H) (h:Vw K F H v d):Is K H v d:=by
 rcases h with h|⟨a,xs,ds,rfl,rfl,h3,h4⟩
 ·exact h.mono s
 ·exact .lst (SqL.of h3) (h4.mono s)
theorem Vw.list {K:Fg} {F H:Hp} {v:V} {ds:List D} (s:Same F H) (h:Vw K F H v (.list ds)):∃ a xs,v=.ref a/\SqL K H a xs/\IsAll K F xs ds:=by
 rcases h with h|⟨a,xs,ds',rfl,e,h3,h4⟩
 ·cases h with
 |lst h1 h2=>exact ⟨_,_,rfl,s.seq h1,h2⟩
 ·cases e;exact ⟨a,xs,rfl,SqL.of h3,h4⟩
theorem Vw.tuple {K:Fg} {F H:Hp} {v:V} {ds:List D} (s:Same F H) (h:Vw K F H v (.tuple ds)):∃ a xs,v=.ref a/\SqT K H a xs/\SqT K F a xs/\IsAll K F xs ds:=by
 rcases h with h|⟨a,xs,ds',rfl,e,h3,h4⟩
 ·cases h with
 |tup h1 h2=>exact ⟨_,_,rfl,zto s (SqT.of h1),SqT.of h1,h2⟩
 |tuc h1 h2 _=>exact ⟨_,_,rfl,zto s h1,h1,h2⟩
 ·cases e
theorem Vw.int {K:Fg} {F H:Hp} {v:V} {i:Int} (h:Vw K F H v (.int i)):v=.int i:=by
 rcases h with h|⟨a,xs,ds',rfl,e,h3,h4⟩
 ·exact h.int_inv
 ·cases e
theorem Vw.str {K:Fg} {F H:Hp} {v:V} {i:Str} (h:Vw K F H v (.str i)):v=.str i:=by
 rcases h with h|⟨a,xs,ds',rfl,e,h3,h4⟩
 ·exact h.str_inv
 ·cases e
theorem Vw.bl {K:Fg} {F H:Hp} {v:V} {i:Bool} (h:Vw K F H v (.bool i)):v=.bl i:=by
 rcases h with h|⟨a,xs,ds',rfl,e,h3,h4⟩
 ·exact h.bl_inv
 ·cases e
section
variable (K:Fg)
noncomputable def RfE (te:TE) (de:DE):Prop:=∀ {F H:Hp} {Y:_2.St} {U:DSt} {Qd:D->Prop} {Q:VK},Same F H->RV K F H Y U->de U Qd->(∀ d,Qd d->∀ v F' H',Ext F H F' H'->Is K F' v d->Q v H')->te Y H Q
noncomputable def RfV (te:TE) (de:DE):Prop:=∀ {F H:Hp} {Y:_2.St} {U:DSt} {Qd:D->Prop} {Q:VK},Same F H->RV K F H Y U->de U Qd->(∀ d,Qd d->∀ v F' H',Ext F H F' H'->Vw K F' H' v d->Q v H')->te Y H Q
noncomputable def RfF (te:TE) (df:DF):Prop:=∀ {F H:Hp} {Y:_2.St} {U:DSt} {Qd:List D->Prop} {Q:VK},Same F H->RV K F H Y U->df U Qd->(∀ ds,Qd ds->∀ a xs F' H',Ext F H F' H'->H a=none->H' a=some (.lst xs)->F' a=none->IsAll K F' xs ds->Q (.ref a) H')->te Y H Q
noncomputable def RfT (tt:TT) (dt:DT):Prop:=∀ {F H:Hp} {Y:_2.St} {U:DSt} {Qd:Bool->Prop} {Q:Bool->Hp->Prop},Same F H->RV K F H Y U->dt U Qd->(∀ b,Qd b->∀ F' H',Ext F H F' H'->Q b H')->tt Y H Q
noncomputable def RfA (ta:TA) (da:DF):Prop:=∀ {F H:Hp} {Y:_2.St} {U:DSt} {Qd:List D->Prop} {Q:List V->Hp->Prop},Same F H->RV K F H Y U->da U Qd->(∀ ds,Qd ds->∀ vs F' H',Ext F H F' H'->IsAll K F' vs ds->Q vs H')->ta Y H Q
inductive VwAll (F H:Hp):List V->List D->Prop
|nil:VwAll F H [] []
|cons {v:V} {d:D} {vs:List V} {ds:List D}:Vw K F H v d->VwAll F H vs ds->VwAll F H (v :: vs) (d :: ds)
noncomputable def RfAV (ta:TA) (da:DF):Prop:=∀ {F H:Hp} {Y:_2.St} {U:DSt} {Qd:List D->Prop} {Q:List V->Hp->Prop},Same F H->RV K F H Y U->da U Qd->(∀ ds,Qd ds->∀ vs F' H',Ext F H F' H'->VwAll K F' H' vs ds->Q vs H')->ta Y H Q
noncomputable def RfO (to:TO) (dO:DSt->(Option Int->Prop)->Prop):Prop:=∀ {F H:Hp} {Y:_2.St} {U:DSt} {Qd:Option Int->Prop} {Q:Option Int->Hp->Prop},Same F H->RV K F H Y U->dO U Qd->(∀ o,Qd o->∀ F' H',Ext F H F' H'->Q o H')->to Y H Q
end
section
variable {K:Fg} {te ta tb tc:TE} {de da db dc:DE} {tt tu:TT} {dt du:DT} {tA:TA} {dA:DF}
theorem zso {F H:Hp} {ds:List D} (e:Ext F H F' H') (hn:H a=none) (h1:H' a=some (.lst xs)) (h2:F' a=none) (h3:IsAll K F' xs ds) :
  Ext F H (upd F' a (.lst xs)) H'/\Is K (upd F' a (.lst xs)) (.ref a) (.list ds):=by
 have s:Same F' (upd F' a (.lst xs)):=λ b o z=>by
  by_cases hb:b=a
  ·subst hb;rw [h2] at z;cases z
  ·rw [zr0 hb];exact z
 refine ⟨⟨e.h,e.f.trans s,λ b o z=>?_,λ b hb fb=>?_⟩,.lst (SqL.of zn0) (h3.mono s)⟩
 ·by_cases hb:b=a
  ·subst hb;rw [zn0] at z;cases z;exact h1
  ·rw [zr0 hb] at z;exact e.fh b o z
 ·have:b≠a:=λ z=>hb.1 (by rw [z];exact hn);rw [zr0 this];exact e.nw b hb fb
theorem zmc {F H:Hp} {ds:List D} (s:Same F H) (hn:H p=none) (h3:IsAll K F xs ds) :
  Ext F H (upd F p (.tup xs)) (upd H p (.tup xs))/\Is K (upd F p (.tup xs)) (.ref p) (.tuple ds):=by
 have fn:F p=none:=by
  cases e:F p with
 |none=>rfl
 |some o=>rw [s p o e] at hn;cases hn
 have sF:Same F (upd F p (.tup xs)):=zt1 fn _;refine ⟨⟨zt1 hn _,sF,λ b o z=>?_,λ b hb fb=>?_⟩,.tup zn0 (h3.mono sF)⟩
 ·by_cases hb:b=p
  ·subst hb;rw [zn0] at z ⊢;exact z
  ·rw [zr0 hb] at z ⊢;exact s b o z
 ·have:b≠p:=λ z=>hb.1 (by rw [z];exact hn);rw [zr0 this];exact fb
theorem ze7 {F H:Hp} (s:Same F H) (hn:H p=none):Ext F H F (upd H p (.lst xs))/\F p=none:=by
 have fn:F p=none:=by
  cases e:F p with
 |none=>rfl
 |some o=>rw [s p o e] at hn;cases hn
 refine ⟨⟨zt1 hn _,λ _ _ z=>z,λ b o z=>?_,λ _ _ z=>z⟩,fn⟩;exact zt1 hn _ b o (s b o z)
theorem RfE.v (h:RfE K te de):RfV K te de:=λ s r d k=>h s r d λ x q v F' H' e i=>k x q v F' H' e (.inl i)
def dF (df:DF):DE:=λ U Q=>df U λ ds=>Q (.list ds)
theorem RfF.e {df:DF} (h:RfF K te df):RfE K te (dF df):=λ s r d k=>h s r d λ ds q a xs F' H' e hn h1 h2 h3=>by
 obtain ⟨e2,i2⟩:=zso e hn h1 h2 h3;exact k _ q _ _ _ e2 i2
def Sl.tree:Sl->Option T
|.ow t=>some t
|.bo t=>some t
|.io _ t=>some t
|.sh d=>some (.fz d)
|.un=>none
def fzT:T->(D->Prop)->Prop
|.fz d,Q=>Q d
|_,_=>False
def vwT:T->(D->Prop)->Prop
|.fz d,Q=>Q d
|.li ds,Q=>Q (.list ds)
|_,_=>False
def slT:Sl->(T->Prop)->Prop
|.sh d,N=>N (.fz d)
|.ow t,N=>N t
|.bo t,N=>N t
|.io _ t,N=>N t
|.un,_=>False
def pAt:DSt->Nat->(T->Prop)->Prop
|[],_,_=>False
|s :: _,0,N=>slT s N
|_ :: U,i+1,N=>pAt U i N
theorem zn71 {s:Sl} {N:T->Prop} (h:slT s N):∃ t,s.tree=some t/\N t:=by
 cases s with
|un=>exact h.elim
|sh d=>exact ⟨_,rfl,h⟩
|ow t=>exact ⟨_,rfl,h⟩
|bo t=>exact ⟨_,rfl,h⟩
|io a t=>exact ⟨_,rfl,h⟩
theorem zwo {N:T->Prop}:∀ {U:DSt} {i:Nat},pAt U i N->∃ s t,U[i]?=some s/\s.tree=some t/\N t
|s :: _,0,h=>by
  obtain ⟨t,h1,h2⟩:=zn71 h;exact ⟨s,t,rfl,h1,h2⟩
|_ :: U,i+1,h=>zwo (U:=U) (i:=i) h
def dVar (i:Nat):DE:=λ U Q=>pAt U i λ t=>fzT t Q
def zmk (i:Nat):DE:=λ U Q=>pAt U i λ t=>vwT t Q
theorem zt9 {F H:Hp} {Y:_2.St} {U:DSt} {i:Nat} (e:Y.getD i none=some x):Y[i]?=some (some x):=by
 rw [vS] at e;cases q:Y[i]? with
|none=>rw [q] at e;cases e
|some v=>rw [q] at e;exact congrArg some e
theorem RSl.rt {F H:Hp} {v:Option V}:∀ {s:Sl} {t:T},RSl K F H v s->s.tree=some t->∃ x fp,v=some x/\Rt K F H x t fp/\fp.Nodup
|.un,_,_,e=>by cases e
|.sh d,_,⟨x,h1,h2⟩,e=>by cases e;exact ⟨x,[],h1,.fz h2,.nil⟩
|.ow _,_,⟨x,fp,h1,h2⟩,e=>by cases e;exact ⟨x,fp,h1,h2⟩
|.bo _,_,⟨x,fp,h1,h2⟩,e=>by cases e;exact ⟨x,fp,h1,h2⟩
|.io a _,_,⟨fp,h1,h2⟩,e=>by cases e;exact ⟨_,fp,h1,h2⟩
theorem zab1 {F H:Hp} {t:T} {Q:D->Prop} (h:Rt K F H x t fp) (q:vwT t Q):∃ d,Q d/\Vw K F H x d:=by
 cases h with
|fz i=>exact ⟨_,q,.inl i⟩
|li h1 h2 h3=>exact ⟨_,q,.inr ⟨_,_,_,rfl,rfl,h1,h3⟩⟩
|ls _ _ _=>exact q.elim
|ob _ _ _ _ _=>exact q.elim
|dk _ _ _=>exact q.elim
|dt _ _ _=>exact q.elim
|tp _ _ _ _=>exact q.elim
|wh=>exact q.elim
theorem zv41 {F H:Hp} {t:T} {Q:D->Prop} (h:Rt K F H x t fp) (q:fzT t Q):∃ d,Q d/\Is K F x d:=by
 cases h with
|fz i=>exact ⟨_,q,i⟩
|li _ _ _=>exact q.elim
|ls _ _ _=>exact q.elim
|ob _ _ _ _ _=>exact q.elim
|dk _ _ _=>exact q.elim
|dt _ _ _=>exact q.elim
|tp _ _ _ _=>exact q.elim
|wh=>exact q.elim
theorem zh0 (i:Nat):RfE K (tVar i) (dVar i):=by
 intro F H Y U Qd Q s r h k;obtain ⟨sl,t,q,et,f⟩:=zwo h;obtain ⟨x,fp,e,hr,_⟩:=(r.sl i _ q).rt et;obtain ⟨d,qd,hi⟩:=zv41 hr f;exact ⟨x,zt9 (F:=F) (H:=H) (U:=U) e,k d qd x F H (Ext.refl s) hi⟩
theorem zc0 (i:Nat):RfV K (tVar i) (zmk i):=by
 intro F H Y U Qd Q s r h k;obtain ⟨sl,t,q,et,f⟩:=zwo h;obtain ⟨x,fp,e,hr,_⟩:=(r.sl i _ q).rt et;obtain ⟨d,qd,hi⟩:=zab1 hr f;exact ⟨x,zt9 (F:=F) (H:=H) (U:=U) e,k d qd x F H (Ext.refl s) hi⟩
def dC (d:D):DE:=λ _ Q=>Q d
theorem zv0 {i:Int}:RfE K (tC (.int i)) (dC (.int i)):=λ s r h k=>k _ h _ _ _ (Ext.refl s) (.int i)
theorem zkk {b:Bool}:RfE K (tC (.bl b)) (dC (.bool b)):=λ s r h k=>k _ h _ _ _ (Ext.refl s) (.bl b)
theorem zxa {x:Str}:RfE K (tC (.str x)) (dC (.str x)):=λ s r h k=>k _ h _ _ _ (Ext.refl s) (.str x)
theorem zcu:RfE K (tC .non) (dC .none):=λ s r h k=>k _ h _ _ _ (Ext.refl s) .non
def dOp (f:D->D->(D->Prop)->Prop) (da db:DE):DE:=λ U Q=>da U λ x=>db U λ y=>f x y Q
noncomputable def R2E (K:Fg) (r:R2) (f:D->D->(D->Prop)->Prop):Prop:=∀ {F H:Hp} {x y:V} {d e:D} {Qd:D->Prop} {Q:VK},Same F H->Vw K F H x d->Vw K F H y e->f d e Qd->(∀ z,Qd z->∀ v F' H',Ext F H F' H'->Is K F' v z->Q v H')->r x y H Q
noncomputable def R2F (K:Fg) (r:R2) (f:D->D->(List D->Prop)->Prop):Prop:=∀ {F H:Hp} {x y:V} {d e:D} {Qd:List D->Prop} {Q:VK},Same F H->Vw K F H x d->Vw K F H y e->f d e Qd->(∀ ds,Qd ds->∀ a xs F' H',Ext F H F' H'->H a=none->H' a=some (.lst xs)->F' a=none->IsAll K F' xs ds->Q (.ref a) H')->r x y H Q
theorem zl0 {r:R2} {f:D->D->(D->Prop)->Prop} (hr:R2E K r f) (ha:RfV K ta da) (hb:RfV K tb db):RfE K (tOp r ta tb) (dOp f da db):=by
 intro F H Y U Qd Q s rv h k;refine ha s rv h λ x hx v F1 H1 e1 i1=>hb e1.fh (rv.ext e1) hx λ y hy u F2 H2 e2 i2=>?_;exact hr e2.fh (i1.ext e2) i2 hy λ z hz w F3 H3 e3 i3=>k z hz w F3 H3 ((e1.trans e2).trans e3) i3
end
variable {C a dx:Addr} {E:XK} {H':Hp} {K:Fg} {N:DSt->Prop} {U U':DSt} {Y Y':_2.St} {df di:DF} {f m qual:Str} {fn fp fpr:List Addr} {fps:Nat->List Addr} {g:Int->Int->V} {gs:TGs} {i n:Nat} {ix:List Nat} {kv x y:V} {o:HO} {ps:List Str} {st:Stmt} {vs xs:List V} {wi:TI}
section
variable {K:Fg} {te ta tb tc:TE} {de da db dc:DE} {tt tu:TT} {dt du:DT} {tA:TA} {dA:DF} {w:World}
noncomputable def fAdd:D->D->(D->Prop)->Prop
|.int i,.int j,Q=>Q (.int (i+j))
|.str a,.str b,Q=>a.length+b.length<=sizeLine/\Q (.str (a++b))
|.list a,.list b,Q=>a.length+b.length<=sizeLine/\Q (.list (a++b))
|.tuple a,.tuple b,Q=>a≠[]/\b≠[]/\a.length+b.length<=sizeLine/\Q (.tuple (a++b))
|_,_,_=>False
def fCat:D->D->(List D->Prop)->Prop
|.list a,.list b,Q=>a.length+b.length<=sizeLine/\Q (a++b)
|_,_,_=>False
theorem zxd1:R2F K (zm91 K) fCat:=by
 intro F H x y d e Qd Q s hx hy h k;unfold fCat at h;split at h
 ·rename_i a b
  obtain ⟨p,xs,rfl,h1,i1⟩:=hx.list s;obtain ⟨q,ys,rfl,h2,i2⟩:=hy.list s;have e1:=i1.dlen;have e2:=i2.dlen;refine .inr ⟨p,q,xs,ys,rfl,rfl,h1,h2,by lia,λ l hl=>?_⟩;obtain ⟨ex,fn⟩:=ze7 (xs:=xs++ys) s hl;exact k _ h.2 l _ F _ ex hl zn0 fn (i1.dapp i2)
 ·exact h.elim
theorem zd6:R2E K (zm91 K) fAdd:=by
 intro F H x y d e Qd Q s hx hy h k;unfold fAdd at h;split at h
 ·cases hx.int;cases hy.int;exact .inl (.inl ⟨_,_,rfl,rfl,k _ h _ F H (Ext.refl s) (.int _)⟩)
 ·cases hx.str;cases hy.str;exact .inl (.inr (.inl ⟨_,_,rfl,rfl,h.1,k _ h.2 _ F H (Ext.refl s) (.str _)⟩))
 ·rename_i a b
  refine zxd1 (Qd:=λ ds=>Qd (.list ds)) s hx hy h λ ds q l xs F' H' ex hn h1 h2 h3=>?_;obtain ⟨e2,i2⟩:=zso ex hn h1 h2 h3;exact k _ q _ _ _ e2 i2
 ·rename_i a b
  obtain ⟨p,xs,rfl,h1,_,i1⟩:=hx.tuple s;obtain ⟨q,ys,rfl,h2,_,i2⟩:=hy.tuple s;have e1:=i1.dlen;have e2:=i2.dlen;have n1:xs≠[]:=λ z=>h.1 (uaO.mp (by rw [<- e1,z];rfl));have n2:ys≠[]:=λ z=>h.2.1 (uaO.mp (by rw [<- e2,z];rfl));refine .inl (.inr (.inr (.inr ⟨p,q,xs,ys,rfl,rfl,h1,h2,n1,by lia,λ z=>absurd z n2,λ _ l hl=>?_⟩)));obtain ⟨ex,ii⟩:=zmc (K:=K) (ds:=a++b) s hl (i1.dapp i2);exact k _ h.2.2.2 _ _ _ ex ii
 ·exact h.elim
def fI (C:Int->Int->Prop) (g:Int->Int->D):D->D->(D->Prop)->Prop
|.int i,.int j,Q=>C i j/\Q (g i j)
|_,_,_=>False
def fI0 (g:Int->Int->D):D->D->(D->Prop)->Prop
|.int i,.int j,Q=>Q (g i j)
|_,_,_=>False
theorem r_I {C:Int->Int->Prop} {g':Int->Int->D} (hg:∀ i j (F:Hp),Is K F (g i j) (g' i j)):R2E K (rI C g) (fI C g'):=by
 intro F H x y d e Qd Q s hx hy h k;unfold fI at h;split at h
 ·cases hx.int;cases hy.int;exact ⟨_,_,rfl,rfl,h.1,k _ h.2 _ F H (Ext.refl s) (hg _ _ _)⟩
 ·exact h.elim
theorem r_I0 {g':Int->Int->D} (hg:∀ i j (F:Hp),Is K F (g i j) (g' i j)):R2E K (rI0 g) (fI0 g'):=by
 intro F H x y d e Qd Q s hx hy h k;unfold fI0 at h;split at h
 ·cases hx.int;cases hy.int;exact ⟨_,_,rfl,rfl,k _ h _ F H (Ext.refl s) (hg _ _ _)⟩
 ·exact h.elim
abbrev fSub:=fI0 λ i j=>.int (i - j)
abbrev fDiv:=fI zsy λ i j=>.int (i / j)
abbrev fMod:=fI (λ _ j=>0 < j) λ i j=>.int (i % j)
abbrev fPow:=fI CPow λ i j=>.int (i ^ j.toNat)
abbrev fLt:=fI0 λ i j=>.bool (decide (i < j))
abbrev fLe:=fI0 λ i j=>.bool (decide (i<=j))
abbrev fGt:=fI0 λ i j=>.bool (decide (j < i))
abbrev fGe:=fI0 λ i j=>.bool (decide (j<=i))
theorem zcq:R2E K (rI0 λ i j=>V.int (i - j)) fSub:=r_I0 λ _ _ _=>.int _
theorem zxf:R2E K (rI zsy λ i j=>V.int (i / j)) fDiv:=r_I λ _ _ _=>.int _
theorem zs5:R2E K (rI (λ _ j=>0 < j) λ i j=>V.int (i % j)) fMod:=r_I λ _ _ _=>.int _
theorem zk61:R2E K (rI CPow λ i j=>V.int (i ^ j.toNat)) fPow:=r_I λ _ _ _=>.int _
theorem r_lt:R2E K (rI0 λ i j=>V.bl (decide (i < j))) fLt:=r_I0 λ _ _ _=>.bl _
theorem r_le:R2E K (rI0 λ i j=>V.bl (decide (i<=j))) fLe:=r_I0 λ _ _ _=>.bl _
theorem r_gt:R2E K (rI0 λ i j=>V.bl (decide (j < i))) fGt:=r_I0 λ _ _ _=>.bl _
theorem r_ge:R2E K (rI0 λ i j=>V.bl (decide (j<=i))) fGe:=r_I0 λ _ _ _=>.bl _
noncomputable def fMul:D->D->(D->Prop)->Prop
|.int i,.int j,Q=>CMul i j/\Q (.int (i * j))
|.str z,.int n,Q=>0<=n/\z.length * n.toNat<=sizeLine/\n<=sizeLine/\Q (.str (repS z n.toNat))
|_,_,_=>False
theorem znj:R2E K zba1 fMul:=by
 intro F H x y d e Qd Q s hx hy h k;unfold fMul at h;split at h
 ·cases hx.int;cases hy.int;exact .inl (.inl (.inl ⟨_,_,rfl,rfl,h.1,k _ h.2 _ F H (Ext.refl s) (.int _)⟩))
 ·cases hx.str;cases hy.int;exact .inl (.inr ⟨_,_,rfl,rfl,h.1,h.2.1,h.2.2.1,k _ h.2.2.2 _ F H (Ext.refl s) (.str _)⟩)
 ·exact h.elim
noncomputable def fRep:List D->D->(List D->Prop)->Prop
|ds,.int n,Q=>n < 2 ^ 62/\-(2 ^ 62)<=n/\ds.length * n.toNat<=sizeLine/\Q (vP n.toNat ds).flatten
|_,_,_=>False
def dRep (df:DF) (db:DE):DF:=λ U Q=>df U λ ds=>db U λ y=>fRep ds y Q
theorem zzs {F:Hp} {xs:List V} {ds:List D} (h:IsAll K F xs ds):∀ n:Nat,IsAll K F (vP n xs).flatten (vP n ds).flatten
|0=>.nil
|n+1=>by rw [x9,x9,yI,yI];exact h.dapp (zzs h n)
theorem zq01 (ha:RfF K ta df) (hb:RfE K tb db):RfF K (tOp zba1 ta tb) (dRep df db):=by
 intro F H Y U Qd Q s rv h k;refine ha s rv h λ ds hx a xs F1 H1 e1 hn h1 h2 h3=>hb e1.fh (rv.ext e1) hx λ y hy u F2 H2 e2 i2=>?_;unfold fRep at hy;split at hy
 ·rename_i n
  cases i2.int_inv;have el:=h3.dlen;refine .inr ⟨a,n,xs,rfl,rfl,e2.h _ _ h1,by lia,by lia,by rw [el];exact hy.2.2.1,λ p hp=>?_⟩;obtain ⟨ex,fn⟩:=ze7 (xs:=(vP n.toNat xs).flatten) e2.fh hp;refine k _ hy.2.2.2 p _ F2 _ ((e1.trans e2).trans ex) ?_ zn0 fn (zzs (h3.mono e2.f) _);cases q:H p with
 |none=>rfl
 |some o=>rw [(e1.trans e2).h p o q] at hp;cases hp
 ·exact hy.elim
noncomputable def fEq:D->D->(D->Prop)->Prop
|.int i,.int j,Q=>Q (.bool (decide (i=j)))
|.str i,.str j,Q=>Q (.bool (decide (i=j)))
|.bool i,.bool j,Q=>Q (.bool (decide (i=j)))
|d,e,Q=>SeqAt.shaped d=true/\SeqAt.shaped e=true/\Q (.bool (PyData.eqv d e))
noncomputable def fNe:D->D->(D->Prop)->Prop
|.int i,.int j,Q=>Q (.bool (!decide (i=j)))
|.str i,.str j,Q=>Q (.bool (!decide (i=j)))
|.bool i,.bool j,Q=>Q (.bool (!decide (i=j)))
|d,e,Q=>SeqAt.shaped d=true/\SeqAt.shaped e=true/\Q (.bool (!PyData.eqv d e))
theorem zre (i j:Int):decide (V.int i=V.int j)=decide (i=j):=by simp
theorem zme (i j:Str):decide (V.str i=V.str j)=decide (i=j):=by simp
theorem zxl (i j:Bool):decide (V.bl i=V.bl j)=decide (i=j):=by simp
def zot:D->Bool
|.none=>true
|_=>false
def fIsN:D->D->(D->Prop)->Prop
|d,.none,Q=>Q (.bool (zot d))
|_,_,_=>False
def zd11:D->D->(D->Prop)->Prop
|d,.none,Q=>Q (.bool (!zot d))
|_,_,_=>False
theorem zn31 {F H:Hp} {d:D} (s:Same F H) (hx:Vw K F H x d):decide (x=.non)=zot d:=by
 cases hx.is s <;> simp [zot]
theorem za31 {F H:Hp} (s:Same F H) (hx:Vw K F H x .none):x=.non:=by
 cases hx.is s;rfl
theorem zcd1:R2E K (λ x y H Q=>y=V.non/\Q (V.bl (decide (x=V.non))) H) fIsN:=by
 intro F H x y d e Qd Q s hx hy h k;unfold fIsN at h;split at h
 ·refine ⟨za31 s hy,k _ h _ F H (Ext.refl s) ?_⟩;rw [zn31 s hx];exact .bl _
 ·exact h.elim
theorem zh71:R2E K (λ x y H Q=>y=V.non/\Q (V.bl (!decide (x=V.non))) H) zd11:=by
 intro F H x y d e Qd Q s hx hy h k;unfold zd11 at h;split at h
 ·refine ⟨za31 s hy,k _ h _ F H (Ext.refl s) ?_⟩;rw [zn31 s hx];exact .bl _
 ·exact h.elim
noncomputable def fIx:D->D->(D->Prop)->Prop
|.list ds,.int i,Q=>∃ d,atI ds i=some d/\Q d
|.tuple ds,.int i,Q=>∃ d,atI ds i=some d/\Q d
|.str z,.int i,Q=>z.length<=sizeLine/\∃ c,atI z.cps.toList i=some c/\Q (.str ⟨#[c]⟩)
|_,_,_=>False
theorem zx11 {F:Hp} {ds:List D} {i:Int} {d:D} (h:IsAll K F xs ds) (e:atI ds i=some d):∃ x,atI xs i=some x/\Is K F x d:=by
 unfold atI at e ⊢;rw [h.dlen];cases q:ixN ds.length i with
|none=>rw [q] at e;cases e
|some j =>
  rw [q] at e;obtain ⟨x,h1,h2⟩:=h.dget (show ds[j]?=some d from e);exact ⟨x,h1,h2⟩
theorem r_ix:R2E K (rIxV w K) fIx:=by
 intro F H x y d e Qd Q s hx hy h k;unfold fIx at h;split at h
 ·obtain ⟨z,ez,q⟩:=h;obtain ⟨p,xs,rfl,h1,i1⟩:=hx.list s;cases hy.int;obtain ⟨v,ev,iv⟩:=zx11 i1 ez;exact .inl (.inl (.inl ⟨p,xs,_,v,rfl,rfl,h1,ev,k _ q _ F H (Ext.refl s) iv⟩))
 ·obtain ⟨z,ez,q⟩:=h;obtain ⟨p,xs,rfl,h1,_,i1⟩:=hx.tuple s;cases hy.int;obtain ⟨v,ev,iv⟩:=zx11 i1 ez;exact .inl (.inl (.inr (.inl ⟨p,xs,_,v,rfl,rfl,h1,ev,k _ q _ F H (Ext.refl s) iv⟩)))
 ·obtain ⟨hz,c,ec,q⟩:=h;cases hx.str;cases hy.int;exact .inl (.inl (.inr (.inr ⟨_,_,c,rfl,rfl,hz,ec,k _ q _ F H (Ext.refl s) (.str _)⟩)))
 ·exact h.elim
def dUn (f:D->(D->Prop)->Prop) (da:DE):DE:=λ U Q=>da U λ x=>f x Q
def fNeg:D->(D->Prop)->Prop
|.int i,Q=>Q (.int (-i))
|_,_=>False
theorem zo91 (ha:RfE K ta da):RfE K (tUn (rU λ i=>V.int (-i)) ta) (dUn fNeg da):=by
 intro F H Y U Qd Q s rv h k;refine ha s rv h λ x hx v F1 H1 e1 i1=>?_;unfold fNeg at hx;split at hx
 ·cases i1.int_inv;exact ⟨_,rfl,k _ hx _ F1 H1 e1 (.int _)⟩
 ·exact hx.elim
def fB (d:D) (Q:Bool->Prop):Prop:=match d with
|.bool b=>Q b
|_=>False
theorem zd61 {F:Hp} {v:V} {d:D} {Q:Bool->Prop} (i:Is K F v d) (h:fB d Q):∃ b,v=.bl b/\Q b:=by
 unfold fB at h;split at h
 ·exact ⟨_,i.bl_inv,h⟩
 ·exact h.elim
def zbc1 (da:DE):DE:=λ U Q=>da U λ x=>fB x λ b=>Q (.bool (!b))
theorem zh01 (ha:RfE K ta da):RfE K (zsb1 ta) (zbc1 da):=by
 intro F H Y U Qd Q s rv h k;refine ha s rv h λ x hx v F1 H1 e1 i1=>?_;obtain ⟨b,rfl,q⟩:=zd61 i1 hx;exact ⟨b,rfl,k _ q _ F1 H1 e1 (.bl _)⟩
def zdc1 (da db:DE):DE:=λ U Q=>da U λ x=>fB x λ b=>if b=true then db U Q else Q (.bool false)
theorem zn01 (ha:RfE K ta da) (hb:RfE K tb db):RfE K (zrc1 ta tb) (zdc1 da db):=by
 intro F H Y U Qd Q s rv h k;refine ha s rv h λ x hx v F1 H1 e1 i1=>?_;obtain ⟨b,rfl,q⟩:=zd61 i1 hx;refine ⟨b,rfl,?_⟩;cases b with
|true =>
  rw [if_pos rfl] at q ⊢;exact hb e1.fh (rv.ext e1) q λ y hy u F2 H2 e2 i2=>k y hy u F2 H2 (e1.trans e2) i2
|false =>
  rw [if_neg vU] at q ⊢;exact k _ q _ F1 H1 e1 (.bl _)
def zgy (de:DE):DT:=λ U Q=>de U λ d=>fB d Q
theorem zs0 (h:RfE K te de):RfT K (zj01 te) (zgy de):=by
 intro F H Y U Qd Q s rv hd k;refine h s rv hd λ x hx v F1 H1 e1 i1=>?_;obtain ⟨b,rfl,q⟩:=zd61 i1 hx;exact ⟨b,rfl,k b q F1 H1 e1⟩
noncomputable def fTru:D->(Bool->Prop)->Prop
|.none,Q=>Q false
|.bool b,Q=>Q b
|.int i,Q=>Q (i != 0)
|.str z,Q=>z.length<=sizeLine/\Q ((z.length:Int) != 0)
|.list ds,Q=>Q (!ds.isEmpty)
|.tuple ds,Q=>Q (!ds.isEmpty)
|.dict _,_=>False
def dTru (de:DE):DT:=λ U Q=>de U λ d=>fTru d Q
theorem zki {F:Hp} {ds:List D} (h:IsAll K F xs ds):xs.isEmpty=ds.isEmpty:=by cases h <;> rfl
theorem ze9 (h:RfV K te de):RfT K (zwb1 K te) (dTru de):=by
 intro F H Y U Qd Q s rv hd k;refine h s rv hd λ x hx v F1 H1 e1 i1=>?_;unfold fTru at hx;split at hx
 ·cases i1.is e1.fh;exact ⟨false,rfl,k _ hx F1 H1 e1⟩
 ·cases i1.bl;exact ⟨_,rfl,k _ hx F1 H1 e1⟩
 ·cases i1.int;exact ⟨_,rfl,k _ hx F1 H1 e1⟩
 ·cases i1.str;exact ⟨_,⟨hx.1,rfl⟩,k _ hx.2 F1 H1 e1⟩
 ·obtain ⟨p,xs,rfl,h1,i2⟩:=i1.list e1.fh;refine ⟨_,.inl ⟨xs,h1,rfl⟩,?_⟩;rw [zki i2];exact k _ hx F1 H1 e1
 ·obtain ⟨p,xs,rfl,h1,_,i2⟩:=i1.tuple e1.fh;refine ⟨_,.inr (.inl ⟨xs,h1,rfl⟩),?_⟩;rw [zki i2];exact k _ hx F1 H1 e1
 ·exact hx.elim
def dAnd (dt du:DT):DT:=λ U Q=>dt U λ b=>if b=true then du U Q else Q false
def dOr (dt du:DT):DT:=λ U Q=>dt U λ b=>if b=true then Q true else du U Q
def dNot (dt:DT):DT:=λ U Q=>dt U λ b=>Q (!b)
theorem zfl (ht:RfT K tt dt) (hu:RfT K tu du):RfT K (tAnd tt tu) (dAnd dt du):=by
 intro F H Y U Qd Q s rv h k;refine ht s rv h λ b hb F1 H1 e1=>?_;cases b with
|true =>
  rw [if_pos rfl] at hb ⊢;exact hu e1.fh (rv.ext e1) hb λ c hc F2 H2 e2=>k c hc F2 H2 (e1.trans e2)
|false =>
  rw [if_neg vU] at hb ⊢;exact k _ hb F1 H1 e1
theorem zyg (ht:RfT K tt dt) (hu:RfT K tu du):RfT K (tOr tt tu) (dOr dt du):=by
 intro F H Y U Qd Q s rv h k;refine ht s rv h λ b hb F1 H1 e1=>?_;cases b with
|false =>
  rw [if_neg vU] at hb ⊢;exact hu e1.fh (rv.ext e1) hb λ c hc F2 H2 e2=>k c hc F2 H2 (e1.trans e2)
|true =>
  rw [if_pos rfl] at hb ⊢;exact k _ hb F1 H1 e1
theorem zde (ht:RfT K tt dt):RfT K (tNot tt) (dNot dt):=λ s rv h k=>ht s rv h λ b hb F1 H1 e1=>k _ hb F1 H1 e1
def dIfE (dt:DT) (da db:DE):DE:=λ U Q=>dt U λ b=>if b=true then da U Q else db U Q
theorem ziu (ht:RfT K tt dt) (ha:RfE K ta da) (hb:RfE K tb db):RfE K (tIf tt ta tb) (dIfE dt da db):=by
 intro F H Y U Qd Q s rv h k;refine ht s rv h λ b hb' F1 H1 e1=>?_;cases b with
|true =>
  rw [if_pos rfl] at hb' ⊢;exact ha e1.fh (rv.ext e1) hb' λ y hy u F2 H2 e2 i2=>k y hy u F2 H2 (e1.trans e2) i2
|false =>
  rw [if_neg vU] at hb' ⊢;exact hb e1.fh (rv.ext e1) hb' λ y hy u F2 H2 e2 i2=>k y hy u F2 H2 (e1.trans e2) i2
def dNil:DF:=λ _ Q=>Q []
def zi51 (da:DE) (dr:DF):DF:=λ U Q=>da U λ x=>dr U λ xs=>Q (x :: xs)
theorem zk0:RfA K tNil dNil:=λ s rv h k=>k _ h _ _ _ (Ext.refl s) .nil
theorem zb0 (ha:RfE K ta da) (hr:RfA K tA dA):RfA K (zrc ta tA) (zi51 da dA):=by
 intro F H Y U Qd Q s rv h k;refine ha s rv h λ x hx v F1 H1 e1 i1=>hr e1.fh (rv.ext e1) hx λ xs hxs vs F2 H2 e2 i2=>?_;exact k _ hxs _ F2 H2 (e1.trans e2) (.cons (i1.mono e2.f) i2)
theorem zm1:RfAV K tNil dNil:=λ s rv h k=>k _ h _ _ _ (Ext.refl s) .nil
theorem zu0 (ha:RfV K ta da) (hr:RfAV K tA dA):RfAV K (zrc ta tA) (zi51 da dA):=by
 intro F H Y U Qd Q s rv h k;refine ha s rv h λ x hx v F1 H1 e1 i1=>hr e1.fh (rv.ext e1) hx λ xs hxs vs F2 H2 e2 i2=>?_;exact k _ hxs _ F2 H2 (e1.trans e2) (.cons (i1.ext e2) i2)
def dTup (dA:DF):DE:=λ U Q=>dA U λ xs=>xs.length<=sizeLine/\Q (.tuple xs)
theorem zo1 (h:RfA K tA dA):RfE K (zr51 tA) (dTup dA):=by
 intro F H Y U Qd Q s rv hd k;refine h s rv hd λ xs hx vs F1 H1 e1 i1=>⟨by rw [i1.dlen];exact hx.1,λ p hp=>?_⟩
 obtain ⟨ex,ii⟩:=zmc (K:=K) e1.fh hp i1;exact k _ hx.2 _ _ _ (e1.trans ex) ii
def dLst (dA:DF):DF:=λ U Q=>dA U λ xs=>xs.length<=sizeLine/\Q xs
theorem zn3 (h:RfA K tA dA):RfF K (zl51 tA) (dLst dA):=by
 intro F H Y U Qd Q s rv hd k;refine h s rv hd λ xs hx vs F1 H1 e1 i1=>⟨by rw [i1.dlen];exact hx.1,λ p hp=>?_⟩
 obtain ⟨ex,fn⟩:=ze7 (xs:=vs) e1.fh hp;refine k _ hx.2 p vs F1 _ (e1.trans ex) ?_ zn0 fn i1;cases q:H p with
|none=>rfl
|some o=>rw [e1.h p o q] at hp;cases hp
abbrev DSp:=List D->(D->Prop)->Prop
def spD (K:Fg) (p:DSp):Sp:=λ vs H Q _=>∃ F ds Qd,Same F H/\IsAll K F vs ds/\p ds Qd/\∀ d,Qd d->∀ v F' H',Ext F H F' H'->Is K F' v d->Q v H'
def zua1 (p:DSp) (dA:DF):DE:=λ U Q=>dA U λ ds=>p ds Q
theorem zw0 {p:DSp} (h:RfA K tA dA):RfE K (zly (spD K p) [] E tA) (zua1 p dA):=by
 intro F H Y U Qd Q s rv hd k;refine h s rv hd λ ds hp vs F1 H1 e1 i1=>?_;rw [wJ];exact ⟨F1,ds,Qd,e1.fh,i1,hp,λ d q v F' H' e2 i2=>k d q v F' H' (e1.trans e2) i2⟩
noncomputable def CB (K:Fg) (r:List V->Hp->VK->Prop) (f:List D->(D->Prop)->Prop):Prop:=∀ {F H:Hp} {vs:List V} {ds:List D} {Qd:D->Prop} {Q:VK},Same F H->VwAll K F H vs ds->f ds Qd->(∀ z,Qd z->∀ v F' H',Ext F H F' H'->Is K F' v z->Q v H')->r vs H Q
noncomputable def CF (K:Fg) (r:List V->Hp->VK->Prop) (f:List D->(List D->Prop)->Prop):Prop:=∀ {F H:Hp} {vs:List V} {ds:List D} {Qd:List D->Prop} {Q:VK},Same F H->VwAll K F H vs ds->f ds Qd->(∀ z,Qd z->∀ a xs F' H',Ext F H F' H'->H a=none->H' a=some (.lst xs)->F' a=none->IsAll K F' xs z->Q (.ref a) H')->r vs H Q
def dCB (f:List D->(D->Prop)->Prop) (dA:DF):DE:=λ U Q=>dA U λ ds=>f ds Q
def dCF (f:List D->(List D->Prop)->Prop) (dA:DF):DF:=λ U Q=>dA U λ ds=>f ds Q
theorem zn8 {r:List V->Hp->VK->Prop} {f:List D->(D->Prop)->Prop} (hr:CB K r f) (h:RfAV K tA dA):RfE K (tCB r tA) (dCB f dA):=by
 intro F H Y U Qd Q s rv hd k;refine h s rv hd λ ds hp vs F1 H1 e1 i1=>hr e1.fh i1 hp λ z q v F' H' e2 i2=>k z q v F' H' (e1.trans e2) i2
theorem zqy {r:List V->Hp->VK->Prop} {f:List D->(List D->Prop)->Prop} (hr:CF K r f) (h:RfAV K tA dA):RfF K (tCB r tA) (dCF f dA):=by
 intro F H Y U Qd Q s rv hd k;refine h s rv hd λ ds hp vs F1 H1 e1 i1=>hr e1.fh i1 hp λ z q a xs F' H' e2 hn h1 h2 h3=>k z q a xs F' H' (e1.trans e2) ?_ h1 h2 h3;cases z:H a with
|none=>rfl
|some o=>rw [e1.h a o z] at hn;cases hn
theorem vw1 {F H:Hp} {d:D} (h:VwAll K F H vs [d]):∃ v,vs=[v]/\Vw K F H v d:=by
 cases h with
|cons h r=>cases r;exact ⟨_,rfl,h⟩
theorem vw2 {F H:Hp} {d e:D} (h:VwAll K F H vs [d,e]):∃ v u,vs=[v,u]/\Vw K F H v d/\Vw K F H u e:=by
 cases h with
|cons h r=>obtain ⟨u,rfl,r2⟩:=vw1 r;exact ⟨_,u,rfl,h,r2⟩
noncomputable def fLen:List D->(D->Prop)->Prop
|[.list ds],Q=>Q (.int (ds.length:Nat))
|[.tuple ds],Q=>Q (.int (ds.length:Nat))
|[.str z],Q=>z.length<=sizeLine/\Q (.int (z.length:Nat))
|_,_=>False
theorem zgd:CB K (rLen K) fLen:=by
 intro F H vs ds Qd Q s hv h k;unfold fLen at h;split at h
 ·obtain ⟨v,rfl,hw⟩:=vw1 hv;obtain ⟨p,xs,rfl,h1,i1⟩:=hw.list s;refine ⟨_,_,rfl,.inl ⟨xs,h1,rfl⟩,?_⟩;rw [i1.dlen];exact k _ h _ F H (Ext.refl s) (.int _)
 ·obtain ⟨v,rfl,hw⟩:=vw1 hv;obtain ⟨p,xs,rfl,h1,_,i1⟩:=hw.tuple s;refine ⟨_,_,rfl,.inr ⟨xs,h1,rfl⟩,?_⟩;rw [i1.dlen];exact k _ h _ F H (Ext.refl s) (.int _)
 ·obtain ⟨v,rfl,hw⟩:=vw1 hv;cases hw.str;exact ⟨_,_,rfl,⟨h.1,rfl⟩,k _ h.2 _ F H (Ext.refl s) (.int _)⟩
 ·exact h.elim
def zwy:List D->(D->Prop)->Prop
|[.int i,.int j],Q=>Q (.int (if j > i then j else i))
|_,_=>False
theorem zz31:CB K zlb1 zwy:=by
 intro F H vs ds Qd Q s hv h k;unfold zwy at h;split at h
 ·obtain ⟨v,u,rfl,h1,h2⟩:=vw2 hv;cases h1.int;cases h2.int;exact ⟨_,_,rfl,k _ h _ F H (Ext.refl s) (.int _)⟩
 ·exact h.elim
def zpr:List D->Option (List Int)
|[]=>some []
|.int i :: r=>(zpr r).map (i :: ·)
|_ :: _=>none
theorem zcd {F:Hp}:∀ {xs:List V} {ds:List D} {ns:List Int},IsAll K F xs ds->zpr ds=some ns->xs=ns.map V.int
|_,_,_,.nil,e=>by cases e;rfl
|_,_,_,.cons h r,e=>by
  cases h with
 |int i =>
   unfold zpr at e;obtain ⟨ms,e1,rfl⟩:=wO.mp e;rw [zcd r e1];rfl
 |_=>cases e
theorem ints_map (ns:List Int):zpr (ns.map u4)=some ns:=by
 induction ns with
|nil=>rfl
|cons n r ih=>simp [zpr,ih]
def fSum:List D->(D->Prop)->Prop
|[.list ds],Q=>∃ ns,zpr ds=some ns/\Q (.int ns.sum)
|_,_=>False
theorem zqa1:CB K (rSum K) fSum:=by
 intro F H vs ds Qd Q s hv h k;unfold fSum at h;split at h
 ·obtain ⟨v,rfl,hw⟩:=vw1 hv;obtain ⟨p,xs,rfl,h1,i1⟩:=hw.list s;obtain ⟨ns,e,q⟩:=h;have:=zcd i1 e;subst this;exact ⟨p,ns,rfl,h1,k _ q _ F H (Ext.refl s) (.int _)⟩
 ·exact h.elim
def zm21:List D->(List D->Prop)->Prop
|[.list ds],Q=>Q ds
|[.tuple ds],Q=>Q ds
|_,_=>False
theorem zdk:CF K (zsa1 K) zm21:=by
 intro F H vs ds Qd Q s hv h k;unfold zm21 at h;split at h
 ·obtain ⟨v,rfl,hw⟩:=vw1 hv;obtain ⟨p,xs,rfl,h1,i1⟩:=hw.list s;refine ⟨p,xs,rfl,.inl h1,λ l hl=>?_⟩;obtain ⟨ex,fn⟩:=ze7 (xs:=xs) s hl;exact k _ h l xs F _ ex hl zn0 fn i1
 ·obtain ⟨v,rfl,hw⟩:=vw1 hv;obtain ⟨p,xs,rfl,h1,_,i1⟩:=hw.tuple s;refine ⟨p,xs,rfl,.inr h1,λ l hl=>?_⟩;obtain ⟨ex,fn⟩:=ze7 (xs:=xs) s hl;exact k _ h l xs F _ ex hl zn0 fn i1
 ·exact h.elim
noncomputable def tyD:D->String
|.none => "NoneType"|.bool _ => "bool"|.int _ => "int"|.str _ => "str"|.list _ => "list"|.tuple _ => "tuple"|.dict _ => "dict"
def isT (T:String) (d:D):Bool:=tyD d == T || (T == "int" && tyD d == "bool")
structure Kit (K:Fg):Prop where
 ok:∀ t∈["NoneType", "bool", "int", "str", "list", "tuple"],∀ T∈["int", "bool", "list", "tuple", "str"],PySem.W.kitOne K (.type t) (.type T)=some (t == T || (T == "int" && t == "bool"))
def dIs (T:String) (da:DE):DE:=λ U Q=>da U λ d=>(∀ kvs,d≠.dict kvs)/\Q (.bool (isT T d))
theorem zty {T:String} (kt:Kit K) (hT:T∈["int", "bool", "list", "tuple", "str"]) (ha:RfV K ta da):RfE K (tCB (rIsW K) (zrc ta (zrc (tC (.ty T)) tNil))) (dIs T da):=by
 intro F H Y U Qd Q s rv hd k;refine ha s rv hd λ d hd v F1 H1 e1 i1=>?_;have q:=k _ hd.2 (.bl (isT T d)) F1 H1 e1 (.bl _);have i2:=i1.is e1.fh;show rIsW K [v,.ty T] H1 Q;cases i2 with
|non=>exact .inl ⟨_,_,_,_,_,rfl,rfl,.non,kt.ok _ (by simp) T hT,q⟩
|bl b=>exact .inl ⟨_,_,_,_,_,rfl,rfl,.bl b,kt.ok _ (by simp) T hT,q⟩
|int b=>exact .inl ⟨_,_,_,_,_,rfl,rfl,.int b,kt.ok _ (by simp) T hT,q⟩
|str b=>exact .inl ⟨_,_,_,_,_,rfl,rfl,.str b,kt.ok _ (by simp) T hT,q⟩
|lst h1 h2=>exact .inr ⟨_,_,_,_,rfl,rfl,.inl ⟨⟨_,h1⟩,kt.ok _ (by simp) T hT⟩,q⟩
|tup h1 h2=>exact .inr ⟨_,_,_,_,rfl,rfl,.inr ⟨⟨_,SqT.of h1⟩,kt.ok _ (by simp) T hT⟩,q⟩
|tuc h1 h2 _=>exact .inr ⟨_,_,_,_,rfl,rfl,.inr ⟨⟨_,h1⟩,kt.ok _ (by simp) T hT⟩,q⟩
abbrev DO:=DSt->(Option Int->Prop)->Prop
def zgs:DO:=λ _ Q=>Q none
def zic1 (de:DE):DO:=λ U Q=>de U λ d=>match d with
|.int i=>Q (some i)
|_=>False
theorem zxk:RfO K zrr zgs:=λ s rv h k=>k _ h _ _ (Ext.refl s)
theorem zzi (h:RfE K te de):RfO K (zv21 te) (zic1 de):=by
 intro F H Y U Qd Q s rv hd k;refine h s rv hd λ d hx v F1 H1 e1 i1=>?_;split at hx
 ·cases i1.int_inv;exact ⟨_,rfl,k _ hx F1 H1 e1⟩
 ·exact hx.elim
noncomputable def cutD (xs:List D) (lo hi:Option Int):List D:=(xs.drop (HT.sIx xs.length 0 lo)).take (HT.sIx xs.length xs.length hi - HT.sIx xs.length 0 lo)
theorem zur {F:Hp} {ds:List D} (h:IsAll K F xs ds) (lo hi:Option Int):IsAll K F (cutV xs lo hi) (cutD ds lo hi):=by
 unfold cutV cutD;rw [h.dlen];exact (h.ddrop _).dtake _
noncomputable def fSl (d:D) (lo hi:Option Int) (Q:D->Prop):Prop:=match d with
|.list ds=>Q (.list (cutD ds lo hi))
|.str z=>z.length<=sizeLine/\Q (.str (Txt.slice z lo hi))
|.tuple ds=>¬(HT.sIx ds.length 0 lo=0/\HT.sIx ds.length ds.length hi=ds.length)/\Q (.tuple (cutD ds lo hi))
|_=>False
def fSlF (d:D) (lo hi:Option Int) (Q:List D->Prop):Prop:=match d with
|.list ds=>Q (cutD ds lo hi)
|_=>False
variable {tl th tk:TO} {dl dh dk:DO}
def dSl (de:DE) (dl dh:DO):DE:=λ U Q=>de U λ d=>dl U λ lo=>dh U λ hi=>fSl d lo hi Q
theorem zo2 {F H F':Hp} {p:Addr} (e:Ext F H F' H') (h:H' p=none):H p=none:=by
 cases q:H p with
|none=>rfl
|some o=>rw [e.h p o q] at h;cases h
theorem zac1 (he:RfV K te de) (hl:RfO K tl dl) (hh:RfO K th dh):RfE K (tSl (rSlW K) te tl th) (dSl de dl dh):=by
 intro F H Y U Qd Q s rv h k;refine he s rv h λ d hd v F1 H1 e1 i1=>hl e1.fh (rv.ext e1) hd λ lo hlo F2 H2 e2=>hh e2.fh (rv.ext (e1.trans e2)) hlo λ hi hhi F3 H3 e3=>?_;have e13:=(e1.trans e2).trans e3;have i3:=i1.ext (e2.trans e3);unfold fSl at hhi;split at hhi
 ·obtain ⟨p,xs,rfl,h1,i2⟩:=i3.list e3.fh;refine .inl (.inl ⟨p,xs,rfl,h1,λ l hl=>?_⟩);obtain ⟨ex,fn⟩:=ze7 (xs:=cutV xs lo hi) e3.fh hl;obtain ⟨ex2,ii⟩:=zso (K:=K) ex hl zn0 fn (zur i2 lo hi);exact k _ hhi _ _ _ (e13.trans ex2) ii
 ·cases i3.str;exact .inr ⟨_,rfl,hhi.1,k _ hhi.2 _ F3 H3 e13 (.str _)⟩
 ·obtain ⟨p,xs,rfl,h1,_,i2⟩:=i3.tuple e3.fh;refine .inl (.inr ⟨p,xs,rfl,h1,by rw [i2.dlen];exact hhi.1,λ l hl=>?_⟩);obtain ⟨ex,ii⟩:=zmc (K:=K) e3.fh hl (zur i2 lo hi);exact k _ hhi.2 _ _ _ (e13.trans ex) ii
 ·exact hhi.elim
theorem zef {F:Hp} {xs:List V} {ds:List D} (h:IsAll K F xs ds):∀ js:List Nat,IsAll K F (js.filterMap (xs[·]?)) (js.filterMap (ds[·]?))
|[]=>.nil
|j :: js=>by
  have ih:=zef h js;cases hn:ds[j]? with
 |some n =>
   obtain ⟨u,hu,r⟩:=h.dget hn;simp only [xF,hn,hu];exact .cons r ih
 |none =>
   have hv:xs[j]?=none:=by
    rw [zV] at hn ⊢;rw [h.dlen];exact hn
   simp only [xF,hn,hv];exact ih
theorem zsw {F:Hp} {ds:List D} (h:IsAll K F xs ds) (lo hi st:Option Int):IsAll K F (zqm xs lo hi st) (zqm ds lo hi st):=by
 unfold zqm;rw [h.dlen];exact zef h _
noncomputable def dSl3 (de:DE) (dl dh dk:DO):DF:=λ U Q=>de U λ d=>dl U λ lo=>dh U λ hi=>dk U λ st=>match d with
|.list ds=>st≠some 0/\Q (zqm ds lo hi st)
|_=>False
theorem zs61 (he:RfV K te de) (hl:RfO K tl dl) (hh:RfO K th dh) (hk:RfO K tk dk):RfF K (tSl3 K te tl th tk) (dSl3 de dl dh dk):=by
 intro F H Y U Qd Q s rv h k;refine he s rv h λ d hd v F1 H1 e1 i1=>hl e1.fh (rv.ext e1) hd λ lo hlo F2 H2 e2=>hh e2.fh (rv.ext (e1.trans e2)) hlo λ hi hhi F3 H3 e3=>hk e3.fh (rv.ext ((e1.trans e2).trans e3)) hhi λ st hst F4 H4 e4=>?_;split at hst
 ·have e14:=((e1.trans e2).trans e3).trans e4;obtain ⟨p,xs,rfl,h1,i2⟩:=(i1.ext ((e2.trans e3).trans e4)).list e4.fh;refine ⟨p,xs,rfl,h1,hst.1,λ l hl=>?_⟩;obtain ⟨ex,fn⟩:=ze7 (xs:=zqm xs lo hi st) e4.fh hl;exact k _ hst.2 l _ F4 _ (e14.trans ex) (zo2 e14 hl) zn0 fn (zsw i2 lo hi st)
 ·exact hst.elim
noncomputable def W0 (K:Fg) (J:It) (F H:Hp) (items:List D):Prop:=(∀ i,i < items.length->J.go i H)/\J.stop items.length H/\∀ i x H3 d,items[i]?=some d->J.yld i H x H3->H3=H/\Is K F x d
noncomputable def W1 (K:Fg) (J:It) (F H:Hp) (items:List D):Prop:=(∀ i,i < items.length->J.go i H)/\J.stop items.length H/\∀ i x H3 d,items[i]?=some d->J.yld i H x H3->∃ F3,Ext F H F3 H3/\Is K F3 x d
def WD (K:Fg) (J:It) (F:Hp) (items:List D):Prop:=∀ F2 H2,Same F F2->Same F2 H2->W1 K J F2 H2 items
def WV (K:Fg) (J:It) (F H:Hp) (items:List D):Prop:=∀ F2 H2,Ext F H F2 H2->W1 K J F2 H2 items
theorem W0.w1 {J:It} {F H:Hp} {items:List D} (s:Same F H) (h:W0 K J F H items):W1 K J F H items:=⟨h.1,h.2.1,λ i x H3 d e y=>by
 obtain ⟨rfl,r⟩:=h.2.2 i x H3 d e y;exact ⟨F,Ext.refl s,r⟩⟩
noncomputable def RfI (K:Fg) (ti:TI) (di:DF):Prop:=∀ {F H:Hp} {Y:_2.St} {U:DSt} {Qd:List D->Prop} {R:It->Hp->Prop},Same F H->RV K F H Y U->di U Qd->(∀ ds,Qd ds->∀ J F' H',Ext F H F' H'->WD K J F' ds->R J H')->ti Y H R
noncomputable def RfJ (K:Fg) (ti:TI) (di:DF):Prop:=∀ {F H:Hp} {Y:_2.St} {U:DSt} {Qd:List D->Prop} {R:It->Hp->Prop},Same F H->RV K F H Y U->di U Qd->(∀ ds,Qd ds->∀ J F' H',Ext F H F' H'->WV K J F' H' ds->R J H')->ti Y H R
theorem zss {F H:Hp} {ds:List D} (h:SqL K H a xs) (i:IsAll K F xs ds):W0 K (Itl K a) F H ds:=by
 have el:=i.dlen;refine ⟨λ j hj=>⟨xs,xs[j]'(by lia),h,u7 _⟩,⟨xs,h,by lia⟩,λ j x H3 d e y=>?_⟩;obtain ⟨e3,y⟩:=y;obtain ⟨x',h1,h2⟩:=i.dget e;have:=y xs h;rw [h1] at this;cases this;exact ⟨e3,h2⟩
theorem zh21 {F H:Hp} {ds:List D} (h:SqT K H a xs) (i:IsAll K F xs ds):W0 K (Itt K a) F H ds:=by
 have el:=i.dlen;refine ⟨λ j hj=>⟨xs,xs[j]'(by lia),h,u7 _⟩,⟨xs,h,by lia⟩,λ j x H3 d e y=>?_⟩;obtain ⟨e3,y⟩:=y;obtain ⟨x',h1,h2⟩:=i.dget e;have:=y xs h;rw [h1] at this;cases this;exact ⟨e3,h2⟩
noncomputable def zsv:D->(List D->Prop)->Prop
|.list ds,Q=>Q ds
|.tuple ds,Q=>Q ds
|.str z,Q=>z.cps.all (· < 128)=true/\Q (z.cps.toList.map λ c=>.str ⟨#[c]⟩)
|_,_=>False
def dIt (de:DE):DF:=λ U Q=>de U λ d=>zsv d Q
theorem zo01 {F H:Hp} (z:Str) (s:Same F H):W1 K (Its z) F H (z.cps.toList.map λ c=>.str ⟨#[c]⟩):=by
 have el:(z.cps.toList.map λ c=>(PyData.str ⟨#[c]⟩)).length=z.cps.size:=by simp
 refine ⟨λ j hj=>by rw [el] at hj;exact hj,by rw [el];exact u6 _,λ j x H3 d e y=>?_⟩;obtain ⟨e3,c,e1,e2⟩:=y;subst e3;rw [u8,yA,e1] at e;simp at e;subst e;exact ⟨F,Ext.refl s,by rw [e2];exact .str _⟩
theorem zoy (h:RfV K te de):RfJ K (iW K te) (dIt de):=by
 intro F H Y U Qd R s rv hd k;refine h s rv hd λ d hx v F1 H1 e1 i1=>?_;unfold zsv at hx;split at hx
 ·obtain ⟨p,xs,rfl,h1,i2⟩:=i1.list e1.fh;exact .inl (.inl ⟨p,rfl,⟨xs,h1⟩,k _ hx _ F1 H1 e1 λ F2 H2 e2=>(zss (e2.h.seq h1) (i2.mono e2.f)).w1 e2.fh⟩)
 ·obtain ⟨p,xs,rfl,h1,_,i2⟩:=i1.tuple e1.fh;exact .inl (.inr ⟨p,rfl,⟨xs,h1⟩,k _ hx _ F1 H1 e1 λ F2 H2 e2=>(zh21 (zto e2.h h1) (i2.mono e2.f)).w1 e2.fh⟩)
 ·cases i1.str;exact .inr ⟨_,rfl,hx.1,k _ hx.2 _ F1 H1 e1 λ F2 H2 e2=>zo01 _ e2.fh⟩
 ·exact hx.elim
theorem zeq (h:RfE K te de):RfI K (iW K te) (dIt de):=by
 intro F H Y U Qd R s rv hd k;refine h s rv hd λ d hx v F1 H1 e1 i1=>?_;unfold zsv at hx;split at hx
 ·obtain ⟨p,xs,rfl,h1,i2⟩:=i1.list_inv;exact .inl (.inl ⟨p,rfl,⟨xs,e1.fh.seq h1⟩,k _ hx _ F1 H1 e1 λ F2 H2 s2 t2=>(zss (t2.seq (s2.seq h1)) (i2.mono s2)).w1 t2⟩)
 ·obtain ⟨p,xs,rfl,h1,i2⟩:=i1.tuple_inv;exact .inl (.inr ⟨p,rfl,⟨xs,zto e1.fh h1⟩,k _ hx _ F1 H1 e1 λ F2 H2 s2 t2=>(zh21 (zto t2 (zto s2 h1)) (i2.mono s2)).w1 t2⟩)
 ·cases i1.str_inv;exact .inr ⟨_,rfl,hx.1,k _ hx.2 _ F1 H1 e1 λ F2 H2 s2 t2=>zo01 _ t2⟩
 ·exact hx.elim
theorem RfI.j {ti:TI} (h:RfI K ti di):RfJ K ti di:=λ s rv hd k=>h s rv hd λ ds q J F' H' e w=>k ds q J F' H' e λ F2 H2 e2=>w F2 H2 e2.f e2.fh
def rngD (lo:Int) (n:Nat):List D:=(u3 n).map λ i=>.int (lo+(i:Nat))
theorem zwm (lo:Int) (n:Nat):(rngD lo n).length=n:=by simp [rngD]
theorem zrw {lo:Int} {d:D} (e:(rngD lo n)[i]?=some d):i < n/\d=.int (lo+(i:Nat)):=by
 unfold rngD at e;rw [u8] at e;obtain ⟨j,hj,rfl⟩:=wO.mp e;obtain ⟨h1,h2⟩:=vZ.mp hj;simp at h1 h2;subst h2;exact ⟨h1,rfl⟩
theorem zw41 {F H:Hp} (lo:Int) (n:Nat) (s:Same F H):W1 K (Itr lo n) F H (rngD lo n):=by
 refine ⟨λ j hj=>by rw [zwm] at hj;exact hj,by rw [zwm];exact u6 _,λ j x H3 d e y=>?_⟩;obtain ⟨e3,y⟩:=y;subst e3;obtain ⟨_,rfl⟩:=zrw e;exact ⟨F,Ext.refl s,by rw [y];exact .int _⟩
def zfb1 (dA:DF):DF:=λ U Q=>dA U λ ds=>match ds with
|[.int j]=>-(2 ^ 62)<=j/\j < 2 ^ 62/\Q (rngD 0 j.toNat)
|_=>False
theorem zt6 (h:RfA K tA dA):RfI K (zja1 tA) (zfb1 dA):=by
 intro F H Y U Qd R s rv hd k;refine h s rv hd λ ds hx vs F1 H1 e1 i1=>?_;split at hx
 ·cases i1 with
 |cons h1 r1 =>
   cases r1;cases h1.int_inv;exact ⟨_,rfl,hx.1,hx.2.1,k _ hx.2.2 _ F1 H1 e1 λ F2 H2 s2 t2=>zw41 _ _ t2⟩
 ·exact hx.elim
noncomputable def zbb1 (dA:DF):DF:=λ U Q=>dA U λ ds=>match ds with
|[.int i,.int j]=>(-(2 ^ 62)<=i/\i < 2 ^ 62/\-(2 ^ 62)<=j/\j < 2 ^ 62)/\Q (rngD i (j - i).toNat)
|_=>False
theorem zdr (h:RfA K tA dA):RfI K (zvb1 tA) (zbb1 dA):=by
 intro F H Y U Qd R s rv hd k;refine h s rv hd λ ds hx vs F1 H1 e1 i1=>?_;split at hx
 ·cases i1 with
 |cons h1 r1 =>
   cases r1 with
  |cons h2 r2 =>
    cases r2;cases h1.int_inv;cases h2.int_inv;exact ⟨_,_,rfl,hx.1,k _ hx.2 _ F1 H1 e1 λ F2 H2 s2 t2=>zw41 _ _ t2⟩
 ·exact hx.elim
theorem all1 {F:Hp} {d:D} (h:IsAll K F vs [d]):∃ v,vs=[v]/\Is K F v d:=by
 cases h with
|cons h r=>cases r;exact ⟨_,rfl,h⟩
def zqq (ds:List D):List D:=ds.mapIdx λ i d=>.tuple [.int (i:Nat),d]
theorem zld (ds:List D):(zqq ds).length=ds.length:=by simp [zqq]
theorem zpj {ds:List D} {d:D} (e:(zqq ds)[i]?=some d):∃ x,ds[i]?=some x/\d=.tuple [.int (i:Nat),x]:=by
 unfold zqq at e;rw [xP] at e;obtain ⟨x,h1,h2⟩:=wO.mp e;exact ⟨x,h1,h2.symm⟩
theorem zys {F H:Hp} {ds:List D} (s:Same F H) (h:SqL K H a xs) (i:IsAll K F xs ds):W1 K (Ite K a) F H (zqq ds):=by
 have el:=i.dlen;have el2:=zld ds;refine ⟨λ j hj=>⟨xs,xs[j]'(by lia),h,u7 _⟩,⟨xs,h,by lia⟩,λ j x H3 d e y=>?_⟩;obtain ⟨v,p,y1,hp,e1,e2⟩:=y;subst e2;obtain ⟨x',hx',rfl⟩:=zpj e;obtain ⟨u,hu,iu⟩:=i.dget hx';have:=y1 xs h;rw [hu] at this;cases this;obtain ⟨ex,ii⟩:=zmc (K:=K) (ds:=[.int (j:Nat),x']) s hp (.cons (.int _) (.cons iu .nil));exact ⟨_,ex,by rw [e1];exact ii⟩
def zs71 (dA:DF):DF:=λ U Q=>dA U λ ds=>match ds with
|[.list a]=>Q (zqq a)
|_=>False
theorem ztj (h:RfAV K tA dA):RfJ K (zt81 K tA) (zs71 dA):=by
 intro F H Y U Qd R s rv hd k;refine h s rv hd λ ds hx vs F1 H1 e1 i1=>?_;split at hx
 ·obtain ⟨v,rfl,w1⟩:=vw1 i1;obtain ⟨p,xs,rfl,h1,j1⟩:=w1.list e1.fh;exact ⟨p,xs,rfl,h1,k _ hx _ F1 H1 e1 λ F2 H2 e2=>zys e2.fh (e2.h.seq h1) (j1.mono e2.f)⟩
 ·exact hx.elim
theorem zmr (h:RfA K tA dA):RfI K (zt81 K tA) (zs71 dA):=by
 intro F H Y U Qd R s rv hd k;refine h s rv hd λ ds hx vs F1 H1 e1 i1=>?_;split at hx
 ·obtain ⟨v,rfl,w1⟩:=all1 i1;obtain ⟨p,xs,rfl,h1,j1⟩:=w1.list_inv;exact ⟨p,xs,rfl,e1.fh.seq h1,k _ hx _ F1 H1 e1 λ F2 H2 s2 t2=>zys t2 (t2.seq (s2.seq h1)) (j1.mono s2)⟩
 ·exact hx.elim
end
inductive Upd (K:Fg) (F:Hp) (n:Nat):_2.St->DSt->_2.St->DSt->Prop
|refl {Y:_2.St} {U:DSt}:Upd K F n Y U Y U
|set {Y Y':_2.St} {U U':DSt} {i:Nat} {v:V} {d:D}:i < n->Is K F v d->Upd K F n (Y.set i (some v)) (U.set i (.sh d)) Y' U'->Upd K F n Y U Y' U'
theorem zs3 {j:Nat} {v:Option V}:(Y.set i v).getD j none=if i=j/\j < Y.length then v else Y.getD j none:=by
 rw [vS,vS,xE];by_cases h:i=j
 ·subst h;by_cases h2:i < Y.length
  ·simp [h2]
  ·simp [h2]
 ·simp [h]
theorem RV.set {K:Fg} {F H:Hp} {Y:_2.St} {U:DSt} {i:Nat} {v:V} {sl:Sl} (r:RV K F H Y U) (h:RSl K F H (some v) sl):RV K F H (Y.set i (some v)) (U.set i sl):=by
 refine ⟨by rw [wD,wD];exact r.len,λ j s e=>?_⟩;rw [xE] at e;rw [zs3,r.len];by_cases hij:i=j
 ·subst hij;by_cases hl:i < U.length
  ·simp [hl] at e ⊢;subst e;exact h
  ·simp [hl] at e
 ·simp [hij] at e ⊢;exact r.sl j s e
theorem Upd.rv {F H:Hp} (u:Upd K F n Y U Y' U') (r:RV K F H Y U):RV K F H Y' U':=by
 induction u with
|refl=>exact r
|set hi hv _ ih=>exact ih (r.set ⟨_,rfl,hv⟩)
theorem Upd.keep {F:Hp} (u:Upd K F n Y U Y' U'):Y'.length=Y.length/\∀ i,n<=i->Y'.getD i none=Y.getD i none:=by
 induction u with
|refl=>exact ⟨rfl,λ _ _=>rfl⟩
|set hi hv _ ih =>
  refine ⟨by rw [ih.1,wD],λ j hj=>?_⟩;rw [ih.2 j hj,zs3,if_neg (by lia)]
abbrev DG:=D->DSt->(DSt->Prop)->Prop
abbrev DGs:=List D->DSt->(DSt->Prop)->Prop
noncomputable def RfG (K:Fg) (n:Nat) (g:TG) (dg:DG):Prop:=∀ {F H:Hp} {Y:_2.St} {U:DSt} {v:V} {d:D} {Gd:DSt->Prop} {G:_2.St->Hp->Prop},Same F H->Is K F v d->dg d U Gd->(∀ Y' U',Gd U'->Upd K F n Y U Y' U'->G Y' H)->g v Y H G
noncomputable def RfGs (K:Fg) (n:Nat) (g:TGs) (dg:DGs):Prop:=∀ {F H:Hp} {Y:_2.St} {U:DSt} {vs:List V} {ds:List D} {Gd:DSt->Prop} {G:_2.St->Hp->Prop},Same F H->IsAll K F vs ds->dg ds U Gd->(∀ Y' U',Gd U'->Upd K F n Y U Y' U'->G Y' H)->g vs Y H G
def gN (i:Nat):DG:=λ d U G=>G (U.set i (.sh d))
def zga1:DGs:=λ ds U G=>match ds with
|[]=>G U
|_=>False
def zrv (g:DG) (gs:DGs):DGs:=λ ds U G=>match ds with
|d :: r=>g d U λ U'=>gs r U' G
|[]=>False
def gT (n:Nat) (gs:DGs):DG:=λ d U G=>match d with
|.tuple ds=>ds.length=n/\gs ds U G
|_=>False
section
variable {K:Fg} {n m:Nat}
theorem zg2 (hi:i < n):RfG K n (zqp i) (gN i):=λ s h hd k=>k _ _ hd (.set hi h .refl)
theorem zz5:RfGs K n gNil zga1:=by
 intro F H Y U vs ds Gd G s h hd k;unfold zga1 at hd;split at hd
 ·cases h;exact ⟨rfl,k _ _ hd .refl⟩
 ·exact hd.elim
theorem Upd.trans {F:Hp} {Y1 Y2:_2.St} {U1 U2:DSt} (a:Upd K F n Y U Y1 U1) (b:Upd K F n Y1 U1 Y2 U2):Upd K F n Y U Y2 U2:=by
 induction a with
|refl=>exact b
|set hi hv _ ih=>exact .set hi hv (ih b)
theorem zy0 {g:TG} {dg:DG} {dgs:DGs} (h1:RfG K n g dg) (h2:RfGs K n gs dgs):RfGs K n (zoc1 g gs) (zrv dg dgs):=by
 intro F H Y U vs ds Gd G s h hd k;unfold zrv at hd;split at hd
 ·cases h with
 |cons hx hr =>
   refine ⟨_,_,rfl,h1 s hx hd λ Y1 U1 hd1 u1=>h2 s hr hd1 λ Y2 U2 hd2 u2=>k _ _ hd2 (u1.trans u2)⟩
 ·exact hd.elim
theorem zu9 {dgs:DGs} (h:RfGs K n gs dgs):RfG K n (gTup K m gs) (gT m dgs):=by
 intro F H Y U v d Gd G s hv hd k;unfold gT at hd;split at hd
 ·obtain ⟨a,xs,rfl,h1,h2⟩:=hv.tuple_inv;exact ⟨a,xs,rfl,zto s h1,by rw [h2.dlen];exact hd.1,h s h2 hd.2 k⟩
 ·exact hd.elim
end
def cST (n:Nat) (ix:List Nat) (U:DSt):DSt:=vP n .un++ix.map λ i=>U.getD i .un
theorem zm31 {F H:Hp} (n:Nat) (ix:List Nat) (r:RV K F H Y U):RV K F H (compY n ix Y) (cST n ix U):=by
 refine ⟨by simp [compY,cST],λ i s e=>?_⟩;unfold cST at e;unfold compY;by_cases h:i < n
 ·rw [wN (by simpa using h)] at e;simp [xI,h] at e;subst e;trivial
 ·rw [wK (by simpa using h)] at e;rw [vS,wK (by simpa using h)];simp only [yH,u8] at e ⊢;obtain ⟨j,hj,rfl⟩:=wO.mp e;rw [hj];show RSl K F H (Y.getD j none) _;cases q:U[j]? with
 |none=>rw [show U.getD j .un=.un by rw [vS,q];rfl];trivial
 |some t=>rw [show U.getD j .un=t by rw [vS,q];rfl];exact r.sl j t q
theorem RV.caps {F H:Hp} (r:RV K F H Y (cST n ix U)) (hl:Y'.length=Y.length) (hk:∀ i,n<=i->Y'.getD i none=Y.getD i none):RV K F H Y' (cST n ix U):=by
 refine ⟨by rw [hl];exact r.len,λ i s e=>?_⟩;by_cases h:i < n
 ·unfold cST at e;rw [wN (by simpa using h)] at e;simp [xI,h] at e;subst e;trivial
 ·rw [hk i (by lia)];exact r.sl i s e
noncomputable def zec1 (di:DF) (n:Nat) (ix:List Nat) (dg:DG) (dt:DT) (de:DE):DF:=λ U Q=>di U λ items=>items.length<=sizeLine/\∃ R:Nat->Option D->Prop,
 (∀ i d,items[i]?=some d->dg d (cST n ix U) λ U'=>dt U' λ b=>if b=true then de U' λ r=>R i (some r) else R i none) /\
 ∀ os:List (Option D),os.length=items.length->(∀ (j:Nat) o,os[j]?=some o->R j o)->Q (os.filterMap id)
def zo51:DT:=λ _ Q=>Q true
section
variable {K:Fg} {wi:TI} {di:DF} {n:Nat} {ix:List Nat} {g:TG} {dg:DG} {tt:TT} {dt:DT} {te:TE} {de:DE}
theorem zp7:RfT K zl71 zo51:=λ s rv h k=>k _ h _ _ (Ext.refl s)
theorem zx5 (hi:RfJ K wi di) (hg:RfG K n g dg) (ht:RfT K tt dt) (he:RfE K te de):RfF K (zx41 wi n ix g tt te) (zec1 di n ix dg dt de):=by
 intro F H Y U Qd Q s rv hd k;refine hi s rv hd λ items hx J F1 H1 e1 wj D hD=>?_;obtain ⟨hz,R,hR,hQ⟩:=hx;have rv1:=zm31 n ix (rv.ext e1);have F1D:F1 D=none:=by
  cases q:F1 D with
 |none=>rfl
 |some o=>rw [e1.fh D o q] at hD;cases hD
 refine ⟨λ i m acc Y' H'=>m=items.length - i/\i<=items.length/\Y'.length=(compY n ix Y).length/\(∀ j,n<=j->Y'.getD j none=(compY n ix Y).getD j none)/\∃ (F':Hp) (os:List (Option PyData)),Ext F1 H1 F' H'/\F' D=none/\H' D=some (.lst acc)/\os.length=i/\(∀ (j:Nat) o,os[j]?=some o->R j o)/\IsAll K F' acc (os.filterMap id),⟨items.length,rfl,wE _,rfl,λ _ _=>rfl,F1,[],?_,F1D,zn0,rfl,λ j o e=>by simp at e,.nil⟩,?_⟩
 ·exact (ze7 (xs:=[]) e1.fh hD).1
 rintro i m acc Y' H' ⟨rfl,hi',hl,hk,F',os,ex,fD,hDD,hos,hRs,hall⟩;obtain ⟨go,stop,yld⟩:=wj F' H' ex;by_cases hlt:i < items.length
 ·refine .inr ⟨go i hlt,λ acc' Y2 H2=>i+1<=items.length/\Y2.length=(compY n ix Y).length/\(∀ j,n<=j->Y2.getD j none=(compY n ix Y).getD j none)/\∃ (F':Hp) (os:List (Option PyData)),Ext F1 H1 F' H2/\F' D=none/\H2 D=some (.lst acc')/\os.length=i+1/\(∀ (j:Nat) o,os[j]?=some o->R j o)/\IsAll K F' acc' (os.filterMap id),λ acc' Y2 H2 p=>⟨items.length - (i+1),by lia,rfl,p⟩,λ x H2 y=>?_⟩;have hit:items[i]?=some items[i]:=u7 hlt;obtain ⟨F2,ex2,ix2⟩:=yld i x H2 _ hit y;have rv2:RV K F2 H2 Y' (cST n ix U):=RV.caps (rv1.ext (ex.trans ex2)) hl hk;have hRn:∀ o,R i o->∀ (j:Nat) o',(os++[o])[j]?=some o'->R j o':=λ o ho j o' e=>by
   rcases k7 j os.length with h|h|h
   ·rw [wN h] at e;exact hRs j o' e
   ·subst h;rw [wK (u6 _)] at e;simp at e;subst e;rw [hos];exact ho
   ·rw [wK (xR h)] at e;cases q:j - os.length with
   |zero=>lia
   |succ z=>rw [q] at e;simp at e
  refine hg ex2.fh ix2 (hR i _ hit) λ Y2 U2 hd2 u2=>?_;have rv3:=u2.rv rv2;have kp:=u2.keep;have hl2:Y2.length=(compY n ix Y).length:=by rw [kp.1,hl]
  have hk2:∀ j,n<=j->Y2.getD j none=(compY n ix Y).getD j none:=λ j hj=>by rw [kp.2 j hj,hk j hj]
  refine ht ex2.fh rv3 hd2 λ b hb F4 H4 e4=>?_;have e24:=ex2.trans e4;have hD4:H4 D=some (.lst acc):=e24.h _ _ hDD;have fD4:F4 D=none:=e24.nwo hDD (λ _=>nofun) fD;cases b with
 |true =>
   rw [if_pos rfl] at hb ⊢;refine he e4.fh (rv3.ext e4) hb λ r hr v F5 H5 e5 i5=>?_;have e25:=e24.trans e5;have hD5:H5 D=some (.lst acc):=e25.h _ _ hDD;have fD5:F5 D=none:=e25.nwo hDD (λ _=>nofun) fD;have hlen:acc.length<=i:=by
    rw [hall.dlen,<- hos];exact k8 _ _
   have e15:=ex.trans e25;refine ⟨hD5,by lia,hlt,hl2,hk2,F5,os++[some r],⟨λ b o hb=>?_,e15.f,λ b o hb=>?_,e15.nw⟩,fD5,zn0,by simp [hos],hRn _ hr,?_⟩
   ·have:b≠D:=λ z=>by subst z;rw [hD] at hb;cases hb
    rw [zr0 this];exact e15.h b o hb
   ·have:b≠D:=λ z=>by subst z;rw [fD5] at hb;cases hb
    rw [zr0 this];exact e15.fh b o hb
   ·rw [zH];exact (hall.mono e25.f).dapp (.cons i5 .nil)
 |false =>
   rw [if_neg vU] at hb ⊢;refine ⟨hlt,hl2,hk2,F4,os++[none],ex.trans e24,fD4,hD4,by simp [hos],hRn _ hb,?_⟩;rw [zH];have:k9 id [(none:Option PyData)]=[]:=rfl;rw [this,wJ];exact hall.mono e24.f
 ·have e:i=items.length:=by lia
  refine .inl ⟨by rw [e];exact stop,k _ (hQ os (by lia) hRs) D acc F' H' (e1.trans ex) ?_ hDD fD hall⟩;exact zo2 e1 hD
end
theorem at_nat' {α:Type} {xs:List α} {i:Int} {x:α} (h0:0<=i) (h:xs[i.toNat]?=some x):atI xs i=some x:=by
 have e:((i.toNat:Nat):Int)=i:=by lia
 have:=ztc (xs:=xs) (j:=i.toNat) (v:=x) h
 rwa [e] at this
inductive Stp where
|ix (j:Nat)|fl (f:Str)
abbrev Pth:=List Stp
def putA (f:Str) (t:T):List (Str×T)->List (Str×T)
|[]=>[(f,t)]
|(g,x) :: r=>if g=f then (g,t) :: r else (g,x) :: putA f t r
noncomputable def setP:T->Pth->T->T
|_,[],u=>u
|.ls ts,.ix j :: p,u=>match ts[j]? with
 |some t=>.ls (ts.set j (setP t p u))
 |none=>.ls ts
|.tp ts,.ix j :: p,u=>match ts[j]? with
 |some t=>.tp (ts.set j (setP t p u))
 |none=>.tp ts
|.ob C fs,.fl f :: p,u=>match fs.lookup f with
 |some t=>.ob C (putA f (setP t p u) fs)
 |none=>.ob C fs
|t,_,_=>t
inductive At (H:Hp):V->T->Pth->V->T->Prop
|nil {v:V} {t:T}:At H v t [] v t
|ix {a:Addr} {xs:List V} {ts:List T} {j:Nat} {x v:V} {t u:T} {p:Pth}:H a=some (.lst xs)->xs[j]?=some x->ts[j]?=some t->At H x t p v u->At H (.ref a) (.ls ts) (.ix j :: p) v u
|tx {a:Addr} {xs:List V} {ts:List T} {j:Nat} {x v:V} {t u:T} {p:Pth}:H a=some (.tup xs)->xs[j]?=some x->ts[j]?=some t->At H x t p v u->At H (.ref a) (.tp ts) (.ix j :: p) v u
|fl {a C dx:Addr} {fs:List (Str×V)} {ts:List (Str×T)} {f:Str} {x v:V} {t u:T} {p:Pth}:H a=some (.ins C dx fs)->fs.lookup f=some x->ts.lookup f=some t->At H x t p v u->At H (.ref a) (.ob C ts) (.fl f :: p) v u
theorem At.mono {H:Hp} (s:Same H H') {v v':V} {t t':T} {p:Pth} (h:At H v t p v' t'):At H' v t p v' t':=by
 induction h with
|nil=>exact .nil
|ix h1 h2 h3 _ ih=>exact .ix (s _ _ h1) h2 h3 ih
|tx h1 h2 h3 _ ih=>exact .tx (s _ _ h1) h2 h3 ih
|fl h1 h2 h3 _ ih=>exact .fl (s _ _ h1) h2 h3 ih
theorem At.snoc_ix {H:Hp} {v y:V} {t u:T} {ts:List T} {j:Nat} {p:Pth} (h:At H v t p (.ref a) (.ls ts)) (h1:H a=some (.lst xs)) (h2:xs[j]?=some x) (h3:ts[j]?=some u):At H v t (p++[.ix j]) x u:=by
 generalize e:V.ref a=w at h;generalize e2:T.ls ts=z at h
 induction h with
|nil=>subst e e2;exact .ix h1 h2 h3 .nil
|ix g1 g2 g3 _ ih=>exact .ix g1 g2 g3 (ih e e2)
|tx g1 g2 g3 _ ih=>exact .tx g1 g2 g3 (ih e e2)
|fl g1 g2 g3 _ ih=>exact .fl g1 g2 g3 (ih e e2)
theorem At.snoc_tx {H:Hp} {v y:V} {t u:T} {ts:List T} {j:Nat} {p:Pth} (h:At H v t p (.ref a) (.tp ts)) (h1:H a=some (.tup xs)) (h2:xs[j]?=some x) (h3:ts[j]?=some u):At H v t (p++[.ix j]) x u:=by
 generalize e:V.ref a=w at h;generalize e2:T.tp ts=z at h
 induction h with
|nil=>subst e e2;exact .tx h1 h2 h3 .nil
|ix g1 g2 g3 _ ih=>exact .ix g1 g2 g3 (ih e e2)
|tx g1 g2 g3 _ ih=>exact .tx g1 g2 g3 (ih e e2)
|fl g1 g2 g3 _ ih=>exact .fl g1 g2 g3 (ih e e2)
theorem At.snoc_fl {H:Hp} {v:V} {t u:T} {ts:List (Str×T)} {fs:List (Str×V)} {p:Pth} (h:At H v t p (.ref a) (.ob C ts)) (h1:H a=some (.ins C dx fs)) (h2:fs.lookup f=some x) (h3:ts.lookup f=some u):At H v t (p++[.fl f]) x u:=by
 generalize e:V.ref a=w at h;generalize e2:T.ob C ts=z at h
 induction h with
|nil=>subst e e2;exact .fl h1 h2 h3 .nil
|ix g1 g2 g3 _ ih=>exact .ix g1 g2 g3 (ih e e2)
|tx g1 g2 g3 _ ih=>exact .tx g1 g2 g3 (ih e e2)
|fl g1 g2 g3 _ ih=>exact .fl g1 g2 g3 (ih e e2)
section
variable {K:Fg}
theorem RtAll.len {F H:Hp}:∀ {xs:List V} {ts:List T} {fp:List Addr},RtAll K F H xs ts fp->xs.length=ts.length
|_,_,_,.nil=>rfl
|_,_,_,.cons _ r=>congrArg (·+1) (RtAll.len r)
theorem RtAll.split {F H:Hp}:∀ {xs:List V} {ts:List T} {fp:List Addr} {j:Nat} {x:V} {t:T},RtAll K F H xs ts fp->xs[j]?=some x->ts[j]?=some t ->
  ∃ fA fj fB,fp=fA++(fj++fB)/\Rt K F H x t fj/\∀ {F2 H2:Hp} {u:T} {fq:List Addr},Same F F2->(∀ b∈fA++fB,H2 b=H b/\F2 b=none)->Rt K F2 H2 x u fq->RtAll K F2 H2 xs (ts.set j u) (fA++(fq++fB))
|_,_,_,_,_,_,.nil,e,_=>by simp at e
|_,_,_,0,x,t,.cons (fp:=fp) (fq:=fq) h r,e1,e2=>by
  simp at e1 e2;subst e1 e2;exact ⟨[],fp,fq,rfl,h,λ s k g=>(by have z:=RtAll.cons g (r.frame s λ b hb=>k b (by simp [hb]));exact z)⟩
|_,_,_,j+1,x,t,.cons (fp:=fp) (fq:=fq) h r,e1,e2=>by
  obtain ⟨fA,fj,fB,e,hr,g⟩:=RtAll.split (j:=j) r (by simpa using e1) (by simpa using e2);refine ⟨fp++fA,fj,fB,by rw [e,wG],hr,λ s k hu=>?_⟩;rw [wG];exact .cons (h.frame s λ b hb=>k b (by simp [hb])) (g s (λ b hb=>k b (by rcases vJ.mp hb with z|z <;> simp [z])) hu)
theorem RtFs.split {F H:Hp}:∀ {xs:List (Str×V)} {ts:List (Str×T)} {fp:List Addr} {f:Str} {x:V} {t:T},RtFs K F H xs ts fp->xs.lookup f=some x->ts.lookup f=some t ->
  ∃ fA fj fB,fp=fA++(fj++fB)/\Rt K F H x t fj/\(∀ {F2 H2:Hp} {u:T} {fq:List Addr},Same F F2->(∀ b∈fA++fB,H2 b=H b/\F2 b=none)->Rt K F2 H2 x u fq->RtFs K F2 H2 xs (putA f u ts) (fA++(fq++fB))) /\
   (∀ {F2 H2:Hp} {y:V} {u:T} {fq:List Addr},Same F F2->(∀ b∈fA++fB,H2 b=H b/\F2 b=none)->Rt K F2 H2 y u fq->RtFs K F2 H2 (putF f y xs) (putA f u ts) (fA++(fq++fB)))
|_,_,_,_,_,_,.nil,e,_=>by cases e
|_,_,_,f,x,t,.cons (f:=g) (x:=x') (t:=t') (fp:=fp) (fq:=fq) h r,e1,e2=>by
  by_cases hg:f=g
  ·subst hg;simp [xD] at e1 e2;subst e1 e2;refine ⟨[],fp,fq,rfl,h,λ s k u=>?_,λ s k u=>?_⟩
   ·show RtFs K _ _ _ (putA f _ ((f,_) :: _)) _;rw [show putA f _ ((f,t') :: _)=(f,_) :: _ from if_pos rfl];have z:=RtFs.cons (f:=f) u (r.frame s λ b hb=>k b (by simp [hb]));exact z
   ·rw [show putA f _ ((f,t') :: _)=(f,_) :: _ from if_pos rfl,show putF f _ ((f,x') :: _)=(f,_) :: _ from if_pos rfl];have z:=RtFs.cons (f:=f) u (r.frame s λ b hb=>k b (by simp [hb]));exact z
  ·have hb:(f == g)=false:=beq_eq_false_iff_ne.mpr hg;simp only [xD,hb] at e1 e2;obtain ⟨fA,fj,fB,e,hr,q1,q2⟩:=RtFs.split r e1 e2;have hgf:¬g=f:=λ z=>hg z.symm;refine ⟨fp++fA,fj,fB,by rw [e,wG],hr,λ s k u=>?_,λ s k u=>?_⟩
   ·rw [show putA f _ ((g,t') :: _)=(g,t') :: putA f _ _ from if_neg hgf,wG];exact .cons (h.frame s λ b hb=>k b (by simp [hb])) (q1 s (λ b hb=>k b (by rcases vJ.mp hb with z|z <;> simp [z])) u)
   ·rw [show putA f _ ((g,t') :: _)=(g,t') :: putA f _ _ from if_neg hgf,show putF f _ ((g,x') :: _)=(g,x') :: putF f _ _ from if_neg hgf,wG];exact .cons (h.frame s λ b hb=>k b (by simp [hb])) (q2 s (λ b hb=>k b (by rcases vJ.mp hb with z|z <;> simp [z])) u)
theorem RtFs.add {F H F2 H2:Hp} {y:V} {u:T} {fq:List Addr} (s:Same F F2) (hu:Rt K F2 H2 y u fq):∀ {xs:List (Str×V)} {ts:List (Str×T)} {fp:List Addr} {f:Str},RtFs K F H xs ts fp->ts.lookup f=none->(∀ b∈fp,H2 b=H b/\F2 b=none)->RtFs K F2 H2 (putF f y xs) (putA f u ts) (fp++fq)
|_,_,_,f,.nil,_,_=>by
  show RtFs K F2 H2 [(f,y)] [(f,u)] fq;have:=RtFs.cons (f:=f) hu (.nil (K:=K) (F:=F2) (H:=H2))
  rwa [wJ] at this
|_,_,_,f,.cons (f:=g) (x:=x') (t:=t') (fp:=fp) (fq:=fq') h r,e,k=>by
  have hg:¬f=g:=λ z=>by subst z;simp [xD] at e
  have hb:(f == g)=false:=beq_eq_false_iff_ne.mpr hg;simp only [xD,hb] at e;have hgf:¬g=f:=λ z=>hg z.symm;rw [show putA f u ((g,t') :: _)=(g,t') :: putA f u _ from if_neg hgf,show putF f y ((g,x') :: _)=(g,x') :: putF f y _ from if_neg hgf,wG];exact .cons (h.frame s λ b hb=>k b (by simp [hb])) (RtFs.add s hu r e λ b hb=>k b (by simp [hb]))
theorem RtFs.keys {F H:Hp} {xs:List (Str×V)} {ts:List (Str×T)} (f:Str) (h:RtFs K F H xs ts fp):(ts.lookup f=none->xs.lookup f=none)/\(∀ t,ts.lookup f=some t->∃ x,xs.lookup f=some x)/\xs.length=ts.length :=
 (Rt.ind (P:=λ _ _ _=>True) (Q:=λ _ _ _=>True) (R:=λ xs ts _=>(ts.lookup f=none->xs.lookup f=none)/\(∀ t,ts.lookup f=some t->∃ x,xs.lookup f=some x)/\xs.length=ts.length)
  (λ _=>trivial) (λ _ _ _=>trivial) (λ _ _ _=>trivial) (λ _ _ _ _ _=>trivial) (λ _ _ _=>trivial) (λ _ _ _=>trivial) (λ _ _ _ _=>trivial) trivial trivial (λ _ _=>trivial) ⟨λ _=>rfl,(λ t e=>by cases e),rfl⟩
  λ {g x _ _ _ _ _} _ ⟨k1,k2,k3⟩=>by
   rw [wY,wY,k3,wA,wA];cases f == g with
  |true=>exact ⟨(λ e=>by cases e),λ _ _=>⟨x,rfl⟩,rfl⟩
  |false=>exact ⟨k1,k2,rfl⟩).2.2 h
theorem zv81 {F H:Hp} {v:V} {t u:T} {p:Pth} (h:At H x t p v u):∀ {fp:List Addr},Rt K F H x t fp->fp.Nodup->∃ fn,Rt K F H v u fn/\(∀ a∈fn,a∈fp)/\fn.Nodup /\
  ∀ {F2 H2:Hp} {u2:T} {fq:List Addr},Same F F2->(∀ b∈fp,b ∉ fn->H2 b=H b/\F2 b=none)->Rt K F2 H2 v u2 fq->fq.Nodup->(∀ b∈fq,b∈fn \/ b ∉ fp)->∃ fp2,Rt K F2 H2 x (setP t p u2) fp2/\fp2.Nodup/\∀ b∈fp2,(b∈fp/\b ∉ fn) \/ b∈fq:=by
 induction h with
|nil =>
  intro fp hr nd;refine ⟨fp,hr,λ a z=>z,nd,λ {F2 H2 u2 fq} _ _ h2 n2 _=>⟨fq,?_,n2,λ b hb=>.inr hb⟩⟩;cases u2 <;> exact h2
|@ix a0 xs0 ts0 j0 x0 v0 t0 u0 p0 h1 h2 h3 _ ih =>
  intro fp hr nd;cases hr with
 |ls g1 g2 g3 =>
   rw [h1] at g1;cases g1;obtain ⟨fA,fj,fB,e,hj,rep⟩:=g3.split h2 h3;subst e;have ndR:=(vX.mp nd).2;have nA:=(vX.mp nd).1;obtain ⟨ndA,ndJB,djA⟩:=wH.mp ndR;obtain ⟨ndj,ndB,djB⟩:=wH.mp ndJB;obtain ⟨fn,hn,sub,ndn,back⟩:=ih hj ndj;refine ⟨fn,hn,λ a ha=>by simp [sub a ha],ndn,λ {F2 H2 u2 fq} s k hu nq hq=>?_⟩;obtain ⟨f2,r2,n2,m2⟩:=back s (λ b hb hnb=>k b (by simp [hb]) hnb) hu nq λ b hb=>by
    rcases hq b hb with z|z
    ·exact .inl z
    ·exact .inr λ y=>z (by simp [y])
   have notin:∀ b,b∈fA \/ b∈fB->b ∉ fn:=λ b hb hn'=>by
    have:=sub b hn';rcases hb with z|z
    ·exact djA b z b (by simp [this]) rfl
    ·exact djB b this b z rfl
   have rA:=rep s (λ b hb=>by
    have hb':=vJ.mp hb;refine k b (by rcases hb' with z|z <;> simp [z]) (notin b hb')) r2
   have hnotq:∀ b,(b∈fA \/ b∈fB \/ b=a0)->b ∉ fq:=λ b hb hbq=>by
    rcases hq b hbq with z|z
    ·rcases hb with y|y|y
     ·exact notin b (.inl y) z
     ·exact notin b (.inr y) z
     ·subst y;exact nA (by simp [sub _ z])
    ·apply z;rcases hb with y|y|y
     ·simp [y]
     ·simp [y]
     ·simp [y]
   have ha2:=k _ (wR) (λ z=>nA (by simp [sub _ z]));refine ⟨a0 :: (fA++(f2++fB)),?_,?_,?_⟩
   ·unfold setP;rw [h3];exact .ls (by rw [ha2.1];exact h1) ha2.2 rA
   ·refine vX.mpr ⟨λ z=>?_,?_⟩
    ·rcases vJ.mp z with y|y
     ·exact nA (by simp [y])
     ·rcases vJ.mp y with y|y
      ·rcases m2 _ y with ⟨y1,_⟩|y1
       ·exact nA (by simp [y1])
       ·exact hnotq _ (.inr (.inr rfl)) y1
      ·exact nA (by simp [y])
    ·refine wH.mpr ⟨ndA,wH.mpr ⟨n2,ndB,λ a ha b hb=>?_⟩,λ a ha b hb=>?_⟩
     ·rcases m2 a ha with ⟨y,_⟩|y
      ·exact djB a y b hb
      ·intro z;subst z;exact hnotq a (.inr (.inl hb)) y
     ·rcases vJ.mp hb with y|y
      ·rcases m2 b y with ⟨y,_⟩|y
       ·exact djA a ha b (by simp [y])
       ·intro z;subst z;exact hnotq a (.inl ha) y
      ·exact djA a ha b (by simp [y])
   ·intro b hb;rcases vL.mp hb with y|y
    ·subst y;exact .inl ⟨by simp,λ z=>nA (by simp [sub _ z])⟩
    ·rcases vJ.mp y with y|y
     ·exact .inl ⟨by simp [y],notin b (.inl y)⟩
     ·rcases vJ.mp y with y|y
      ·rcases m2 b y with ⟨y1,y2⟩|y1
       ·exact .inl ⟨by simp [y1],y2⟩
       ·exact .inr y1
      ·exact .inl ⟨by simp [y],notin b (.inr y)⟩
|@tx a0 xs0 ts0 j0 x0 v0 t0 u0 p0 h1 h2 h3 _ ih =>
  intro fp hr nd;cases hr with
 |tp g1 g2 gk g3 =>
   rw [h1] at g1;cases g1;obtain ⟨fA,fj,fB,e,hj,rep⟩:=g3.split h2 h3;subst e;have ndR:=(vX.mp nd).2;have nA:=(vX.mp nd).1;obtain ⟨ndA,ndJB,djA⟩:=wH.mp ndR;obtain ⟨ndj,ndB,djB⟩:=wH.mp ndJB;obtain ⟨fn,hn,sub,ndn,back⟩:=ih hj ndj;refine ⟨fn,hn,λ a ha=>by simp [sub a ha],ndn,λ {F2 H2 u2 fq} s k hu nq hq=>?_⟩;obtain ⟨f2,r2,n2,m2⟩:=back s (λ b hb hnb=>k b (by simp [hb]) hnb) hu nq λ b hb=>by
    rcases hq b hb with z|z
    ·exact .inl z
    ·exact .inr λ y=>z (by simp [y])
   have notin:∀ b,b∈fA \/ b∈fB->b ∉ fn:=λ b hb hn'=>by
    have:=sub b hn';rcases hb with z|z
    ·exact djA b z b (by simp [this]) rfl
    ·exact djB b this b z rfl
   have rA:=rep s (λ b hb=>by
    have hb':=vJ.mp hb;refine k b (by rcases hb' with z|z <;> simp [z]) (notin b hb')) r2
   have hnotq:∀ b,(b∈fA \/ b∈fB \/ b=a0)->b ∉ fq:=λ b hb hbq=>by
    rcases hq b hbq with z|z
    ·rcases hb with y|y|y
     ·exact notin b (.inl y) z
     ·exact notin b (.inr y) z
     ·subst y;exact nA (by simp [sub _ z])
    ·apply z;rcases hb with y|y|y
     ·simp [y]
     ·simp [y]
     ·simp [y]
   have ha2:=k _ (wR) (λ z=>nA (by simp [sub _ z]));refine ⟨a0 :: (fA++(f2++fB)),?_,?_,?_⟩
   ·unfold setP;rw [h3];exact .tp (by rw [ha2.1];exact h1) ha2.2 gk rA
   ·refine vX.mpr ⟨λ z=>?_,?_⟩
    ·rcases vJ.mp z with y|y
     ·exact nA (by simp [y])
     ·rcases vJ.mp y with y|y
      ·rcases m2 _ y with ⟨y1,_⟩|y1
       ·exact nA (by simp [y1])
       ·exact hnotq _ (.inr (.inr rfl)) y1
      ·exact nA (by simp [y])
    ·refine wH.mpr ⟨ndA,wH.mpr ⟨n2,ndB,λ a ha b hb=>?_⟩,λ a ha b hb=>?_⟩
     ·rcases m2 a ha with ⟨y,_⟩|y
      ·exact djB a y b hb
      ·intro z;subst z;exact hnotq a (.inr (.inl hb)) y
     ·rcases vJ.mp hb with y|y
      ·rcases m2 b y with ⟨y,_⟩|y
       ·exact djA a ha b (by simp [y])
       ·intro z;subst z;exact hnotq a (.inl ha) y
      ·exact djA a ha b (by simp [y])
   ·intro b hb;rcases vL.mp hb with y|y
    ·subst y;exact .inl ⟨by simp,λ z=>nA (by simp [sub _ z])⟩
    ·rcases vJ.mp y with y|y
     ·exact .inl ⟨by simp [y],notin b (.inl y)⟩
     ·rcases vJ.mp y with y|y
      ·rcases m2 b y with ⟨y1,y2⟩|y1
       ·exact .inl ⟨by simp [y1],y2⟩
       ·exact .inr y1
      ·exact .inl ⟨by simp [y],notin b (.inr y)⟩
|@fl a0 C0 dx0 fs0 ts0 f0 x0 v0 t0 u0 p0 h1 h2 h3 _ ih =>
  intro fp hr nd;cases hr with
 |ob g1 g2 g3 g4 g5 =>
   rw [h1] at g1;cases g1;obtain ⟨fA,fj,fB,e,hj,rep,_⟩:=g5.split h2 h3;subst e;have nd1:=vX.mp nd;have nd2:=vX.mp nd1.2;have ndR:=nd2.2;have nA:_ ∉ fA++(fj++fB):=λ z=>nd1.1 (v8 _ z);have nX:=nd2.1;obtain ⟨ndA,ndJB,djA⟩:=wH.mp ndR;obtain ⟨ndj,ndB,djB⟩:=wH.mp ndJB;obtain ⟨fn,hn,sub,ndn,back⟩:=ih hj ndj;refine ⟨fn,hn,λ a ha=>by simp [sub a ha],ndn,λ {F2 H2 u2 fq} s k hu nq hq=>?_⟩;obtain ⟨f2,r2,n2,m2⟩:=back s (λ b hb hnb=>k b (by simp [hb]) hnb) hu nq λ b hb=>by
    rcases hq b hb with z|z
    ·exact .inl z
    ·exact .inr λ y=>z (by simp [y])
   have notin:∀ b,b∈fA \/ b∈fB->b ∉ fn:=λ b hb hn'=>by
    have:=sub b hn';rcases hb with z|z
    ·exact djA b z b (by simp [this]) rfl
    ·exact djB b this b z rfl
   have rA:=rep s (λ b hb=>by
    have hb':=vJ.mp hb;refine k b (by rcases hb' with z|z <;> simp [z]) (notin b hb')) r2
   have hnotq:∀ b,(b∈fA \/ b∈fB)->b ∉ fq:=λ b hb hbq=>by
    rcases hq b hbq with z|z
    ·exact notin b hb z
    ·apply z;rcases hb with y|y <;> simp [y]
   have hnq2:∀ b,b∈fn->b∈fA++(fj++fB):=λ b hb=>by simp [sub _ hb]
   have ha2:=k _ (wR) (λ z=>nA (hnq2 _ z));have hx2:=k _ (v8 _ wR) (λ z=>nX (hnq2 _ z));have hf2:∀ b∈f2,b∈fj \/ b∈fq:=λ b hb=>by
    rcases m2 b hb with ⟨y,_⟩|y
    ·exact .inl y
    ·exact .inr y
   refine ⟨a0 :: dx0 :: (fA++(f2++fB)),?_,?_,?_⟩
   ·unfold setP;rw [h3];exact .ob (by rw [ha2.1];exact h1) (by rw [hx2.1];exact g2) ha2.2 hx2.2 rA
   ·have inR:∀ b,b∈fA++(f2++fB)->b∈fA++(fj++fB) \/ b∈fq:=λ b hb=>by
     rcases vJ.mp hb with y|y
     ·exact .inl (by simp [y])
     ·rcases vJ.mp y with y|y
      ·rcases hf2 b y with y|y
       ·exact .inl (by simp [y])
       ·exact .inr y
      ·exact .inl (by simp [y])
    refine vX.mpr ⟨λ z=>?_,vX.mpr ⟨λ z=>?_,?_⟩⟩
    ·rcases vL.mp z with y|y
     ·exact nd1.1 (by rw [y];simp)
     ·rcases inR _ y with y|y
      ·exact nA y
      ·rcases hq _ y with w|w
       ·exact nA (hnq2 _ w)
       ·exact w (by simp)
    ·rcases inR _ z with y|y
     ·exact nX y
     ·rcases hq _ y with w|w
      ·exact nX (hnq2 _ w)
      ·exact w (by simp)
    ·refine wH.mpr ⟨ndA,wH.mpr ⟨n2,ndB,λ a ha b hb=>?_⟩,λ a ha b hb=>?_⟩
     ·rcases m2 a ha with ⟨y,_⟩|y
      ·exact djB a y b hb
      ·intro z;subst z;exact hnotq a (.inr hb) y
     ·rcases vJ.mp hb with y|y
      ·rcases m2 b y with ⟨y,_⟩|y
       ·exact djA a ha b (by simp [y])
       ·intro z;subst z;exact hnotq a (.inl ha) y
      ·exact djA a ha b (by simp [y])
   ·intro b hb;rcases vL.mp hb with y|y
    ·subst y;exact .inl ⟨by simp,λ z=>nA (hnq2 _ z)⟩
    ·rcases vL.mp y with y|y
     ·subst y;exact .inl ⟨by simp,λ z=>nX (hnq2 _ z)⟩
     ·rcases vJ.mp y with y|y
      ·exact .inl ⟨by simp [y],notin b (.inl y)⟩
      ·rcases vJ.mp y with y|y
       ·rcases m2 b y with ⟨y1,y2⟩|y1
        ·exact .inl ⟨by simp [y1],y2⟩
        ·exact .inr y1
       ·exact .inl ⟨by simp [y],notin b (.inr y)⟩
end
def AtS (H:Hp) (Y:_2.St) (U:DSt) (i:Nat) (p:Pth) (v:V) (u:T):Prop:=∃ s t x,U[i]?=some s/\s.tree=some t/\Y.getD i none=some x/\At H x t p v u
abbrev DP:=DSt->(Nat->Pth->T->Prop)->Prop
noncomputable def RfP (K:Fg) (te:TE) (dp:DP):Prop:=∀ {F H:Hp} {Y:_2.St} {U:DSt} {Qd:Nat->Pth->T->Prop} {Q:VK},Same F H->RV K F H Y U->dp U Qd->(∀ i p u,Qd i p u->∀ v F' H',Ext F H F' H'->AtS H' Y U i p v u->Q v H')->te Y H Q
section
variable {K:Fg} {te ti:TE} {dp:DP} {di:DE}
theorem zkd1 {F H:Hp} {v:V} {t u:T} {p:Pth} (h:At H x t p v u):∀ {fp:List Addr},Rt K F H x t fp->∃ fn,Rt K F H v u fn:=by
 induction h with
|nil=>intro fp hr;exact ⟨fp,hr⟩
|ix h1 h2 h3 _ ih =>
  intro fp hr;cases hr with
 |ls g1 g2 g3 =>
   rw [h1] at g1;cases g1;obtain ⟨fA,fj,fB,e,hj,_⟩:=g3.split h2 h3;exact ih hj
|tx h1 h2 h3 _ ih =>
  intro fp hr;cases hr with
 |tp g1 g2 gk g3 =>
   rw [h1] at g1;cases g1;obtain ⟨fA,fj,fB,e,hj,_⟩:=g3.split h2 h3;exact ih hj
|fl h1 h2 h3 _ ih =>
  intro fp hr;cases hr with
 |ob g1 g2 g3 g4 g5 =>
   rw [h1] at g1;cases g1;obtain ⟨fA,fj,fB,e,hj,_⟩:=g5.split h2 h3;exact ih hj
theorem AtS.rt {F H:Hp} {Y:_2.St} {U:DSt} {i:Nat} {p:Pth} {v:V} {u:T} (h:AtS H Y U i p v u) (r:RV K F H Y U):∃ fn,Rt K F H v u fn:=by
 obtain ⟨s,t,x,h1,h2,h3,h4⟩:=h;obtain ⟨y,fp,e,hr,_⟩:=(r.sl i s h1).rt h2;rw [h3] at e;cases e;exact zkd1 h4 hr
theorem AtS.mono {H H':Hp} {Y:_2.St} {U:DSt} {i:Nat} {p:Pth} {v:V} {u:T} (s:Same H H') (h:AtS H Y U i p v u):AtS H' Y U i p v u:=by
 obtain ⟨s',t,x,h1,h2,h3,h4⟩:=h;exact ⟨s',t,x,h1,h2,h3,h4.mono s⟩
def pVar (i:Nat):DP:=λ U Q=>pAt U i λ t=>Q i [] t
theorem zp0 (i:Nat):RfP K (tVar i) (pVar i):=by
 intro F H Y U Qd Q s r h k;obtain ⟨sl,t,q,et,f⟩:=zwo h;obtain ⟨x,fp,e,hr,_⟩:=(r.sl i _ q).rt et;exact ⟨x,zt9 (F:=F) (H:=H) (U:=U) e,k i [] t f x F H (Ext.refl s) ⟨sl,t,x,q,et,e,.nil⟩⟩
def nFld (f:Str) (u:T) (Q:T->Prop):Prop:=match u with
|.ob _ fs=>∃ t,fs.lookup f=some t/\Q t
|_=>False
def nCls (C:Addr) (u:T):Prop:=match u with
|.ob C' _=>C'=C
|_=>False
def pFld (C:Addr) (f:Str) (dp:DP):DP:=λ U Q=>dp U λ i p u=>nCls C u/\nFld f u λ t=>Q i (p++[.fl f]) t
theorem zu3 (c:Cls K C) (na:NoAttr K C f) (h:RfP K te dp):RfP K (zcb1 K te f) (pFld C f dp):=by
 intro F H Y U Qd Q s r hd k;refine h s r hd λ i p u hu v F1 H1 e1 at1=>?_;obtain ⟨hc,hf⟩:=hu;obtain ⟨fn,hr⟩:=at1.rt (r.ext e1);cases hr with
|ob g1 g2 g3 g4 g5 =>
  cases (show _=C from hc);obtain ⟨t,et,q⟩:=hf;obtain ⟨y,ey⟩:=(g5.keys f).2.1 t et;refine ⟨_,_,_,_,y,rfl,g1,c,na,ey,k i _ t q y F1 H1 e1 ?_⟩;obtain ⟨sl,t0,x,a1,a2,a3,a4⟩:=at1;exact ⟨sl,t0,x,a1,a2,a3,a4.snoc_fl g1 ey et⟩
|fz _=>exact hc.elim
|li _ _ _=>exact hc.elim
|ls _ _ _=>exact hc.elim
|dk _ _ _=>exact hc.elim
|dt _ _ _=>exact hc.elim
|tp _ _ _ _=>exact hc.elim
|wh=>exact hc.elim
noncomputable def nIx (u:T) (k:D) (Q:Nat->T->Prop):Prop:=match u,k with
|.ls ts,.int z=>∃ j t,ixN ts.length z=some j/\ts[j]?=some t/\Q j t
|.tp ts,.int z=>∃ j t,ixN ts.length z=some j/\ts[j]?=some t/\Q j t
|_,_=>False
def pIx (dp:DP) (di:DE):DP:=λ U Q=>dp U λ i p u=>di U λ k=>nIx u k λ j t=>Q i (p++[.ix j]) t
theorem zg51 {w:World} (h:RfP K te dp) (hi:RfE K ti di):RfP K (tOp (rIxV w K) te ti) (pIx dp di):=by
 intro F H Y U Qd Q s r hd k;refine h s r hd λ i p u hu v F1 H1 e1 at1=>hi e1.fh (r.ext e1) hu λ kd hk kv F2 H2 e2 i2=>?_;have e12:=e1.trans e2;have at2:=at1.mono e2.h;obtain ⟨fn,hr⟩:=at2.rt (r.ext e12);unfold nIx at hk;split at hk
 ·rename_i ts z
  obtain ⟨j,t,ej,et,q⟩:=hk;cases i2.int_inv;cases hr with
 |ls g1 g2 g3 =>
   have el:=g3.len;have hj:j < ts.length:=by
    rcases wP j ts.length with y|y
    ·exact y
    ·rw [v9 y] at et;cases et
   rename_i a xs fp
   obtain ⟨y,hx⟩:∃ y,xs[j]?=some y:=⟨xs[j]'(by lia),u7 _⟩
   refine .inl (.inl (.inl ⟨a,xs,z,y,rfl,rfl,SqL.of g1,?_,k i _ t q _ F2 H2 e12 ?_⟩))
   ·unfold atI;rw [el,ej];exact hx
   ·obtain ⟨sl,t0,x,a1,a2,a3,a4⟩:=at2;exact ⟨sl,t0,x,a1,a2,a3,a4.snoc_ix (y:=x) g1 hx et⟩
 ·rename_i ts z
  obtain ⟨j,t,ej,et,q⟩:=hk;cases i2.int_inv;cases hr with
 |tp g1 g2 gk g3 =>
   have el:=g3.len;have hj:j < ts.length:=by
    rcases wP j ts.length with y|y
    ·exact y
    ·rw [v9 y] at et;cases et
   rename_i a xs fp
   obtain ⟨y,hx⟩:∃ y,xs[j]?=some y:=⟨xs[j]'(by lia),u7 _⟩
   refine .inl (zsd1 (SqT.of g1) (v:=y) ?_ (k i _ t q _ F2 H2 e12 ?_))
   ·unfold atI;rw [el,ej];exact hx
   ·obtain ⟨sl,t0,x,a1,a2,a3,a4⟩:=at2;exact ⟨sl,t0,x,a1,a2,a3,a4.snoc_tx (y:=x) g1 hx et⟩
 ·exact hk.elim
def dPV (dp:DP):DE:=λ U Q=>dp U λ _ _ u=>vwT u Q
def dPE (dp:DP):DE:=λ U Q=>dp U λ _ _ u=>fzT u Q
theorem RfP.v (h:RfP K te dp):RfV K te (dPV dp):=λ s r d k=>h s r d λ i p u hu v F1 H1 e1 at1=>by
 obtain ⟨fn,hr⟩:=at1.rt (r.ext e1);obtain ⟨d,qd,vw⟩:=zab1 hr hu;exact k d qd v F1 H1 e1 vw
theorem RfP.e (h:RfP K te dp):RfE K te (dPE dp):=λ s r d k=>h s r d λ i p u hu v F1 H1 e1 at1=>by
 obtain ⟨fn,hr⟩:=at1.rt (r.ext e1);obtain ⟨d,qd,vw⟩:=zv41 hr hu;exact k d qd v F1 H1 e1 vw
end
structure Bs where
 F0:Hp
 H0:Hp
 G:List Addr
def Sl.own:Sl->Bool
|.ow _=>true
|.io _ _=>true
|_=>false
def Sl.has:Sl->Bool
|.ow _=>true
|.io _ _=>true
|.bo _=>true
|_=>false
def Sl.wth:Sl->T->Sl
|.ow _,u=>.ow u
|.io a _,u=>.io a u
|s,_=>s
structure RS (K:Fg) (B:Bs) (F H:Hp) (Y:_2.St) (U:DSt) (fps:Nat->List Addr):Prop where
 hh:∀ b o,b ∉ B.G->B.H0 b=some o->H b=some o
 ff:Same B.F0 F
 fh:Same F H
 nw:∀ b,HD (B.H0 b)->B.F0 b=none->F b=none
 al:∀ b,(B.H0 b≠none->H b≠none)/\(HD (B.H0 b)->HD (H b))
 len:Y.length=U.length
 sh:∀ (i:Nat) d,U[i]?=some (.sh d)->∃ x,Y.getD i none=some x/\Is K F x d
 rt:∀ (i:Nat) s,U[i]?=some s->s.has=true->∃ x t,Y.getD i none=some x/\s.tree=some t/\Rt K F H x t (fps i)/\(∀ a u,s=.io a u->x=.ref a)/\(fps i).Nodup
 fr:∀ (i:Nat) s,U[i]?=some s->s.own=true->∀ a∈fps i,B.H0 a=none \/ (a∈B.G/\∀ t,s≠.ow t)
 dj:∀ (i j:Nat) s s',i≠j->U[i]?=some s->U[j]?=some s'->s.own=true->s'.has=true->∀ a∈fps i,a ∉ fps j
section
variable {K:Fg} {B:Bs} {F H F' H':Hp} {Y:_2.St} {U:DSt} {fps:Nat->List Addr}
theorem zr6:∀ {s:Sl},s.own=true->s.has=true
|.ow _,_=>rfl
|.io _ _,_=>rfl
|.un,e=>by cases e
|.sh _,e=>by cases e
|.bo _,e=>by cases e
theorem RS.rv (r:RS K B F H Y U fps):RV K F H Y U:=⟨r.len,λ i s e=>by
 cases s with
|un=>trivial
|sh d=>exact r.sh i d e
|ow t =>
  obtain ⟨x,t',h1,h2,h3,h4,h5⟩:=r.rt i _ e rfl;cases h2;exact ⟨x,_,h1,h3,h5⟩
|bo t =>
  obtain ⟨x,t',h1,h2,h3,h4,h5⟩:=r.rt i _ e rfl;cases h2;exact ⟨x,_,h1,h3,h5⟩
|io a t =>
  obtain ⟨x,t',h1,h2,h3,h4,h5⟩:=r.rt i _ e rfl;cases h2;cases h4 a t rfl;exact ⟨_,h1,h3,h5⟩⟩
theorem RS.grow (r:RS K B F H Y U fps) (e:Ext F H F' H'):RS K B F' H' Y U fps where
 hh:=λ b o hb ho=>e.h b o (r.hh b o hb ho)
 ff:=r.ff.trans e.f
 fh:=e.fh
 nw:=λ b hb fb=>e.nw b ((r.al b).2 hb) (r.nw b hb fb)
 al:=λ b=>⟨(λ hb z=>by
  cases q:H b with
 |none=>exact (r.al b).1 hb q
 |some o=>rw [e.h b o q] at z;cases z),λ h=>((r.al b).2 h).mono e.h⟩
 len:=r.len
 sh:=λ i d h=>by obtain ⟨x,h1,h2⟩:=r.sh i d h;exact ⟨x,h1,h2.mono e.f⟩
 rt:=λ i s h1 h2=>by obtain ⟨x,t,a1,a2,a3,a4,a5⟩:=r.rt i s h1 h2;exact ⟨x,t,a1,a2,a3.ext e,a4,a5⟩
 fr:=r.fr
 dj:=r.dj
theorem RS.setS (r:RS K B F H Y U fps) {v:V} {d:D} (h:Is K F v d):RS K B F H (Y.set i (some v)) (U.set i (.sh d)) fps:=by
 have key:∀ (j:Nat) s,(U.set i (.sh d))[j]?=some s->(j=i/\s=.sh d/\(Y.set i (some v)).getD j none=some v) \/ (j≠i/\U[j]?=some s/\(Y.set i (some v)).getD j none=Y.getD j none):=λ j s e=>by
  rw [xE] at e;by_cases hij:i=j
  ·subst hij;by_cases hl:i < U.length
   ·simp [hl] at e;exact .inl ⟨rfl,e.symm,by rw [zs3,r.len,if_pos ⟨rfl,hl⟩]⟩
   ·simp [hl] at e
  ·simp [hij] at e;exact .inr ⟨λ z=>hij z.symm,e,by rw [zs3,if_neg (by lia)]⟩
 refine ⟨r.hh,r.ff,r.fh,r.nw,r.al,by rw [wD,wD];exact r.len,λ j d' e=>?_,λ j s e hs=>?_,λ j s e hs=>?_,λ j k s s' hjk e1 e2 o1 o2=>?_⟩
 ·rcases key j _ e with ⟨_,e2,e3⟩|⟨_,e2,e3⟩
  ·cases e2;exact ⟨v,e3,h⟩
  ·obtain ⟨x,h1,h2⟩:=r.sh j d' e2;exact ⟨x,by rw [e3];exact h1,h2⟩
 ·rcases key j _ e with ⟨_,e2,e3⟩|⟨_,e2,e3⟩
  ·rw [e2] at hs;cases hs
  ·rw [e3];exact r.rt j s e2 hs
 ·rcases key j _ e with ⟨_,e2,e3⟩|⟨_,e2,e3⟩
  ·rw [e2] at hs;cases hs
  ·exact r.fr j s e2 hs
 ·rcases key j _ e1 with ⟨_,z,_⟩|⟨_,z1,_⟩
  ·rw [z] at o1;cases o1
  ·rcases key k _ e2 with ⟨_,z,_⟩|⟨_,z2,_⟩
   ·rw [z] at o2;cases o2
   ·exact r.dj j k s s' hjk z1 z2 o1 o2
theorem RS.byUpd (u:Upd K F n Y U Y' U') (r:RS K B F H Y U fps):RS K B F H Y' U' fps:=by
 induction u with
|refl=>exact r
|set hi hv _ ih=>exact ih (r.setS hv)
theorem RS.forget (r:RS K B F H Y U fps) (i:Nat):RS K B F H Y (U.set i .un) fps:=by
 have key:∀ (j:Nat) s,(U.set i .un)[j]?=some s->s=.un \/ (j≠i/\U[j]?=some s):=λ j s e=>by
  rw [xE] at e;by_cases hij:i=j
  ·subst hij;by_cases hl:i < U.length
   ·simp [hl] at e;exact .inl e.symm
   ·simp [hl] at e
  ·simp [hij] at e;exact .inr ⟨λ z=>hij z.symm,e⟩
 refine ⟨r.hh,r.ff,r.fh,r.nw,r.al,by rw [wD];exact r.len,λ j d' e=>?_,λ j s e hs=>?_,λ j s e hs=>?_,λ j k s s' hjk e1 e2 o1 o2=>?_⟩
 ·rcases key j _ e with z|⟨_,z⟩
  ·cases z
  ·exact r.sh j d' z
 ·rcases key j _ e with z|⟨_,z⟩
  ·rw [z] at hs;cases hs
  ·exact r.rt j s z hs
 ·rcases key j _ e with z|⟨_,z⟩
  ·rw [z] at hs;cases hs
  ·exact r.fr j s z hs
 ·rcases key j _ e1 with z|⟨_,z1⟩
  ·rw [z] at o1;cases o1
  ·rcases key k _ e2 with z|⟨_,z2⟩
   ·rw [z] at o2;cases o2
   ·exact r.dj j k s s' hjk z1 z2 o1 o2
def zz41 (B:Bs) (U:DSt) (fps:Nat->List Addr) (b:Addr):Prop:=B.H0 b=none/\∀ (j:Nat) s,U[j]?=some s->s.has=true->b ∉ fps j
theorem RS.newOk (r:RS K B F H Y U fps) {b:Addr} (h:H b=none):zz41 B U fps b:=by
 refine ⟨?_,λ j s ej hs hb=>?_⟩
 ·by_cases z:B.H0 b=none
  ·exact z
  ·exact absurd h ((r.al b).1 z)
 ·obtain ⟨x,t,a1,a2,a3,a4,a5⟩:=r.rt j s ej hs;exact (a3.dom b hb).1 h
theorem RS.upd2 (r:RS K B F H Y U fps) {s:Sl} {t2:T} {fp2:List Addr} {F2 H2:Hp} (hi:U[i]?=some s) (ho:s.own=true) (hx:Y.getD i none=some x)
  (c1:∀ b o,b ∉ fps i->H b=some o->H2 b=some o) (c2:Same F F2) (c3:Same F2 H2) (c4:∀ b,HD (H b)->F b=none->b ∉ fps i->F2 b=none) (c5:∀ b,(H b≠none->H2 b≠none)/\(HD (H b)->HD (H2 b)))
  (h2:Rt K F2 H2 x t2 fp2) (n2:fp2.Nodup) (m2:∀ b∈fp2,b∈fps i \/ zz41 B U fps b) (c6:∀ b∈fps i,F2 b≠none->B.H0 b=none) :
  RS K B F2 H2 Y (U.set i (s.wth t2)) (λ j=>if j=i then fp2 else fps j):=by
 have hlt:i < U.length:=by
  rcases wP i U.length with z|z
  ·exact z
  ·rw [v9 z] at hi;cases hi
 have hs:=zr6 ho;have wo:(s.wth t2).own=true/\(s.wth t2).has=true/\(s.wth t2).tree=some t2:=by
  cases s with
 |ow _=>exact ⟨rfl,rfl,rfl⟩
 |io _ _=>exact ⟨rfl,rfl,rfl⟩
 |un=>cases ho
 |sh _=>cases ho
 |bo _=>cases ho
 have key:∀ (j:Nat) s',(U.set i (s.wth t2))[j]?=some s'->(j=i/\s'=s.wth t2) \/ (j≠i/\U[j]?=some s'):=λ j s' e=>by
  rw [xE] at e;by_cases hij:i=j
  ·subst hij;simp [hlt] at e;exact .inl ⟨rfl,e.symm⟩
  ·simp [hij] at e;exact .inr ⟨λ z=>hij z.symm,e⟩
 have old:∀ b∈fps i,H b≠none/\F b=none:=by
  obtain ⟨x',t',a1,a2,a3,a4,a5⟩:=r.rt i s hi hs;exact a3.dom
 have own0:=r.fr i s hi ho;refine ⟨λ b o hb h0=>?_,r.ff.trans c2,c3,λ b hb fb=>?_,λ b=>⟨λ hb=>(c5 b).1 ((r.al b).1 hb),λ hb=>(c5 b).2 ((r.al b).2 hb)⟩,by rw [wD];exact r.len,λ j d e=>?_,λ j s' e hs'=>?_,λ j s' e ho' a ha=>?_,λ j k s1 s2 hjk e1 e2 o1 o2 a ha=>?_⟩
 ·refine c1 b o (λ z=>?_) (r.hh b o hb h0);rcases own0 b z with y|y
  ·rw [y] at h0;cases h0
  ·exact hb y.1
 ·by_cases hbi:b∈fps i
  ·cases z:F2 b with
  |none=>rfl
  |some o=>exact absurd (c6 b hbi (by rw [z];simp)) hb.1
  ·exact c4 b ((r.al b).2 hb) (r.nw b hb fb) hbi
 ·rcases key j _ e with ⟨_,z⟩|⟨_,z⟩
  ·rw [<- z] at wo;cases wo.1
  ·obtain ⟨y,h1,h2⟩:=r.sh j d z;exact ⟨y,h1,h2.mono c2⟩
 ·rcases key j _ e with ⟨zj,z⟩|⟨zj,z⟩
  ·subst zj;rw [if_pos rfl];refine ⟨x,t2,hx,by rw [z];exact wo.2.2,h2,λ a u e'=>?_,n2⟩;obtain ⟨x',t',a1,a2,a3,a4,a5⟩:=r.rt j s hi hs;rw [hx] at a1;cases a1;cases s with
  |ow _=>rw [z] at e';cases e'
  |io a' u'=>rw [z] at e';cases e';exact a4 _ _ rfl
  |un=>cases ho
  |sh _=>cases ho
  |bo _=>cases ho
  ·rw [if_neg zj];obtain ⟨y,t',a1,a2,a3,a4,a5⟩:=r.rt j s' z hs';refine ⟨y,t',a1,a2,a3.frame c2 λ a ha=>?_,a4,a5⟩;obtain ⟨d1,d2⟩:=a3.dom a ha;have na:a ∉ fps i:=λ w=>r.dj i j s s' (λ q=>zj q.symm) hi z ho hs' a w ha;cases q:H a with
  |none=>exact absurd q d1
  |some o=>exact ⟨c1 a o na q,c4 a (a3.hdd a ha) d2 na⟩
 ·rcases key j _ e with ⟨zj,z⟩|⟨zj,z⟩
  ·rw [if_pos zj] at ha;rcases m2 a ha with y|y
   ·rcases own0 a y with w|⟨w1,w2⟩
    ·exact .inl w
    ·refine .inr ⟨w1,λ t et=>?_⟩;rw [z] at et;cases s with
    |ow t'=>exact w2 t' rfl
    |io _ _=>cases et
    |un=>cases ho
    |sh _=>cases ho
    |bo _=>cases ho
   ·exact .inl y.1
  ·rw [if_neg zj] at ha;exact r.fr j s' z ho' a ha
 ·rcases key j _ e1 with ⟨zj,z1⟩|⟨zj,z1⟩ <;> rcases key k _ e2 with ⟨zk,z2⟩|⟨zk,z2⟩
  ·exact absurd (zj.trans zk.symm) hjk
  ·rw [if_pos zj] at ha;rw [if_neg zk];subst zj;rcases m2 a ha with y|y
   ·exact r.dj j k s s2 hjk hi z2 ho o2 a y
   ·exact y.2 k s2 z2 o2
  ·rw [if_neg zj] at ha;rw [if_pos zk];subst zk;intro w;rcases m2 a w with y|y
   ·exact r.dj j k s1 s hjk z1 hi o1 hs a ha y
   ·exact y.2 j s1 z1 (zr6 o1) ha
  ·rw [if_neg zj] at ha;rw [if_neg zk];exact r.dj j k s1 s2 hjk z1 z2 o1 o2 a ha
theorem RS.setT (r:RS K B F H Y U fps) {v:V} {t:T} (h:Rt K F H v t fp) (nd:fp.Nodup) (hf:∀ a∈fp,B.H0 a=none) (hd:∀ (j:Nat) s,U[j]?=some s->s.has=true->∀ a∈fps j,a ∉ fp) :
  RS K B F H (Y.set i (some v)) (U.set i (.ow t)) (λ j=>if j=i then fp else fps j):=by
 have key:∀ (j:Nat) s,(U.set i (.ow t))[j]?=some s->(j=i/\s=.ow t/\(Y.set i (some v)).getD j none=some v) \/ (j≠i/\U[j]?=some s/\(Y.set i (some v)).getD j none=Y.getD j none):=λ j s e=>by
  rw [xE] at e;by_cases hij:i=j
  ·subst hij;by_cases hl:i < U.length
   ·simp [hl] at e;exact .inl ⟨rfl,e.symm,by rw [zs3,r.len,if_pos ⟨rfl,hl⟩]⟩
   ·simp [hl] at e
  ·simp [hij] at e;exact .inr ⟨λ z=>hij z.symm,e,by rw [zs3,if_neg (by lia)]⟩
 refine ⟨r.hh,r.ff,r.fh,r.nw,r.al,by rw [wD,wD];exact r.len,λ j d' e=>?_,λ j s e hs=>?_,λ j s e hs a ha=>?_,λ j k s s' hjk e1 e2 o1 o2 a ha=>?_⟩
 ·rcases key j _ e with ⟨_,e2,e3⟩|⟨_,e2,e3⟩
  ·cases e2
  ·obtain ⟨x,h1,h2⟩:=r.sh j d' e2;exact ⟨x,by rw [e3];exact h1,h2⟩
 ·rcases key j _ e with ⟨zj,e2,e3⟩|⟨zj,e2,e3⟩
  ·rw [if_pos zj,e3,e2];exact ⟨v,t,rfl,rfl,h,λ a u z=>(by cases z),nd⟩
  ·rw [if_neg zj,e3];exact r.rt j s e2 hs
 ·rcases key j _ e with ⟨zj,e2,e3⟩|⟨zj,e2,e3⟩
  ·rw [if_pos zj] at ha;exact .inl (hf a ha)
  ·rw [if_neg zj] at ha;exact r.fr j s e2 hs a ha
 ·rcases key j _ e1 with ⟨zj,z1,_⟩|⟨zj,z1,_⟩ <;> rcases key k _ e2 with ⟨zk,z2,_⟩|⟨zk,z2,_⟩
  ·exact absurd (zj.trans zk.symm) hjk
  ·rw [if_pos zj] at ha;rw [if_neg zk];exact λ w=>hd k s' z2 o2 a w ha
  ·rw [if_neg zj] at ha;rw [if_pos zk];exact hd j s z1 (zr6 o1) a ha
  ·rw [if_neg zj] at ha;rw [if_neg zk];exact r.dj j k s s' hjk z1 z2 o1 o2 a ha
theorem RS.put (r:RS K B F H Y U fps) {s:Sl} {p:Pth} {v:V} {u:T} (hi:U[i]?=some s) (ho:s.own=true) (ha:AtS H Y U i p v u) :
  ∃ fn t,s.tree=some t/\Rt K F H v u fn/\fn.Nodup/\(∀ a∈fn,a∈fps i)/\∀ {F2 H2:Hp} {u2:T} {fq:List Addr},
   (∀ b o,b ∉ fn->H b=some o->H2 b=some o)->Same F F2->Same F2 H2->(∀ b,HD (H b)->F b=none->b ∉ fn->F2 b=none)->(∀ b,(H b≠none->H2 b≠none)/\(HD (H b)->HD (H2 b)))->(∀ b∈fn,F2 b≠none->B.H0 b=none) ->
   Rt K F2 H2 v u2 fq->fq.Nodup->(∀ b∈fq,b∈fn \/ zz41 B U fps b)->∃ fps2,RS K B F2 H2 Y (U.set i (s.wth (setP t p u2))) fps2/\(∀ j,j≠i->fps2 j=fps j)/\∀ b∈fps2 i,b∈fps i \/ b∈fq:=by
 obtain ⟨s',t,x,h1,h2,h3,h4⟩:=ha;rw [hi] at h1;cases h1;obtain ⟨x',t',a1,a2,a3,a4,a5⟩:=r.rt i s hi (zr6 ho);rw [h3] at a1;cases a1;rw [h2] at a2;cases a2;obtain ⟨fn,hn,sub,ndn,back⟩:=zv81 h4 a3 a5;refine ⟨fn,t,h2,hn,ndn,sub,λ {F2 H2 u2 fq} c1 c2 c3 c4 c5 c6 hu nq mq=>?_⟩;obtain ⟨fp2,r2,n2,m2⟩:=back c2 (λ b hb hnb=>by
  obtain ⟨d1,d2⟩:=a3.dom b hb;cases q:H b with
 |none=>exact absurd q d1
 |some o=>exact ⟨c1 b o hnb q,c4 b (a3.hdd b hb) d2 hnb⟩) hu nq λ b hb=>by
   rcases mq b hb with z|z
   ·exact .inl z
   ·exact .inr (z.2 i s hi (zr6 ho))
 refine ⟨_,r.upd2 hi ho h3 (λ b o hb=>c1 b o λ z=>hb (sub b z)) c2 c3 (λ b hb fb hbi=>c4 b hb fb λ z=>hbi (sub b z)) c5 r2 n2 (λ b hb=>?_) (λ b hb f2=>?_),λ j hj=>if_neg hj,λ b hb=>?_⟩
 ·rcases m2 b hb with ⟨y,_⟩|y
  ·exact .inl y
  ·rcases mq b y with z|z
   ·exact .inl (sub b z)
   ·exact .inr z
 ·by_cases z:b∈fn
  ·exact c6 b z f2
  ·obtain ⟨d1,d2⟩:=a3.dom b hb;exact absurd (c4 b (a3.hdd b hb) d2 z) f2
 ·rw [if_pos rfl] at hb;rcases m2 b hb with ⟨y,_⟩|y
  ·exact .inl y
  ·exact .inr y
end
structure Res (K:Fg) (B:Bs) (F H:Hp) (Y:_2.St) (U:DSt) (fps:Nat->List Addr) (v:V) (r:T) (fpr:List Addr):Prop where
 rs:RS K B F H Y U fps
 rt:Rt K F H v r fpr
 nd:fpr.Nodup
 fr:∀ a∈fpr,B.H0 a=none
 dj:∀ (j:Nat) s,U[j]?=some s->s.has=true->∀ a∈fps j,a ∉ fpr
abbrev DC:=DSt->(T->DSt->Prop)->Prop
noncomputable def RfC (K:Fg) (te:TE) (dc:DC):Prop:=∀ {B:Bs} {F H:Hp} {Y:_2.St} {U:DSt} {fps:Nat->List Addr} {Qd:T->DSt->Prop} {Q:VK},RS K B F H Y U fps->dc U Qd->(∀ r U',Qd r U'->∀ v F' H' fps' fpr,Res K B F' H' Y U' fps' v r fpr->Q v H')->te Y H Q
structure DEnds where
 nx:DSt->Prop
 rt:T->DSt->Prop
 bk:DSt->Prop:=λ _=>False
 ct:DSt->Prop:=λ _=>False
abbrev DS:=DEnds->DSt->Prop
structure En (K:Fg) (B:Bs) (E:DEnds) (Z:Ends):Prop where
 nx:∀ {F H:Hp} {Y:_2.St} {U:DSt} {fps:Nat->List Addr},RS K B F H Y U fps->E.nx U->Z.nx Y H
 bk:∀ {F H:Hp} {Y:_2.St} {U:DSt} {fps:Nat->List Addr},RS K B F H Y U fps->E.bk U->Z.bk Y H
 ct:∀ {F H:Hp} {Y:_2.St} {U:DSt} {fps:Nat->List Addr},RS K B F H Y U fps->E.ct U->Z.ct Y H
 rt:∀ {F H:Hp} {Y:_2.St} {U:DSt} {fps:Nat->List Addr} {v:V} {r:T} {fpr:List Addr},Res K B F H Y U fps v r fpr->E.rt r U->Z.rt v H
noncomputable def RfS (K:Fg) (ts:TS) (ds:DS):Prop:=∀ {B:Bs} {F H:Hp} {Y:_2.St} {U:DSt} {fps:Nat->List Addr} {E:DEnds} {Z:Ends},RS K B F H Y U fps->ds E U->En K B E Z->ts Z Y H
section
variable {K:Fg} {te ta ti:TE} {de da di:DE} {dc:DC} {tt:TT} {dt:DT} {t u tb:TS} {d e db:DS} {tA:TA} {dA:DF} {g:TG} {dg:DG} {n:Nat} {dp:DP}
def cE (de:DE):DC:=λ U Q=>de U λ d=>Q (.fz d) U
theorem RfE.c (h:RfE K te de):RfC K te (cE de):=by
 intro B F H Y U fps Qd Q r hd k;exact h r.fh r.rv hd λ d q v F1 H1 e1 i1=>k _ _ q v F1 H1 fps [] ⟨r.grow e1,.fz i1,.nil,λ a ha=>by simp at ha,λ _ _ _ _ a _ ha=>by simp at ha⟩
def cF (df:DF):DC:=λ U Q=>df U λ ds=>Q (.li ds) U
theorem RfF.c (h:RfF K te df):RfC K te (cF df):=by
 intro B F H Y U fps Qd Q r hd k;refine h r.fh r.rv hd λ ds q a xs F1 H1 e1 hn h1 h2 h3=>k _ _ q (.ref a) F1 H1 fps [a] ⟨r.grow e1,.li h1 h2 h3,by simp,λ b hb=>?_,λ j s ej hs b hb hb2=>?_⟩
 ·simp at hb;subst hb;by_cases z:B.H0 b=none
  ·exact z
  ·exact absurd hn ((r.al b).1 z)
 ·simp at hb2;subst hb2;obtain ⟨x,t,a1,a2,a3,a4,a5⟩:=r.rt j s ej hs;exact (a3.dom b hb).1 hn
def slot:T->Sl
|.fz d=>.sh d
|t=>.ow t
theorem Res.set {B:Bs} {F H:Hp} {Y:_2.St} {U:DSt} {fps:Nat->List Addr} {v:V} {r:T} {fpr:List Addr} (h:Res K B F H Y U fps v r fpr) (i:Nat):∃ fps',RS K B F H (Y.set i (some v)) (U.set i (slot r)) fps':=by
 cases r with
|fz d=>cases h.rt with
 |fz hi=>exact ⟨_,h.rs.setS hi⟩
|li ds=>exact ⟨_,h.rs.setT h.rt h.nd h.fr h.dj⟩
|ls ds=>exact ⟨_,h.rs.setT h.rt h.nd h.fr h.dj⟩
|ob C ds=>exact ⟨_,h.rs.setT h.rt h.nd h.fr h.dj⟩
|dk ds=>exact ⟨_,h.rs.setT h.rt h.nd h.fr h.dj⟩
|dt ds=>exact ⟨_,h.rs.setT h.rt h.nd h.fr h.dj⟩
|tp ds=>exact ⟨_,h.rs.setT h.rt h.nd h.fr h.dj⟩
|wh=>exact ⟨_,h.rs.setT h.rt h.nd h.fr h.dj⟩
def zm51:DS:=λ E U=>E.nx U
theorem zj1:RfS K zjb1 zm51:=λ r h k=>k.nx r h
def dSeq (a b:DS):DS:=λ E U=>∃ J:DSt->Prop,a { E with nx:=J } U/\∀ U',J U'->b E U'
theorem zm0 (h1:RfS K t d) (h2:RfS K u e):RfS K (tSeq t u) (dSeq d e):=by
 intro B F H Y U fps E Z r h k;obtain ⟨J,ha,hb⟩:=h;exact h1 r ha ⟨λ r' q=>h2 r' (hb _ q) k,k.bk,k.ct,k.rt⟩
def dAsg (de:DE) (dg:DG):DS:=λ E U=>de U λ d=>dg d U E.nx
theorem zh1 (he:RfE K te de) (hg:RfG K n g dg):RfS K (tAsg te g) (dAsg de dg):=by
 intro B F H Y U fps E Z r h k;exact he r.fh r.rv h λ d hd v F1 H1 e1 i1=>hg e1.fh i1 hd λ Y' U' q u=>k.nx ((r.grow e1).byUpd u) q
def dSet (i:Nat) (dc:DC):DS:=λ E U=>dc U λ r U'=>E.nx (U'.set i (slot r))
theorem ze3 (hc:RfC K te dc):RfS K (tAsg te (zqp i)) (dSet i dc):=by
 intro B F H Y U fps E Z r h k;refine hc r h λ r2 U' q v F1 H1 fps1 fpr res=>?_;obtain ⟨fps2,r3⟩:=res.set i;exact k.nx r3 q
def zxb1 (dc:DC):DS:=λ E U=>dc U λ _ U'=>E.nx U'
theorem zc2 (hc:RfC K te dc):RfS K (znc1 te) (zxb1 dc):=by
 intro B F H Y U fps E Z r h k;exact hc r h λ r2 U' q v F1 H1 fps1 fpr res=>k.nx res.rs q
def dRet (dc:DC):DS:=λ E U=>dc U E.rt
theorem zg1 (hc:RfC K te dc):RfS K (tRet te) (dRet dc):=by
 intro B F H Y U fps E Z r h k;exact hc r h λ r2 U' q v F1 H1 fps1 fpr res=>k.rt res q
def zx51 (i:Nat):DS:=λ E U=>match U[i]? with
|some (.ow t)=>E.rt t (U.set i .un)
|some (.sh d)=>E.rt (.fz d) U
|_=>False
theorem zj9:RfS K (tRet (tVar i)) (zx51 i):=by
 intro B F H Y U fps E Z r h k;unfold zx51 at h;split at h
 ·rename_i t q
  obtain ⟨x,t',a1,a2,a3,a4,a5⟩:=r.rt i _ q rfl;cases a2;refine ⟨x,zt9 (F:=F) (H:=H) (U:=U) a1,k.rt ⟨r.forget i,a3,a5,λ a ha=>(r.fr i _ q rfl a ha).elim id λ z=>absurd rfl (z.2 t),λ j s ej hs a ha hb=>?_⟩ h⟩;rw [xE] at ej;by_cases hij:i=j
  ·subst hij;split at ej
   ·split at ej
    ·cases ej;cases hs
    ·cases ej
   ·rename_i z;exact absurd rfl z
  ·simp [hij] at ej;exact r.dj i j _ s hij q ej rfl hs a hb ha
 ·rename_i d q
  obtain ⟨x,h1,h2⟩:=r.sh i d q;exact ⟨x,zt9 (F:=F) (H:=H) (U:=U) h1,k.rt ⟨r,.fz h2,.nil,λ a ha=>by simp at ha,λ _ _ _ _ a _ ha=>by simp at ha⟩ h⟩
 ·exact h.elim
def zrb1:DS:=λ E U=>E.ct U
theorem zv31:RfS K zka1 zrb1:=λ r h k=>k.ct r h
def dIf (dt:DT) (d e:DS):DS:=λ E U=>dt U λ b=>if b=true then d E U else e E U
theorem zi8 (ht:RfT K tt dt) (h1:RfS K t d) (h2:RfS K u e):RfS K (tIfS tt t u) (dIf dt d e):=by
 intro B F H Y U fps E Z r h k;refine ht r.fh r.rv h λ b hb F1 H1 e1=>?_;cases b with
|true=>rw [if_pos rfl] at hb ⊢;exact h1 (r.grow e1) hb k
|false=>rw [if_neg vU] at hb ⊢;exact h2 (r.grow e1) hb k
noncomputable def dFor (di:DF) (dg:DG) (db:DS):DS:=λ E U=>di U λ items=>∃ W:Nat->DSt->Prop,W 0 U /\
 (∀ i d U',items[i]?=some d->W i U'->dg d U' λ U2=>db { E with nx:=W (i+1),ct:=W (i+1),bk:=E.nx } U2)/\∀ U',W items.length U'->E.nx U'
def Bs.rem (B:Bs) (F1:Hp):Bs:=⟨F1,B.H0,B.G⟩
theorem RS.rem {B:Bs} {F H F1:Hp} {Y:_2.St} {U:DSt} {fps:Nat->List Addr} (r:RS K B F H Y U fps) (s0:Same B.F0 F1) (s:Same F1 F):RS K (B.rem F1) F H Y U fps :=
 ⟨r.hh,s,r.fh,λ b hb fb=>r.nw b hb (by
  cases q:B.F0 b with
 |none=>rfl
 |some o=>rw [show (B.rem F1).F0 b=F1 b from rfl,s0 b o q] at fb;cases fb),r.al,r.len,r.sh,r.rt,r.fr,r.dj⟩
theorem RS.unrem {B:Bs} {F H F1:Hp} (r:RS K (B.rem F1) F H Y U fps) (s0:Same B.F0 F1) (n0:∀ b,HD (B.H0 b)->B.F0 b=none->F1 b=none):RS K B F H Y U fps :=
 ⟨r.hh,s0.trans r.ff,r.fh,λ b hb fb=>r.nw b hb (n0 b hb fb),r.al,r.len,r.sh,r.rt,r.fr,r.dj⟩
theorem zv4 {di:DF} (hi:RfI K wi di) (hg:RfG K n g dg) (hb:RfS K tb db):RfS K (tFor wi g tb) (dFor di dg db):=by
 intro B F H Y U fps E Z r h k;refine hi r.fh r.rv h λ items hx J F1 H1 e1 wj=>?_;obtain ⟨W,w0,ws,we⟩:=hx;have r1:=r.grow e1;have s0:=r1.ff;have n0:=r1.nw;refine ⟨λ i m Y' H'=>m=items.length - i/\i<=items.length/\∃ F' U' fps',RS K (B.rem F1) F' H' Y' U' fps'/\W i U',⟨items.length,rfl,wE _,F1,U,fps,r1.rem s0 (λ _ _ z=>z),w0⟩,?_⟩;rintro i m Y' H' ⟨rfl,hi',F',U',fps',r',w'⟩;obtain ⟨go,stop,yld⟩:=wj F' H' r'.ff r'.fh;by_cases hlt:i < items.length
 ·refine .inr ⟨go i hlt,λ Y2 H2=>i+1<=items.length/\∃ F2 U2 fps2,RS K (B.rem F1) F2 H2 Y2 U2 fps2/\W (i+1) U2,λ Y2 H2 p=>⟨_,by lia,rfl,p⟩,λ x H2 y=>?_⟩;have hit:items[i]?=some items[i]:=u7 hlt;obtain ⟨F2,ex2,ix2⟩:=yld i x H2 _ hit y;refine hg ex2.fh ix2 (ws i _ U' hit w') λ Y2 U2 hd2 u2=>?_;refine hb ((r'.grow ex2).byUpd u2) hd2 ⟨λ r3 q=>⟨hlt,_,_,_,r3,q⟩,λ r3 q=>k.nx (r3.unrem s0 n0) q,λ r3 q=>⟨hlt,_,_,_,r3,q⟩,λ res q=>k.rt ⟨res.rs.unrem s0 n0,res.rt,res.nd,res.fr,res.dj⟩ q⟩
 ·have e:i=items.length:=by lia
  subst e;exact .inl ⟨stop,k.nx (r'.unrem s0 n0) (we _ w')⟩
noncomputable def zq71 (dt:DT) (db:DS):DS:=λ E U=>∃ W:Nat->DSt->Prop,(∃ m,W m U)/\∀ m U',W m U'->dt U' λ b=>if b=true then db { E with nx:=λ U2=>∃ m',m' < m/\W m' U2,ct:=λ U2=>∃ m',m' < m/\W m' U2,bk:=E.nx } U' else E.nx U'
theorem zda (ht:RfT K tt dt) (hb:RfS K tb db):RfS K (zj41 tt tb) (zq71 dt db):=by
 intro B F H Y U fps E Z r h k;obtain ⟨W,⟨m0,w0⟩,ws⟩:=h;refine ⟨λ m Y' H'=>∃ F' U' fps',RS K B F' H' Y' U' fps'/\W m U',⟨m0,F,U,fps,r,w0⟩,?_⟩;rintro m Y' H' ⟨F',U',fps',r',w'⟩;refine ht r'.fh r'.rv (ws m U' w') λ b hb' F1 H1 e1=>?_;cases b with
|true =>
  rw [if_pos rfl] at hb' ⊢;refine ⟨λ Y2 H2=>∃ m',m' < m/\∃ F2 U2 fps2,RS K B F2 H2 Y2 U2 fps2/\W m' U2,λ Y2 H2 p=>p,hb (r'.grow e1) hb' ⟨λ r3 q=>?_,λ r3 q=>k.nx r3 q,λ r3 q=>?_,k.rt⟩⟩
  ·obtain ⟨m',h1,h2⟩:=q;exact ⟨m',h1,_,_,_,r3,h2⟩
  ·obtain ⟨m',h1,h2⟩:=q;exact ⟨m',h1,_,_,_,r3,h2⟩
|false =>
  rw [if_neg vU] at hb' ⊢;exact k.nx (r'.grow e1) hb'
noncomputable def mutS (U:DSt) (i:Nat) (p:Pth) (u:T) (N:DSt->Prop):Prop:=match U[i]? with
|some (.ow t)=>N (U.set i (.ow (setP t p u)))
|some (.io a t)=>N (U.set i (.io a (setP t p u)))
|_=>False
theorem RS.mut {B:Bs} {F H:Hp} {p:Pth} {v:V} {u u2:T} (r:RS K B F H Y U fps) (ha:AtS H Y U i p v u) (hm:mutS U i p u2 N) :
  ∃ fn,Rt K F H v u fn/\fn.Nodup/\(∀ a∈fn,a∈fps i)/\∀ {F2 H2:Hp} {fq:List Addr},
   (∀ b o,b ∉ fn->H b=some o->H2 b=some o)->Same F F2->Same F2 H2->(∀ b,HD (H b)->F b=none->b ∉ fn->F2 b=none)->(∀ b,(H b≠none->H2 b≠none)/\(HD (H b)->HD (H2 b)))->(∀ b∈fn,F2 b≠none->B.H0 b=none) ->
   Rt K F2 H2 v u2 fq->fq.Nodup->(∀ b∈fq,b∈fn \/ zz41 B U fps b)->∃ U2 fps2,RS K B F2 H2 Y U2 fps2/\N U2/\(∀ j,j≠i->fps2 j=fps j/\U2[j]?=U[j]?)/\(∀ b∈fps2 i,b∈fps i \/ b∈fq)/\(∃ s,U[i]?=some s/\s.own=true):=by
 obtain ⟨s,hi,ho,hN⟩:∃ s,U[i]?=some s/\s.own=true/\∀ t,s.tree=some t->N (U.set i (s.wth (setP t p u2))):=by
  unfold mutS at hm;split at hm
  ·rename_i t q
   exact ⟨_,q,rfl,λ t' e=>by cases e;exact hm⟩
  ·rename_i a t q
   exact ⟨_,q,rfl,λ t' e=>by cases e;exact hm⟩
  ·exact hm.elim
 obtain ⟨fn,t,h1,h2,h3,h4,h5⟩:=r.put hi ho ha;refine ⟨fn,h2,h3,h4,λ {F2 H2 fq} c1 c2 c3 c4 c5 c6 hu nq mq=>?_⟩;obtain ⟨fps2,r2,e2⟩:=h5 c1 c2 c3 c4 c5 c6 hu nq mq;refine ⟨_,fps2,r2,hN t h1,λ j hj=>⟨e2.1 j hj,?_⟩,e2.2,s,hi,ho⟩;rw [xC (λ z=>hj z.symm)]
theorem RS.one {B:Bs} {F H:Hp} {p:Pth} {u u2:T} {o2:HO} (r:RS K B F H Y U fps) (ha:AtS H Y U i p (.ref a) u) (hm:mutS U i p u2 N) (ho:H a=some o)
  (hu:∀ fn,Rt K F H (.ref a) u fn->fn=[a]) (h2:F a=none->Rt K F (upd H a o2) (.ref a) u2 [a]):∃ U2 fps2,RS K B F (upd H a o2) Y U2 fps2/\N U2/\(∀ j,j≠i->fps2 j=fps j/\U2[j]?=U[j]?):=by
 obtain ⟨fn,hr,nd,sub,back⟩:=r.mut ha hm;have e:=hu fn hr;subst e;have fa:F a=none:=(hr.dom a (by simp)).2;obtain ⟨U2,fps2,g1,g2,g3,_⟩:=back (F2:=F) (H2:=upd H a o2) (fq:=[a]) (λ b o' hb ho'=>by rw [zr0 (λ z=>hb (by simp [z]))];exact ho') (λ _ _ z=>z) (λ b o' z=>by
   have:b≠a:=λ w=>by subst w;rw [fa] at z;cases z
   rw [zr0 this];exact r.fh b o' z) (λ b _ fb _=>fb) (zl21 ((h2 fa).hdd a (by simp))) (λ b hb f=>by simp at hb;subst hb;exact absurd fa f) (h2 fa) (by simp) (λ b hb=>.inl hb)
 exact ⟨U2,fps2,g1,g2,g3⟩
abbrev FM:=T->List D->(T->D->Prop)->Prop
noncomputable def MO (K:Fg) (r:V->List V->Hp->VK->Prop) (f:FM):Prop:=∀ {F H:Hp} {v:V} {u:T} {fn:List Addr} {vs:List V} {ds:List D} {Kd:T->D->Prop} {Q:VK},Same F H->Rt K F H v u fn->IsAll K F vs ds->f u ds Kd ->
 ∃ u2 d y o o2 a,Kd u2 d/\v=.ref a/\fn=[a]/\H a=some o/\Is K F y d/\Rt K F (upd H a o2) (.ref a) u2 [a]/\(Q y (upd H a o2)->r v vs H Q)
def tyN (T:String):_4.T->Prop
|.li _=>T = "list"
|.ls _=>T = "list"
|.dk _=>T = "dict"
|.dt _=>T = "dict"
|_=>False
theorem zd91 {F H:Hp} {T:String} {v:V} {u:_4.T} (h:Rt K F H v u fn) (k:tyN T u):tyV K T v H:=by
 cases h with
|fz _=>exact k.elim
|li h1 _ _=>exact .inl ⟨k,_,SqL.of h1⟩
|ls h1 _ _=>exact .inl ⟨k,_,SqL.of h1⟩
|ob _ _ _ _ _=>exact k.elim
|tp _ _ _ _=>exact k.elim
|wh=>exact k.elim
|dk h1 _ _=>exact .inr (.inr (.inl ⟨k,.inl ⟨_,h1⟩⟩))
|dt h1 _ _=>exact .inr (.inr (.inl ⟨k,.inr ⟨_,h1⟩⟩))
theorem zdb1 {F H:Hp} {v:V} {u:T} {fn:List Addr} {r:V->List V->Hp->VK->Prop} {f:FM} (hm:MO K r f) {ds:List D} {Kd:T->D->Prop} {B:Bs} {p:Pth} {Qd:T->DSt->Prop} {Q:VK}
  (rs:RS K B F H Y U fps) (ha:AtS H Y U i p v u) (hv:IsAll K F vs ds) (hf:f u ds λ u2 d=>mutS U i p u2 λ U'=>Qd (.fz d) U')
  (k:∀ r U',Qd r U'->∀ v F' H' fps' fpr,Res K B F' H' Y U' fps' v r fpr->Q v H'):r v vs H Q:=by
 obtain ⟨fn,hr⟩:=ha.rt rs.rv;obtain ⟨u2,d,y,o,o2,a,kd,rfl,e2,h3,h4,h5,h6⟩:=hm (Q:=Q) rs.fh hr hv hf;refine h6 ?_;obtain ⟨U2,fps2,r2,q2,_⟩:=rs.one ha kd h3 (λ fn' hr'=>by
  obtain ⟨_,_,_,_,_,a',_,e1,e2',_⟩:=hm (Q:=Q) rs.fh hr' hv hf;cases e1;exact e2') (λ _=>h5)
 exact k _ _ q2 _ _ _ fps2 [] ⟨r2,.fz h4,.nil,λ a ha=>by simp at ha,λ _ _ _ _ a _ ha=>by simp at ha⟩
def cBM (ty:String) (f:FM) (dp:DP) (dA:DF):DC:=λ U Q=>dp U λ i p u=>tyN ty u/\dA U λ ds=>f u ds λ u2 d=>mutS U i p u2 λ U'=>Q (.fz d) U'
theorem zbg {T:String} {r:V->List V->Hp->VK->Prop} {f:FM} (hm:MO K r f) (hp:RfP K te dp) (hA:RfA K tA dA):RfC K (tBMU K T r te tA) (cBM T f dp dA):=by
 intro B F H Y U fps Qd Q rs hd k;refine hp rs.fh rs.rv hd λ i p u hu v F1 H1 e1 at1=>?_;have r1:=rs.grow e1;obtain ⟨fn,hr⟩:=at1.rt r1.rv;refine ⟨zd91 hr hu.1,hA e1.fh r1.rv hu.2 λ ds hds vs F2 H2 e2 i2=>?_⟩;exact zdb1 hm (fn:=fn) (Kd:=λ _ _=>True) (r1.grow e2) (at1.mono e2.h) i2 hds k
def cBM0 (ty:String) (f:FM) (dp:DP):DC:=λ U Q=>dp U λ i p u=>tyN ty u/\f u [] λ u2 d=>mutS U i p u2 λ U'=>Q (.fz d) U'
theorem ztv {T:String} {r:V->List V->Hp->VK->Prop} {f:FM} (hm:MO K r f) (hp:RfP K te dp):RfC K (zmc1 K T r te) (cBM0 T f dp):=by
 intro B F H Y U fps Qd Q rs hd k;refine hp rs.fh rs.rv hd λ i p u hu v F1 H1 e1 at1=>?_;have r1:=rs.grow e1;obtain ⟨fn,hr⟩:=at1.rt r1.rv;exact ⟨zd91 hr hu.1,zdb1 hm (fn:=fn) (Kd:=λ _ _=>True) r1 at1 .nil hu.2 k⟩
def mApp:FM:=λ u ds N=>match u,ds with
|.li xs,[d]=>xs.length < sizeLine/\N (.li (xs++[d])) .none
|_,_=>False
theorem zia:MO K zes mApp:=by
 intro F H v u fn vs ds Kd Q s hr hv hf;unfold mApp at hf;split at hf
 ·obtain ⟨y,rfl,iy⟩:=all1 hv;cases hr with
 |li h1 h2 h3 =>
   have el:=h3.dlen;exact ⟨_,_,.non,_,.lst (_++[y]),_,hf.2,rfl,rfl,h1,.non,.li zn0 h2 (h3.dapp (.cons iy .nil)),λ q=>⟨_,_,y,rfl,rfl,h1,by lia,q⟩⟩
 ·exact hf.elim
def mExt:FM:=λ u ds N=>match u,ds with
|.li xs,[.list es]=>xs.length+es.length<=sizeLine/\N (.li (xs++es)) .none
|_,_=>False
theorem zpp:MO K (znn K) mExt:=by
 intro F H v u fn vs ds Kd Q s hr hv hf;unfold mExt at hf;split at hf
 ·obtain ⟨y,rfl,iy⟩:=all1 hv;obtain ⟨b,ys,rfl,g1,g2⟩:=iy.list_inv;cases hr with
 |li h1 h2 h3 =>
   have el:=h3.dlen;have el2:=g2.dlen;exact ⟨_,_,.non,_,.lst (_++ys),_,hf.2,rfl,rfl,h1,.non,.li zn0 h2 (h3.dapp g2),λ q=>⟨_,b,_,ys,rfl,rfl,h1,s.seq g1,by lia,q⟩⟩
 ·exact hf.elim
def znw:FM:=λ u ds N=>match u,ds with
|.li xs,[]=>N (.li []) .none
|_,_=>False
def mPop:FM:=λ u ds N=>match u,ds with
|.li xs,[]=>∃ d,xs[xs.length - 1]?=some d/\N (.li xs.dropLast) d
|_,_=>False
theorem zdh {F:Hp} {ds:List D} (h:IsAll K F xs ds):IsAll K F xs.dropLast ds.dropLast:=by
 rw [j3,j3,h.dlen];exact h.dtake _
theorem zew:MO K rPop mPop:=by
 intro F H v u fn vs ds Kd Q s hr hv hf;unfold mPop at hf;split at hf
 ·cases hv;cases hr with
 |li h1 h2 h3 =>
   obtain ⟨d,ed,q⟩:=hf;obtain ⟨y,hy,iy⟩:=h3.dget ed;have el:=h3.dlen;rw [<- el] at hy;exact ⟨_,_,y,_,.lst _,_,q,rfl,rfl,h1,iy,.li zn0 h2 (zdh h3),λ q=>⟨_,_,y,rfl,rfl,h1,hy,q⟩⟩
 ·exact hf.elim
end
section
variable {K:Fg} {te ta ti tv:TE} {de da di dk:DE} {dc:DC} {tt:TT} {dt:DT} {t u tb:TS} {d e db:DS} {tA:TA} {dA:DF} {g:TG} {dg:DG} {n:Nat} {dp:DP} {w:World}
def keyD:D->Option Key
|.int i=>some (.inl i)
|.str x=>some (.inr x)
|_=>none
theorem zlg {F:Hp} {v:V} {d:D} {k:Key} (h:Is K F v d) (e:keyD d=some k):v=kV k:=by
 cases h <;> simp [keyD] at e <;> subst e <;> rfl
def zuk:List D->Option (List Key)
|[]=>some []
|d :: ds=>match keyD d,zuk ds with
 |some k,some ks=>some (k :: ks)
 |_,_=>none
def keyT:D->Option (List Key)
|.tuple ds=>zuk ds
|_=>none
theorem zqa {F:Hp}:∀ {xs:List V} {ds:List D} {k:List Key},IsAll K F xs ds->zuk ds=some k->xs=k.map kV/\ds.all zv11=true
|_,_,_,.nil,e=>by simp [zuk] at e;subst e;exact ⟨rfl,rfl⟩
|_,_,_,.cons (d:=d) h r,e=>by
  unfold zuk at e;split at e
  ·rename_i k ks h1 h2
   cases e;obtain ⟨e1,e2⟩:=zqa r h2;have:=zlg h h1;rw [vW,this,e1,z6,e2];refine ⟨rfl,?_⟩;cases d <;> simp [keyD] at h1 <;> rfl
  ·cases e
theorem zwi {F:Hp} {v:V} {d:D} {k:List Key} (h:Is K F v d) (e:keyT d=some k):∃ b,v=.ref b/\F b=some (.tup (k.map kV)):=by
 cases h with
|tup h1 h2 =>
  obtain ⟨e1,_⟩:=zqa h2 e;subst e1;exact ⟨_,rfl,h1⟩
|tuc h1 h2 h3 =>
  obtain ⟨_,e2⟩:=zqa h2 e;rw [e2] at h3;cases h3
|_=>simp [keyT] at e
def getA {κ:Type} [DecidableEq κ] (kvs:List (κ×D)) (k:κ):Option D:=(kvs.find? λ kv=>decide (kv.1=k)).map (·.2)
noncomputable def putD {κ:Type} [DecidableEq κ] (kvs:List (κ×D)) (k:κ) (d:D):List (κ×D) :=
 if (kvs.any λ kv=>decide (kv.1=k))=true then kvs.map (λ kv=>if kv.1=k then (kv.1,d) else kv) else kvs++[(k,d)]
theorem KvIs.len {F:Hp} {κ:Type}:∀ {r:List (κ×V)} {s:List (κ×D)},KvIs K F r s->r.length=s.length
|_,_,.nil=>rfl
|_,_,.cons _ r=>congrArg (·+1) (KvIs.len r)
theorem KvIs.get {F:Hp} {κ:Type} [DecidableEq κ] {k:κ}:∀ {r:List (κ×V)} {s:List (κ×D)},KvIs K F r s->(getA s k=none/\valV r k=none) \/ ∃ d v,getA s k=some d/\valV r k=some v/\Is K F v d
|_,_,.nil=>.inl ⟨rfl,rfl⟩
|_,_,.cons (k:=k') (v:=v) (d:=d) h r=>by
  by_cases e:k'=k
  ·exact .inr ⟨d,v,by simp [getA,e],by simp [valV,e],h⟩
  ·rcases KvIs.get (k:=k) r with ⟨h1,h2⟩|⟨d',v',h1,h2,h3⟩
   ·exact .inl ⟨by simp [getA,e];simpa [getA] using h1,by simp [valV,e];simpa [valV] using h2⟩
   ·refine .inr ⟨d',v',?_,?_,h3⟩
    ·simp [getA,e];simpa [getA] using h1
    ·simp [valV,e];simpa [valV] using h2
theorem KvIs.any {F:Hp} {κ:Type} [DecidableEq κ] {k:κ}:∀ {r:List (κ×V)} {s:List (κ×D)},KvIs K F r s->(r.any λ kv=>decide (kv.1=k))=(s.any λ kv=>decide (kv.1=k))
|_,_,.nil=>rfl
|_,_,.cons _ r=>by rw [xT,xT,KvIs.any r]
theorem KvIs.app {F:Hp} {κ:Type}:∀ {r r':List (κ×V)} {s s':List (κ×D)},KvIs K F r s->KvIs K F r' s'->KvIs K F (r++r') (s++s')
|_,_,_,_,.nil,h=>h
|_,_,_,_,.cons h r,h'=>.cons h (r.app h')
theorem KvIs.map {F:Hp} {κ:Type} [DecidableEq κ] {k:κ} {v:V} {d:D} (hv:Is K F v d):∀ {r:List (κ×V)} {s:List (κ×D)},KvIs K F r s->KvIs K F (r.map λ kv=>if kv.1=k then (kv.1,v) else kv) (s.map λ kv=>if kv.1=k then (kv.1,d) else kv)
|_,_,.nil=>.nil
|_,_,.cons (k:=k') h r=>by
  by_cases e:k'=k
  ·simp only [vW,e,if_true];exact .cons hv (r.map hv)
  ·simp only [vW,e,if_false];exact .cons h (r.map hv)
theorem KvIs.put {F:Hp} {κ:Type} [DecidableEq κ] {k:κ} {v:V} {d:D} (hv:Is K F v d) {r:List (κ×V)} {s:List (κ×D)} (h:KvIs K F r s):KvIs K F (putK r k v) (putD s k d):=by
 unfold putK putD;rw [h.any];split
 ·exact h.map hv
 ·exact h.app (.cons hv .nil)
noncomputable def fPut (u:T) (k d:D) (N:T->Prop):Prop:=match u with
|.li ds=>match k with
 |.int z=>∃ j,ixN ds.length z=some j/\N (.li (ds.set j d))
 |_=>False
|.dk kvs=>∃ key,keyD k=some key/\kvs.length < sizeLine/\N (.dk (putD kvs key d))
|.dt kvs=>∃ key,keyT k=some key/\kvs.length < sizeLine/\N (.dt (putD kvs key d))
|_=>False
theorem zzy {B:Bs} {F H:Hp} {p:Pth} {v:V} {u:T} {k d:D} {Q:Hp->Prop} (rs:RS K B F H Y U fps) (ha:AtS H Y U i p v u) (hk:Is K F kv k) (hy:Is K F y d)
  (hf:fPut u k d λ u2=>mutS U i p u2 N) (q:∀ U2 fps2 H2,RS K B F H2 Y U2 fps2->N U2->Q H2):zv51 v kv y H Q:=by
 obtain ⟨fn,hr⟩:=ha.rt rs.rv;cases hr with
|li h1 h2 h3 =>
  simp only [fPut] at hf;split at hf
  ·rename_i z
   obtain ⟨j,ej,hm⟩:=hf;cases hk.int_inv;have el:=h3.dlen;obtain ⟨U2,fps2,r2,n2,_⟩:=rs.one (o2:=.lst (_)) ha hm h1 (λ fn' hr'=>by cases hr';rfl) (λ fa=>.li zn0 fa (h3.dset hy j));exact .inl ⟨_,_,z,j,rfl,rfl,h1,by rw [el];exact ej,q _ _ _ r2 n2⟩
  ·exact hf.elim
|dk h1 h2 h3 =>
  simp only [fPut] at hf;obtain ⟨key,ek,hl,hm⟩:=hf;have:=zlg hk ek;subst this;have el:=h3.len;obtain ⟨U2,fps2,r2,n2,_⟩:=rs.one (o2:=.dK _) ha hm h1 (λ fn' hr'=>by cases hr';rfl) (λ fa=>.dk zn0 fa (h3.put (k:=key) hy));exact .inr ⟨_,_,rfl,DPut.k h1 (by lia),q _ _ _ r2 n2⟩
|fz _=>exact hf.elim
|ls _ _ _=>exact hf.elim
|ob _ _ _ _ _=>exact hf.elim
|tp _ _ _ _=>exact hf.elim
|wh=>exact hf.elim
|dt h1 h2 h3 =>
  simp only [fPut] at hf;obtain ⟨key,ek,hl,hm⟩:=hf;obtain ⟨kb,rfl,hb⟩:=zwi hk ek;have el:=h3.len;obtain ⟨U2,fps2,r2,n2,_⟩:=rs.one (o2:=.dT _) ha hm h1 (λ fn' hr'=>by cases hr';rfl) (λ fa=>.dt zn0 fa (h3.put (k:=key) hy));exact .inr ⟨_,_,rfl,DPut.t h1 (rs.fh _ _ hb) (by lia),q _ _ _ r2 n2⟩
def dPut (dp:DP) (dk de:DE):DS:=λ E U=>de U λ d=>dp U λ i p u=>dk U λ k=>fPut u k d λ u2=>mutS U i p u2 E.nx
theorem zw21 (he:RfE K te de) (hp:RfP K ta dp) (hk:RfE K ti dk):RfS K (tAsg te (gSub ta ti zv51)) (dPut dp dk de):=by
 intro B F H Y U fps E Z r h k;refine he r.fh r.rv h λ d hd y F1 H1 e1 i1=>?_;have r1:=r.grow e1;refine hp r1.fh r1.rv hd λ i p u hu v F2 H2 e2 at2=>?_;have r2:=r1.grow e2;refine hk r2.fh r2.rv hu λ kd hkd kv F3 H3 e3 i3=>?_;exact zzy (r2.grow e3) (at2.mono e3.h) i3 (i1.mono (e2.f.trans e3.f)) hkd λ U2 fps2 H4 r4 n4=>k.nx r4 n4
noncomputable def fGet (u:T) (k:D) (Q:D->Prop):Prop:=match u with
|.li ds=>match k with
 |.int z=>0<=z/\∃ d,ds[z.toNat]?=some d/\Q d
 |_=>False
|.dk kvs=>∃ key d,keyD k=some key/\getA kvs key=some d/\Q d
|.dt kvs=>∃ key d,keyT k=some key/\getA kvs key=some d/\Q d
|_=>False
theorem zl41 {F H:Hp} {v:V} {u:T} {k:D} {Qd:D->Prop} {Q:VK} (s:Same F H) (hr:Rt K F H v u fn) (hk:Is K F kv k) (hf:fGet u k Qd) (q:∀ d y,Qd d->Is K F y d->Q y H):zy51 K v kv H Q:=by
 cases hr with
|li h1 h2 h3 =>
  simp only [fGet] at hf;split at hf
  ·rename_i z
   obtain ⟨z0,d,ed,qd⟩:=hf;cases hk.int_inv;obtain ⟨y,hy,iy⟩:=h3.dget ed;exact .inl ⟨_,_,z,y,rfl,rfl,z0,SqL.of h1,hy,q d y qd iy⟩
  ·exact hf.elim
|dk h1 h2 h3 =>
  simp only [fGet] at hf;obtain ⟨key,d,ek,ed,qd⟩:=hf;have:=zlg hk ek;subst this;rcases h3.get (k:=key) with ⟨g1,_⟩|⟨d',y,g1,g2,g3⟩
  ·rw [g1] at ed;cases ed
  ·rw [g1] at ed;cases ed;exact .inr ⟨_,y,rfl,by rw [<- g2];exact DGet.k h1,q d y qd g3⟩
|fz _=>exact hf.elim
|ls _ _ _=>exact hf.elim
|ob _ _ _ _ _=>exact hf.elim
|tp _ _ _ _=>exact hf.elim
|wh=>exact hf.elim
|dt h1 h2 h3 =>
  simp only [fGet] at hf;obtain ⟨key,d,ek,ed,qd⟩:=hf;obtain ⟨kb,rfl,hb⟩:=zwi hk ek;rcases h3.get (k:=key) with ⟨g1,_⟩|⟨d',y,g1,g2,g3⟩
  ·rw [g1] at ed;cases ed
  ·rw [g1] at ed;cases ed;exact .inr ⟨_,y,rfl,by rw [<- g2];exact DGet.t h1 (s _ _ hb),q d y qd g3⟩
def fII (f:Int->Int->Int) (x y:D) (Q:D->Prop):Prop:=match x,y with
|.int i,.int j=>Q (.int (f i j))
|_,_=>False
noncomputable def zwa1 (f:Int->Int->Int) (dp:DP) (dk de:DE):DS:=λ E U=>dp U λ i p u=>dk U λ k=>fGet u k λ x=>de U λ y=>fII f x y λ z=>fPut u k z λ u2=>mutS U i p u2 E.nx
theorem zbc {f:Int->Int->Int} (hp:RfP K ta dp) (hk:RfE K ti dk) (he:RfE K te de):RfS K (zhb1 ta ti te (zy51 K) (ipI f) zv51) (zwa1 f dp dk de):=by
 intro B F H Y U fps E Z r h k;refine hp r.fh r.rv h λ i p u hu v F1 H1 e1 at1=>?_;have r1:=r.grow e1;refine hk r1.fh r1.rv hu λ kd hkd kv F2 H2 e2 i2=>?_;have r2:=r1.grow e2;have at2:=at1.mono e2.h;obtain ⟨fn,hr⟩:=at2.rt r2.rv;refine zl41 r2.fh hr i2 hkd λ x xv hx ix=>he r2.fh r2.rv hx λ y hy yv F3 H3 e3 i3=>?_;unfold fII at hy;split at hy
 ·cases ix.int_inv;cases i3.int_inv;refine ⟨_,_,rfl,rfl,?_⟩;exact zzy (r2.grow e3) (at2.mono e3.h) (i2.mono e3.f) (.int _) hy λ U2 fps2 H4 r4 n4=>k.nx r4 n4
 ·exact hy.elim
noncomputable def dAug (i:Nat) (f:Int->Int->Int) (de:DE):DS:=λ E U=>match U[i]? with
|some (.sh x)=>de U λ y=>fII f x y λ z=>E.nx (U.set i (.sh z))
|_=>False
theorem zy01 {f:Int->Int->Int} (he:RfE K te de):RfS K (tAug i te (ipI f)) (dAug i f de):=by
 intro B F H Y U fps E Z r h k;unfold dAug at h;split at h
 ·rename_i x q
  obtain ⟨v,e0,i0⟩:=r.sh i _ q;refine ⟨_,zt9 (F:=F) (H:=H) (U:=U) e0,he r.fh r.rv h λ d hd v2 F1 H1 e1 i1=>?_⟩;unfold fII at hd;split at hd
  ·cases i0.int_inv;cases i1.int_inv;exact ⟨_,_,rfl,rfl,k.nx ((r.grow e1).setS (.int _)) hd⟩
  ·exact hd.elim
 ·exact h.elim
def nGet (dp:DP) (dk:DE):DE:=λ U Q=>dp U λ _ _ u=>dk U λ k=>fGet u k Q
theorem zhj (hp:RfP K ta dp) (hk:RfE K ti dk):RfE K (tOp (rIxV w K) ta ti) (nGet dp dk):=by
 intro F H Y U Qd Q s rv h k;refine hp s rv h λ i p u hu v F1 H1 e1 at1=>hk e1.fh (rv.ext e1) hu λ kd hkd kv F2 H2 e2 i2=>?_;have e12:=e1.trans e2;obtain ⟨fn,hr⟩:=(at1.mono e2.h).rt (rv.ext e12);rcases zl41 (Q:=Q) e12.fh hr i2 hkd λ d y qd iy=>k d qd y F2 H2 e12 iy with ⟨a,xs,j,y,rfl,rfl,j0,h1,h2,q⟩|q
 ·exact .inl (.inl (.inl ⟨a,xs,j,y,rfl,rfl,h1,at_nat' j0 h2,q⟩))
 ·exact .inr q
theorem zrj {F H:Hp} {p:Addr} (s:Same F H) (hn:H p=none):Ext F H F (upd H p o) :=
 ⟨zt1 hn _,λ _ _ z=>z,λ b o z=>zt1 hn _ b o (s b o z),λ _ _ z=>z⟩
noncomputable def fHas (neg:Bool) (u:T) (k:D) (Q:D->Prop):Prop:=match u with
|.dk kvs=>∃ key,keyD k=some key/\Q (.bool (if neg then !(getA kvs key).isSome else (getA kvs key).isSome))
|.dt kvs=>∃ key,keyT k=some key/\Q (.bool (if neg then !(getA kvs key).isSome else (getA kvs key).isSome))
|_=>False
def nIn (neg:Bool) (dk:DE) (dp:DP):DE:=λ U Q=>dk U λ k=>dp U λ _ _ u=>fHas neg u k Q
theorem zgz {F H:Hp} {v:V} {u:T} {k:D} {Qd:D->Prop} {neg:Bool} (s:Same F H) (hr:Rt K F H v u fn) (hk:Is K F kv k) (hf:fHas neg u k Qd):∃ a o,v=.ref a/\DGet H a kv o/\Qd (.bool (if neg then !o.isSome else o.isSome)):=by
 cases hr with
|dk h1 h2 h3 =>
  obtain ⟨key,ek,q⟩:=hf;have:=zlg hk ek;subst this;rcases h3.get (k:=key) with ⟨g1,g2⟩|⟨d',y,g1,g2,g3⟩
  ·rw [g1] at q;exact ⟨_,none,rfl,by rw [<- g2];exact DGet.k h1,q⟩
  ·rw [g1] at q;exact ⟨_,some y,rfl,by rw [<- g2];exact DGet.k h1,q⟩
|fz _=>exact hf.elim
|li _ _ _=>exact hf.elim
|ls _ _ _=>exact hf.elim
|ob _ _ _ _ _=>exact hf.elim
|tp _ _ _ _=>exact hf.elim
|wh=>exact hf.elim
|dt h1 h2 h3 =>
  obtain ⟨key,ek,q⟩:=hf;obtain ⟨kb,rfl,hb⟩:=zwi hk ek;rcases h3.get (k:=key) with ⟨g1,g2⟩|⟨d',y,g1,g2,g3⟩
  ·rw [g1] at q;exact ⟨_,none,rfl,by rw [<- g2];exact DGet.t h1 (s _ _ hb),q⟩
  ·rw [g1] at q;exact ⟨_,some y,rfl,by rw [<- g2];exact DGet.t h1 (s _ _ hb),q⟩
theorem zg61 (hk:RfE K ti dk) (hp:RfP K ta dp):RfE K (tOp (rInV w K) ti ta) (nIn false dk dp):=by
 intro F H Y U Qd Q s rv h k;refine hk s rv h λ kd hkd kv F1 H1 e1 i1=>hp e1.fh (rv.ext e1) hkd λ i p u hu v F2 H2 e2 at2=>?_;have e12:=e1.trans e2;obtain ⟨fn,hr⟩:=at2.rt (rv.ext e12);obtain ⟨a,o,rfl,g,q⟩:=zgz e12.fh hr (i1.mono e2.f) hu;exact .inr ⟨a,o,rfl,g,k _ q _ F2 H2 e12 (.bl _)⟩
theorem zqs (hk:RfE K ti dk) (hp:RfP K ta dp):RfE K (tOp (zzq w K) ti ta) (nIn true dk dp):=by
 intro F H Y U Qd Q s rv h k;refine hk s rv h λ kd hkd kv F1 H1 e1 i1=>hp e1.fh (rv.ext e1) hkd λ i p u hu v F2 H2 e2 at2=>?_;have e12:=e1.trans e2;obtain ⟨fn,hr⟩:=at2.rt (rv.ext e12);obtain ⟨a,o,rfl,g,q⟩:=zgz e12.fh hr (i1.mono e2.f) hu;exact .inr ⟨a,o,rfl,g,k _ q _ F2 H2 e12 (.bl _)⟩
def cDT:DC:=λ U Q=>Q (.dt []) U
theorem zed1:RfC K zg11 cDT:=by
 intro B F H Y U fps Qd Q r hd k;intro p hp;have fn:F p=none:=by
  cases e:F p with
 |none=>rfl
 |some o=>rw [r.fh p o e] at hp;cases hp
 refine k _ _ hd (.ref p) F _ fps [p] ⟨r.grow (zrj r.fh hp),.dt zn0 fn .nil,by simp,λ b hb=>?_,λ j s ej hs b hb hb2=>?_⟩
 ·simp at hb;subst hb;by_cases z:B.H0 b=none
  ·exact z
  ·exact absurd hp ((r.al b).1 z)
 ·simp at hb2;subst hb2;obtain ⟨x,t,a1,a2,a3,a4,a5⟩:=r.rt j s ej hs;exact (a3.dom b hb).1 hp
abbrev DN:=DSt->(T->Prop)->Prop
noncomputable def RfN (K:Fg) (te:TE) (dn:DN):Prop:=∀ {F H:Hp} {Y:_2.St} {U:DSt} {Qd:T->Prop} {Q:VK},Same F H->RV K F H Y U->dn U Qd->(∀ r,Qd r->∀ v F' H' fp,Ext F H F' H'->Rt K F' H' v r fp->fp.Nodup->(∀ a∈fp,H a=none)->Q v H')->te Y H Q
def nF (df:DF):DN:=λ U Q=>df U λ ds=>Q (.li ds)
theorem RfF.new (h:RfF K te df):RfN K te (nF df):=λ s r d k=>h s r d λ ds q a xs F' H' e hn h1 h2 h3=>k _ q (.ref a) F' H' [a] e (.li h1 h2 h3) (by simp) λ b hb=>by simp at hb;subst hb;exact hn
def cN (dn:DN):DC:=λ U Q=>dn U λ r=>Q r U
theorem RfN.c {dn:DN} (h:RfN K te dn):RfC K te (cN dn):=by
 intro B F H Y U fps Qd Q r hd k;refine h r.fh r.rv hd λ r2 q v F1 H1 fp e1 hr nd fr=>k _ _ q v F1 H1 fps fp ⟨r.grow e1,hr,nd,λ a ha=>?_,λ j s ej hs b hb hb2=>?_⟩
 ·by_cases z:B.H0 a=none
  ·exact z
  ·exact absurd (fr a ha) ((r.al a).1 z)
 ·obtain ⟨x,t,a1,a2,a3,a4,a5⟩:=r.rt j s ej hs;exact (a3.dom b hb).1 (fr b hb2)
theorem RtAll.app {F H:Hp}:∀ {xs ys:List V} {ts us:List T} {fp fq:List Addr},RtAll K F H xs ts fp->RtAll K F H ys us fq->RtAll K F H (xs++ys) (ts++us) (fp++fq)
|_,_,_,_,_,_,.nil,h=>h
|_,_,_,_,_,_,.cons h r,h'=>by rw [wG];exact .cons h (r.app h')
noncomputable def zhc1 (di:DF) (n:Nat) (ix:List Nat) (dg:DG) (dn:DN):DN:=λ U Q=>di U λ items=>items.length<=sizeLine/\∃ R:Nat->T->Prop,
 (∀ i d,items[i]?=some d->dg d (cST n ix U) λ U'=>dn U' λ r=>R i r)/\∀ rs:List T,rs.length=items.length->(∀ (j:Nat) r,rs[j]?=some r->R j r)->Q (.ls rs)
theorem zxs {di:DF} {dn:DN} (hi:RfJ K wi di) (hg:RfG K n g dg) (he:RfN K te dn):RfN K (zx41 wi n ix g zl71 te) (zhc1 di n ix dg dn):=by
 intro F H Y U Qd Q s rv hd k;refine hi s rv hd λ items hx J F1 H1 e1 wj D hD=>?_;obtain ⟨hz,R,hR,hQ⟩:=hx;have rv1:=zm31 n ix (rv.ext e1);have F1D:F1 D=none:=by
  cases q:F1 D with
 |none=>rfl
 |some o=>rw [e1.fh D o q] at hD;cases hD
 refine ⟨λ i m acc Y' H'=>m=items.length - i/\i<=items.length/\Y'.length=(compY n ix Y).length/\(∀ j,n<=j->Y'.getD j none=(compY n ix Y).getD j none)/\∃ (F':Hp) (rs:List T) (fpA:List Addr),Ext F1 H1 F' H'/\F' D=none/\H' D=some (.lst acc)/\rs.length=i/\(∀ (j:Nat) r,rs[j]?=some r->R j r)/\RtAll K F' H' acc rs fpA/\fpA.Nodup/\(∀ a∈fpA,H1 a=none/\a≠D),
  ⟨items.length,rfl,wE _,rfl,λ _ _=>rfl,F1,[],[],?_,F1D,zn0,rfl,λ j o e=>by simp at e,.nil,.nil,λ a ha=>by simp at ha⟩,?_⟩
 ·exact (ze7 (xs:=[]) e1.fh hD).1
 rintro i m acc Y' H' ⟨rfl,hi',hl,hk,F',rs,fpA,ex,fD,hDD,hrs,hRs,hall,ndA,frA⟩;obtain ⟨go,stop,yld⟩:=wj F' H' ex;by_cases hlt:i < items.length
 ·refine .inr ⟨go i hlt,λ acc' Y2 H2=>i+1<=items.length/\Y2.length=(compY n ix Y).length/\(∀ j,n<=j->Y2.getD j none=(compY n ix Y).getD j none)/\∃ (F':Hp) (rs:List T) (fpA:List Addr),Ext F1 H1 F' H2/\F' D=none/\H2 D=some (.lst acc')/\rs.length=i+1/\(∀ (j:Nat) r,rs[j]?=some r->R j r)/\RtAll K F' H2 acc' rs fpA/\fpA.Nodup/\(∀ a∈fpA,H1 a=none/\a≠D),λ acc' Y2 H2 p=>⟨items.length - (i+1),by lia,rfl,p⟩,λ x H2 y=>?_⟩;have hit:items[i]?=some items[i]:=u7 hlt;obtain ⟨F2,ex2,ix2⟩:=yld i x H2 _ hit y;have rv2:RV K F2 H2 Y' (cST n ix U):=RV.caps (rv1.ext (ex.trans ex2)) hl hk;refine hg ex2.fh ix2 (hR i _ hit) λ Y2 U2 hd2 u2=>?_;have rv3:=u2.rv rv2;have kp:=u2.keep;have hl2:Y2.length=(compY n ix Y).length:=by rw [kp.1,hl]
  have hk2:∀ j,n<=j->Y2.getD j none=(compY n ix Y).getD j none:=λ j hj=>by rw [kp.2 j hj,hk j hj]
  show te Y2 H2 _;refine he ex2.fh rv3 hd2 λ r hr v F5 H5 fp e5 i5 nd5 fr5=>?_;have e25:=ex2.trans e5;have hD2:H2 D=some (.lst acc):=ex2.h _ _ hDD;have hD5:H5 D=some (.lst acc):=e25.h _ _ hDD;have fD5:F5 D=none:=e25.nwo hDD (λ _=>nofun) fD;have hlen:acc.length<=i:=by rw [hall.len,hrs];exact u6 _
  have e15:=ex.trans e25;have hall5:RtAll K F5 H5 acc rs fpA:=hall.frame e25.f λ a ha=>by
   obtain ⟨d1,d2⟩:=hall.dom a ha;cases q:H' a with
  |none=>exact absurd q d1
  |some o=>exact ⟨e25.h a o q,e25.nw a (hall.hdd a ha) d2⟩
  have frN:∀ a∈fp,H1 a=none/\a≠D:=λ a ha=>⟨zo2 (ex.trans ex2) (fr5 a ha),λ z=>by subst z;rw [fr5 a ha] at hD2;cases hD2⟩
  refine ⟨hD5,by lia,hlt,hl2,hk2,F5,rs++[r],fpA++fp,⟨λ b o hb=>?_,e15.f,λ b o hb=>?_,e15.nw⟩,fD5,zn0,by simp [hrs],λ j r' e=>?_,?_,?_,λ a ha=>?_⟩
  ·have:b≠D:=λ z=>by subst z;rw [hD] at hb;cases hb
   rw [zr0 this];exact e15.h b o hb
  ·have:b≠D:=λ z=>by subst z;rw [fD5] at hb;cases hb
   rw [zr0 this];exact e15.fh b o hb
  ·rcases k7 j rs.length with h|h|h
   ·rw [wN h] at e;exact hRs j r' e
   ·subst h;rw [wK (u6 _)] at e;simp at e;subst e;rw [hrs];exact hr
   ·rw [wK (xR h)] at e;cases q:j - rs.length with
   |zero=>lia
   |succ z=>rw [q] at e;simp at e
  ·have z1:RtAll K F5 (upd H5 D (.lst (acc++[v]))) acc rs fpA:=hall5.frame (λ _ _ z=>z) λ a ha=>⟨zr0 (frA a ha).2,(hall5.dom a ha).2⟩
   have z2:Rt K F5 (upd H5 D (.lst (acc++[v]))) v r fp:=i5.frame (λ _ _ z=>z) λ a ha=>⟨zr0 (frN a ha).2,(i5.dom a ha).2⟩
   have:=z1.app (RtAll.cons z2 .nil)
   rwa [wJ] at this
  ·refine wH.mpr ⟨ndA,nd5,λ a ha b hb z=>?_⟩;subst z;have:=(hall.dom a ha).1;exact this (zo2 ex2 (fr5 a hb))
  ·rcases vJ.mp ha with z|z
   ·exact frA a z
   ·exact frN a z
 ·have e:i=items.length:=by lia
  refine .inl ⟨by rw [e];exact stop,k _ (hQ rs (by lia) hRs) (.ref D) F' H' (D :: fpA) (e1.trans ex) (.ls hDD fD hall) (vX.mpr ⟨λ z=>(frA D z).2 rfl,ndA⟩) λ a ha=>?_⟩;rcases vL.mp ha with z|z
  ·rw [z];exact zo2 e1 hD
  ·exact zo2 e1 (frA a z).1
def nSet (f:Str) (u r:T) (N:T->Prop):Prop:=match u with
|.ob C fs=>fs.length < 1000/\N (.ob C (putA f r fs))
|_=>False
theorem Res.grow {B:Bs} {F H F' H':Hp} {Y:_2.St} {U:DSt} {fps:Nat->List Addr} {v:V} {r:T} {fpr:List Addr} (h:Res K B F H Y U fps v r fpr) (e:Ext F H F' H'):Res K B F' H' Y U fps v r fpr :=
 ⟨h.rs.grow e,h.rt.ext e,h.nd,h.fr,h.dj⟩
theorem zi61 {B:Bs} {F H:Hp} {r:T} {p:Pth} {fs:List (Str×V)} {ts:List (Str×T)}  
  (res:Res K B F H Y U fps y r fpr) (ha:AtS H Y U i p (.ref a) (.ob C ts)) (hH:H a=some (.ins C dx fs)) (hm:mutS U i p (.ob C (putA f r ts)) N):∃ U2 fps2,RS K B F (upd H a (.ins C dx (putF f y fs))) Y U2 fps2/\N U2:=by
 obtain ⟨fn,hr,nd,sub,back⟩:=res.rs.mut ha hm;obtain ⟨s,hs,ho⟩:∃ s,U[i]?=some s/\s.own=true:=by
  unfold mutS at hm;split at hm
  ·rename_i t q;exact ⟨_,q,rfl⟩
  ·rename_i a t q;exact ⟨_,q,rfl⟩
  ·exact hm.elim
 have dis:∀ b∈fn,b ∉ fpr:=λ b hb=>res.dj i s hs (zr6 ho) b (sub b hb);cases hr with
|ob g1 g2 g3 g4 g5 =>
  rename_i dx' fs' fp
  rw [hH] at g1;cases g1;have nd1:=vX.mp nd;have nd2:=vX.mp nd1.2;have na:a ∉ fp:=λ z=>nd1.1 (v8 _ z);have nx:dx≠a:=λ z=>nd1.1 (by rw [z];simp);have nxf:dx ∉ fp:=nd2.1;have dp':∀ b∈fp,b ∉ fpr:=λ b hb=>dis b (by simp [hb]);have ra:a ∉ fpr:=dis a (by simp);have rx:dx ∉ fpr:=dis dx (by simp);have hy:Rt K F (upd H a (.ins C dx (putF f y fs))) y r fpr:=res.rt.frame (λ _ _ z=>z) λ b hb=>⟨zr0 λ z=>by subst z;exact ra hb,(res.rt.dom b hb).2⟩
  have fr0:∀ b∈fp,upd H a (.ins C dx (putF f y fs)) b=H b/\F b=none:=λ b hb=>⟨zr0 λ z=>by subst z;exact na hb,(g5.dom b hb).2⟩
  obtain ⟨fq,hq,ndq,mq⟩:∃ fq,RtFs K F (upd H a (.ins C dx (putF f y fs))) (putF f y fs) (putA f r ts) fq/\fq.Nodup/\∀ b∈fq,b∈fp \/ b∈fpr:=by
   cases q:ts.lookup f with
  |none =>
    refine ⟨fp++fpr,RtFs.add (λ _ _ z=>z) hy g5 q fr0,wH.mpr ⟨nd2.2,res.nd,λ b hb c hc z=>?_⟩,λ b hb=>vJ.mp hb⟩;subst z;exact dp' b hb hc
  |some t0 =>
    obtain ⟨x0,ex⟩:=(g5.keys f).2.1 t0 q;obtain ⟨fA,fj,fB,e,hj,_,rep⟩:=g5.split ex q;subst e;obtain ⟨ndA,ndJB,djA⟩:=wH.mp nd2.2;obtain ⟨ndj,ndB,djB⟩:=wH.mp ndJB;refine ⟨fA++(fpr++fB),rep (λ _ _ z=>z) (λ b hb=>fr0 b (by rcases vJ.mp hb with z|z <;> simp [z])) hy,wH.mpr ⟨ndA,wH.mpr ⟨res.nd,ndB,λ b hb c hc z=>?_⟩,λ b hb c hc z=>?_⟩,λ b hb=>?_⟩
    ·subst z;exact dp' b (by simp [hc]) hb
    ·subst z;rcases vJ.mp hc with z|z
     ·exact dp' b (by simp [hb]) z
     ·exact djA b hb b (by simp [z]) rfl
    ·rcases vJ.mp hb with z|z
     ·exact .inl (by simp [z])
     ·rcases vJ.mp z with z|z
      ·exact .inr z
      ·exact .inl (by simp [z])
  obtain ⟨U2,fps2,r2,n2,_⟩:=back (F2:=F) (H2:=upd H a (.ins C dx (putF f y fs))) (fq:=a :: dx :: fq) (λ b o hb hbo=>by rw [zr0 (λ z=>hb (by simp [z]))];exact hbo) (λ _ _ z=>z) (λ b o z=>by
    have:b≠a:=λ q=>by subst q;rw [g3] at z;cases z
    rw [zr0 this];exact res.rs.fh b o z) (λ b _ fb _=>fb) (zl21 (.of zn0 λ _=>nofun)) (λ b hb hf=>by
    have:F b=none:=by
     rcases vL.mp hb with z|z
     ·rw [z];exact g3
     ·rcases vL.mp z with z|z
      ·rw [z];exact g4
      ·exact (g5.dom b z).2
    exact absurd this hf) (.ob zn0 (by rw [zr0 nx];exact g2) g3 g4 hq) (vX.mpr ⟨λ z=>by
    rcases vL.mp z with y|y
    ·exact nx y.symm
    ·rcases mq a y with y|y
     ·exact na y
     ·exact ra y,vX.mpr ⟨λ z=>by
    rcases mq dx z with y|y
    ·exact nxf y
    ·exact rx y,ndq⟩⟩) (λ b hb=>by
    rcases vL.mp hb with z|z
    ·exact .inl (by simp [z])
    ·rcases vL.mp z with z|z
     ·exact .inl (by simp [z])
     ·rcases mq b z with z|z
      ·exact .inl (by simp [z])
      ·exact .inr ⟨res.fr b z,λ j s' ej hs' hbj=>res.dj j s' ej hs' b hbj z⟩)
  exact ⟨U2,fps2,r2,n2⟩
def dFld (C:Addr) (f:Str) (dc:DC) (dp:DP):DS:=λ E U=>dc U λ r U1=>dp U1 λ i p u=>nCls C u/\nSet f u r λ u2=>mutS U1 i p u2 E.nx
theorem zfe (c:Cls K C) (na:NoAttr K C f) (hc:RfC K tv dc) (hp:RfP K ta dp):RfS K (sFld K ta tv f) (dFld C f dc dp):=by
 intro B F H Y U fps E Z r h k;refine hc r h λ r2 U1 q y F1 H1 fps1 fpr res=>hp res.rs.fh res.rs.rv q λ i p u hu v F2 H2 e2 at2=>?_;have res2:=res.grow e2;obtain ⟨fn,hr⟩:=at2.rt res2.rs.rv;cases hr with
|ob g1 g2 g3 g4 g5 =>
  obtain ⟨hcl,hl,hm⟩:=hu;cases (show _=C from hcl);have len:=(g5.keys f).2.2;obtain ⟨U2,fps2,r3,n3⟩:=zi61 res2 at2 g1 hm;exact ⟨_,_,_,_,rfl,g1,c,na,by lia,k.nx r3 n3⟩
|fz _=>exact hu.1.elim
|li _ _ _=>exact hu.1.elim
|ls _ _ _=>exact hu.1.elim
|dk _ _ _=>exact hu.1.elim
|dt _ _ _=>exact hu.1.elim
|tp _ _ _ _=>exact hu.1.elim
|wh=>exact hu.1.elim
def zxq:List T->Option (List (List D))
|[]=>some []
|.li ds :: r=>(zxq r).map (ds :: ·)
|_ :: _=>none
def toD:T->Option D
|.fz d=>some d
|.li ds=>some (.list ds)
|.ls ts=>(zxq ts).map λ dss=>.list (dss.map v5)
|_=>none
theorem zjr {F H:Hp} (s:Same F H):∀ {xs:List V} {ts:List T} {fp:List Addr} {dss:List (List D)},RtAll K F H xs ts fp->zxq ts=some dss->fp.Nodup->∃ F2,Same F F2/\Same F2 H/\(∀ b,b ∉ fp->F2 b=F b)/\IsAll K F2 xs (dss.map v5)
|_,_,_,_,.nil,e,_=>by cases e;exact ⟨F,λ _ _ z=>z,s,λ _ _=>rfl,.nil⟩
|_,_,_,_,.cons (fp:=fp) (fq:=fq) h r,e,nd=>by
  cases h with
 |li h1 h2 h3 =>
   rename_i a xs0 ds0
   unfold zxq at e;obtain ⟨dss',e1,rfl⟩:=wO.mp e;have nd':=vX.mp nd;obtain ⟨F1,s1,s2,s3,s4⟩:=zjr s r e1 nd'.2;have fa:F1 a=none:=by rw [s3 a nd'.1];exact h2
   have sn:Same F1 (upd F1 a (.lst xs0)):=zt1 fa _;refine ⟨upd F1 a (.lst xs0),s1.trans sn,λ b o z=>?_,λ b hb=>?_,.cons (.lst (SqL.of zn0) (h3.mono (s1.trans sn))) (s4.mono sn)⟩
   ·by_cases q:b=a
    ·subst q;rw [zn0] at z;cases z;exact h1
    ·rw [zr0 q] at z;exact s2 b o z
   ·have hb1:b≠a:=λ z=>hb (by simp [z]);rw [zr0 hb1];exact s3 b λ z=>hb (by simp [z])
 |_=>cases e
theorem ztc1 {F H:Hp} (s:Same F H) {v:V} {t:T} {d:D} (h:Rt K F H v t fp) (e:toD t=some d) (nd:fp.Nodup):∃ F2,Same F F2/\Same F2 H/\(∀ b,b ∉ fp->F2 b=F b)/\Is K F2 v d:=by
 cases h with
|fz i=>cases e;exact ⟨F,λ _ _ z=>z,s,λ _ _=>rfl,i⟩
|li h1 h2 h3 =>
  cases e
  rename_i a xs ds
  have sn:=zt1 (H:=F) h2 (.lst xs);refine ⟨_,sn,λ b o z=>?_,λ b hb=>zr0 λ q=>hb (by simp [q]),.lst (SqL.of zn0) (h3.mono sn)⟩;by_cases q:b=a
  ·subst q;rw [zn0] at z;cases z;exact h1
  ·rw [zr0 q] at z;exact s b o z
|ls h1 h2 h3 =>
  rename_i a xs ts fp
  unfold toD at e;obtain ⟨dss,e1,rfl⟩:=wO.mp e;have nd':=vX.mp nd;obtain ⟨F1,s1,s2,s3,s4⟩:=zjr s h3 e1 nd'.2;have fa:F1 a=none:=by rw [s3 a nd'.1];exact h2
  have sn:Same F1 (upd F1 a (.lst xs)):=zt1 fa _;refine ⟨upd F1 a (.lst xs),s1.trans sn,λ b o z=>?_,λ b hb=>?_,.lst (SqL.of zn0) (s4.mono sn)⟩
  ·by_cases q:b=a
   ·subst q;rw [zn0] at z;cases z;exact h1
   ·rw [zr0 q] at z;exact s2 b o z
  ·have hb1:b≠a:=λ z=>hb (by simp [z]);rw [zr0 hb1];exact s3 b λ z=>hb (by simp [z])
|ob _ _ _ _ _=>cases e
|dk _ _ _=>cases e
|dt _ _ _=>cases e
|tp _ _ _ _=>cases e
|wh=>cases e
noncomputable def getP:T->Pth->Option T
|t,[]=>some t
|.ls ts,.ix j :: p=>(ts[j]?).bind λ t=>getP t p
|.tp ts,.ix j :: p=>(ts[j]?).bind λ t=>getP t p
|.ob _ fs,.fl f :: p=>(fs.lookup f).bind λ t=>getP t p
|_,_=>none
theorem zda1 {F H:Hp} {p:Pth}:∀ {x:V} {t u:T} {fp:List Addr},Rt K F H x t fp->getP t p=some u->∃ v,At H x t p v u:=by
 induction p with
|nil=>intro x t u fp _ e;unfold getP at e;cases e;exact ⟨x,.nil⟩
|cons q p ih =>
  intro x t u fp h e;cases h with
 |ls h1 h2 h3 =>
   cases q with
  |ix j =>
    unfold getP at e;obtain ⟨t1,e1,e2⟩:=j4.mp e
    rename_i xs ts fp'
    have el:=h3.len;have hj:j < ts.length:=by
     rcases wP j ts.length with y|y
     ·exact y
     ·rw [v9 y] at e1;cases e1
    obtain ⟨y,hy⟩:∃ y,xs[j]?=some y:=⟨xs[j]'(by lia),u7 _⟩
    obtain ⟨fA,fj,fB,_,hr,_⟩:=h3.split hy e1;obtain ⟨v,hv⟩:=ih hr e2;exact ⟨v,.ix h1 hy e1 hv⟩
  |fl f=>cases e
 |tp h1 h2 gk h3 =>
   cases q with
  |ix j =>
    unfold getP at e;obtain ⟨t1,e1,e2⟩:=j4.mp e
    rename_i xs ts fp'
    have el:=h3.len;have hj:j < ts.length:=by
     rcases wP j ts.length with y|y
     ·exact y
     ·rw [v9 y] at e1;cases e1
    obtain ⟨y,hy⟩:∃ y,xs[j]?=some y:=⟨xs[j]'(by lia),u7 _⟩
    obtain ⟨fA,fj,fB,_,hr,_⟩:=h3.split hy e1;obtain ⟨v,hv⟩:=ih hr e2;exact ⟨v,.tx h1 hy e1 hv⟩
  |fl f=>cases e
 |ob h1 h2 h3 h4 h5 =>
   cases q with
  |fl f =>
    unfold getP at e;obtain ⟨t1,e1,e2⟩:=j4.mp e;obtain ⟨y,hy⟩:=(h5.keys f).2.1 t1 e1;obtain ⟨fA,fj,fB,_,hr,_⟩:=h5.split hy e1;obtain ⟨v,hv⟩:=ih hr e2;exact ⟨v,.fl h1 hy e1 hv⟩
  |ix j=>cases e
 |fz _=>cases q <;> cases e
 |li _ _ _=>cases q <;> cases e
 |dk _ _ _=>cases q <;> cases e
 |dt _ _ _=>cases q <;> cases e
 |wh=>cases q <;> cases e
noncomputable def fzS (U:DSt) (i:Nat) (p:Pth) (N:DSt->Prop):Prop:=match U[i]? with
|some (.ow t)=>∃ u d,getP t p=some u/\toD u=some d/\N (U.set i (slot (setP t p (.fz d))))
|some (.sh _)=>N U
|_=>False
def dFrz (i:Nat) (p:Pth) (d:DS):DS:=λ E U=>fzS U i p λ U'=>d E U'
theorem RS.frz {B:Bs} {F H:Hp} {Y:_2.St} {U:DSt} {fps:Nat->List Addr} {i:Nat} {p:Pth} {N:DSt->Prop} (r:RS K B F H Y U fps) (h:fzS U i p N):∃ F2 U2 fps2,RS K B F2 H Y U2 fps2/\N U2:=by
 unfold fzS at h;split at h
 ·rename_i t q
  obtain ⟨u,d,eg,ed,hN⟩:=h;obtain ⟨x,t',a1,a2,a3,a4,a5⟩:=r.rt i _ q rfl;cases a2;obtain ⟨v,hv⟩:=zda1 a3 eg;obtain ⟨fn,t1,h1,h2,h3,h4,back⟩:=r.put q rfl ⟨_,_,x,q,rfl,a1,hv⟩;cases h1;obtain ⟨F2,s1,s2,s3,s4⟩:=ztc1 r.fh h2 ed h3;obtain ⟨fps2,r2,_⟩:=back (F2:=F2) (H2:=H) (fq:=[]) (λ _ _ _ z=>z) s1 s2 (λ b _ fb hb=>by rw [s3 b hb];exact fb) (λ _=>⟨id,id⟩) (λ b hb _=>(r.fr i _ q rfl b (h4 b hb)).elim id λ z=>absurd rfl (z.2 t)) (.fz s4) .nil (λ b hb=>by simp at hb);have hw:(Sl.ow t).wth (setP t p (.fz d))=.ow (setP t p (.fz d)):=rfl;rw [hw] at r2
  -- a slot whose whole is frozen becomes a plain one
  cases hs:setP t p (.fz d) with
 |fz d' =>
   rw [hs] at r2 hN;obtain ⟨x',t'',b1,b2,b3,b4,b5⟩:=r2.rt i _ (w8 (by
    rcases wP i U.length with z|z
    ·exact z
    ·rw [v9 z] at q;cases q)) rfl
   cases b2;obtain ⟨d2,hd2,hi⟩:=zv41 (Q:=λ z=>z=d') b3 rfl;subst hd2
   ·have r3:=r2.setS (i:=i) hi;rw [List.set_set] at r3;have eY:Y.set i (some x')=Y:=by
     apply xV;intro j;rw [xE];by_cases hij:i=j
     ·subst hij;have hlt:i < Y.length:=by
       rw [r.len];rcases wP i U.length with z|z
       ·exact z
       ·rw [v9 z] at q;cases q
      simp [hlt];have:=zt9 (F:=F) (H:=H) (U:=U) b1;rw [u7 hlt] at this;exact (wI.inj this).symm
     ·simp [hij]
    rw [eY] at r3;exact ⟨F2,_,fps2,r3,hN⟩
 |li _=>rw [hs] at r2 hN;exact ⟨F2,_,fps2,r2,hN⟩
 |ls _=>rw [hs] at r2 hN;exact ⟨F2,_,fps2,r2,hN⟩
 |ob _ _=>rw [hs] at r2 hN;exact ⟨F2,_,fps2,r2,hN⟩
 |dk _=>rw [hs] at r2 hN;exact ⟨F2,_,fps2,r2,hN⟩
 |dt _=>rw [hs] at r2 hN;exact ⟨F2,_,fps2,r2,hN⟩
 |tp _=>rw [hs] at r2 hN;exact ⟨F2,_,fps2,r2,hN⟩
 |wh=>rw [hs] at r2 hN;exact ⟨F2,_,fps2,r2,hN⟩
 ·exact ⟨F,U,fps,r,h⟩
 ·exact h.elim
theorem zmf (i:Nat) (p:Pth) (h:RfS K t d):RfS K t (dFrz i p d):=by
 intro B F H Y U fps E Z r hd k;obtain ⟨F2,U2,fps2,r2,h2⟩:=r.frz hd;exact h r2 h2 k
end
set_option genInjectivity true in
inductive Arg where
|d (d:D)|b (t:T)|o (t:T)
inductive ArgP where
|d (d:D)|b (i:Nat) (p:Pth) (t:T)|o (i:Nat) (p:Pth) (t:T)
def ArgP.arg:ArgP->Arg
|.d x=>.d x
|.b _ _ x=>.b x
|.o _ _ x=>.o x
inductive ArgsR (K:Fg) (F H:Hp):List V->List Arg->List Addr->Option (Addr×List Addr)->Prop
|nil:ArgsR K F H [] [] [] none
|d {v:V} {d:D} {vs:List V} {as:List Arg} {bf:List Addr} {oo:Option (Addr×List Addr)}:Is K F v d->ArgsR K F H vs as bf oo->ArgsR K F H (v :: vs) (.d d :: as) bf oo
|b {v:V} {t:T} {fp:List Addr} {vs:List V} {as:List Arg} {bf:List Addr} {oo:Option (Addr×List Addr)}:Rt K F H v t fp->fp.Nodup->ArgsR K F H vs as bf oo->ArgsR K F H (v :: vs) (.b t :: as) (fp++bf) oo
|o {a:Addr} {t:T} {fp:List Addr} {vs:List V} {as:List Arg} {bf:List Addr}:Rt K F H (.ref a) t fp->fp.Nodup->ArgsR K F H vs as bf none->ArgsR K F H (.ref a :: vs) (.o t :: as) bf (some (a,fp))
def ofp:Option (Addr×List Addr)->List Addr
|none=>[]
|some x=>x.2
structure Post (K:Fg) (F H:Hp) (oo:Option (Addr×List Addr)) (F' H':Hp) (v:V) (r:T) (fpr:List Addr) (t':T) (fpo:List Addr):Prop where
 hh:∀ b o,b ∉ ofp oo->H b=some o->H' b=some o
 ff:Same F F'
 fh:Same F' H'
 nw:∀ b,HD (H b)->F b=none->F' b=none
 al:∀ b,(H b≠none->H' b≠none)/\(HD (H b)->HD (H' b))
 rt:Rt K F' H' v r fpr
 nd:fpr.Nodup
 fr:∀ a∈fpr,H a=none
 io:∀ a fp,oo=some (a,fp)->Rt K F' H' (.ref a) t' fpo/\fpo.Nodup/\(∀ b∈fpo,b∈fp \/ H b=none)/\∀ b∈fpo,b ∉ fpr
abbrev DSpT:=List Arg->(T->T->Prop)->Prop
noncomputable def spT (K:Fg) (p:DSpT):Sp:=λ vs H Q _=>∃ F as bf oo Qd,Same F H/\ArgsR K F H vs as bf oo/\(∀ b∈ofp oo,b ∉ bf)/\p as Qd/\∀ r t',Qd r t'->∀ v F' H' fpr fpo,Post K F H oo F' H' v r fpr t' fpo->Q v H'
section
variable {K:Fg} {te ta ti tv:TE} {de da di dk:DE} {dc:DC} {tt:TT} {dt:DT} {t u tb:TS} {d e db:DS} {tA:TA} {dA:DF} {g:TG} {dg:DG} {n:Nat} {dp:DP} {w:World}
inductive ArgsP (K:Fg) (F H:Hp) (Y:_2.St) (U:DSt):List V->List ArgP->Prop
|nil:ArgsP K F H Y U [] []
|d {v:V} {d:D} {vs:List V} {as:List ArgP}:Is K F v d->ArgsP K F H Y U vs as->ArgsP K F H Y U (v :: vs) (.d d :: as)
|b {v:V} {i:Nat} {p:Pth} {t:T} {vs:List V} {as:List ArgP}:AtS H Y U i p v t->ArgsP K F H Y U vs as->ArgsP K F H Y U (v :: vs) (.b i p t :: as)
|o {v:V} {i:Nat} {p:Pth} {t:T} {vs:List V} {as:List ArgP}:AtS H Y U i p v t->ArgsP K F H Y U vs as->ArgsP K F H Y U (v :: vs) (.o i p t :: as)
abbrev DAT:=DSt->(List ArgP->Prop)->Prop
noncomputable def RfAT (K:Fg) (ta:TA) (da:DAT):Prop:=∀ {F H:Hp} {Y:_2.St} {U:DSt} {Qd:List ArgP->Prop} {Q:List V->Hp->Prop},Same F H->RV K F H Y U->da U Qd->(∀ as,Qd as->∀ vs F' H',Ext F H F' H'->ArgsP K F' H' Y U vs as->Q vs H')->ta Y H Q
variable {dA':DAT}
def aNil:DAT:=λ _ Q=>Q []
def aD (de:DE) (dr:DAT):DAT:=λ U Q=>de U λ x=>dr U λ as=>Q (.d x :: as)
def aB (dp:DP) (dr:DAT):DAT:=λ U Q=>dp U λ i p t=>dr U λ as=>Q (.b i p t :: as)
def aO (dp:DP) (dr:DAT):DAT:=λ U Q=>dp U λ i p t=>dr U λ as=>Q (.o i p t :: as)
theorem zr8:RfAT K tNil aNil:=λ s rv h k=>k _ h _ _ _ (Ext.refl s) .nil
theorem at_d (ha:RfE K ta da) (hr:RfAT K tA dA'):RfAT K (zrc ta tA) (aD da dA'):=by
 intro F H Y U Qd Q s rv h k;refine ha s rv h λ x hx v F1 H1 e1 i1=>hr e1.fh (rv.ext e1) hx λ as has vs F2 H2 e2 i2=>?_;exact k _ has _ F2 H2 (e1.trans e2) (.d (i1.mono e2.f) i2)
theorem at_b (ha:RfP K ta dp) (hr:RfAT K tA dA'):RfAT K (zrc ta tA) (aB dp dA'):=by
 intro F H Y U Qd Q s rv h k;refine ha s rv h λ i p t hx v F1 H1 e1 i1=>hr e1.fh (rv.ext e1) hx λ as has vs F2 H2 e2 i2=>?_;exact k _ has _ F2 H2 (e1.trans e2) (.b (i1.mono e2.h) i2)
theorem at_o (ha:RfP K ta dp) (hr:RfAT K tA dA'):RfAT K (zrc ta tA) (aO dp dA'):=by
 intro F H Y U Qd Q s rv h k;refine ha s rv h λ i p t hx v F1 H1 e1 i1=>hr e1.fh (rv.ext e1) hx λ as has vs F2 H2 e2 i2=>?_;exact k _ has _ F2 H2 (e1.trans e2) (.o (i1.mono e2.h) i2)
def noO:List ArgP->Prop
|[]=>True
|.o _ _ _ :: _=>False
|.d _ :: r=>noO r
|.b _ _ _ :: r=>noO r
def noS (i:Nat):List ArgP->Prop
|[]=>True
|.b j _ _ :: r=>j≠i/\noS i r
|.d _ :: r=>noS i r
|.o _ _ _ :: r=>noS i r
def zvo:List ArgP->Option (Nat×Pth×T)
|[]=>none
|.o i p t :: _=>some (i,p,t)
|.d _ :: r=>zvo r
|.b _ _ _ :: r=>zvo r
def oneO (i:Nat):List ArgP->Prop
|[]=>False
|.o _ _ _ :: r=>noO r/\noS i r
|.d _ :: r=>oneO i r
|.b j _ _ :: r=>j≠i/\oneO i r
def zjy (U:DSt) (i:Nat):Prop:=match U[i]? with
|some (.ow _)=>True
|some (.io _ _)=>True
|_=>False
def znr:T->Prop
|.fz _=>False
|_=>True
theorem zhi {F H:Hp} {Y:_2.St} {U:DSt} {fps:Nat->List Addr} (rt:∀ {i:Nat} {p:Pth} {v:V} {u:T},AtS H Y U i p v u->∃ fn,Rt K F H v u fn/\fn.Nodup/\∀ a∈fn,a∈fps i/\∃ s,U[i]?=some s/\s.has=true):∀ {vs:List V} {as:List ArgP},ArgsP K F H Y U vs as->noO as->∃ bf,ArgsR K F H vs (as.map ArgP.arg) bf none/\∀ i,noS i as->∀ b∈bf,∃ j,j≠i/\b∈fps j/\∃ s,U[j]?=some s/\s.has=true
|_,_,.nil,_=>⟨[],.nil,λ i _ b hb=>by simp at hb⟩
|_,_,.d h r,hn=>by
  obtain ⟨bf,h1,h2⟩:=zhi rt r hn;exact ⟨bf,.d h h1,h2⟩
|_,_,.b (i:=i') h r,hn=>by
  obtain ⟨bf,h1,h2⟩:=zhi rt r hn;obtain ⟨fn,g1,g2,g3⟩:=rt h;refine ⟨fn++bf,.b g1 g2 h1,λ i hi b hb=>?_⟩;rcases vJ.mp hb with z|z
  ·exact ⟨i',hi.1,(g3 b z).1,(g3 b z).2⟩
  ·exact h2 i hi.2 b z
|_,_,.o h r,hn=>hn.elim
theorem zoh {F H:Hp} {Y:_2.St} {U:DSt} {fps:Nat->List Addr} (rt:∀ {i:Nat} {p:Pth} {v:V} {u:T},AtS H Y U i p v u->∃ fn,Rt K F H v u fn/\fn.Nodup/\∀ a∈fn,a∈fps i/\∃ s,U[i]?=some s/\s.has=true) {i:Nat} {p:Pth} {u:T}:∀ {vs:List V} {as:List ArgP},ArgsP K F H Y U vs as->zvo as=some (i,p,u)->oneO i as->znr u ->
  ∃ a,AtS H Y U i p (.ref a) u/\∀ fn,Rt K F H (.ref a) u fn->fn.Nodup->∃ bf,ArgsR K F H vs (as.map ArgP.arg) bf (some (a,fn))/\∀ b∈bf,∃ j,j≠i/\b∈fps j/\∃ s,U[j]?=some s/\s.has=true
|_,_,.nil,e,_,_=>by cases e
|_,_,.d h r,e,hn,hf=>by
  obtain ⟨a,h1,h2⟩:=zoh rt r e hn hf;refine ⟨a,h1,λ fn g1 g2=>?_⟩;obtain ⟨bf,k1,k2⟩:=h2 fn g1 g2;exact ⟨bf,.d h k1,k2⟩
|_,_,.b (i:=i') h r,e,hn,hf=>by
  obtain ⟨a,h1,h2⟩:=zoh rt r e hn.2 hf;obtain ⟨fb,g1,g2,g3⟩:=rt h;refine ⟨a,h1,λ fn k1 k2=>?_⟩;obtain ⟨bf,m1,m2⟩:=h2 fn k1 k2;refine ⟨fb++bf,.b g1 g2 m1,λ b hb=>?_⟩;rcases vJ.mp hb with z|z
  ·exact ⟨i',hn.1,(g3 b z).1,(g3 b z).2⟩
  ·exact m2 b z
|_,_,.o h r,e,hn,hf=>by
  cases e;obtain ⟨bf,m1,m2⟩:=zhi rt r hn.1;obtain ⟨fn0,g1,_,_⟩:=rt h;cases g1 with
 |fz _=>exact hf.elim
 |li _ _ _=>exact ⟨_,h,λ fn k1 k2=>⟨bf,.o k1 k2 m1,m2 i hn.2⟩⟩
 |ls _ _ _=>exact ⟨_,h,λ fn k1 k2=>⟨bf,.o k1 k2 m1,m2 i hn.2⟩⟩
 |ob _ _ _ _ _=>exact ⟨_,h,λ fn k1 k2=>⟨bf,.o k1 k2 m1,m2 i hn.2⟩⟩
 |dk _ _ _=>exact ⟨_,h,λ fn k1 k2=>⟨bf,.o k1 k2 m1,m2 i hn.2⟩⟩
 |dt _ _ _=>exact ⟨_,h,λ fn k1 k2=>⟨bf,.o k1 k2 m1,m2 i hn.2⟩⟩
 |tp _ _ _ _=>exact ⟨_,h,λ fn k1 k2=>⟨bf,.o k1 k2 m1,m2 i hn.2⟩⟩
 |wh=>exact ⟨_,h,λ fn k1 k2=>⟨bf,.o k1 k2 m1,m2 i hn.2⟩⟩
theorem RS.rtS {B:Bs} {F H:Hp} (r:RS K B F H Y U fps) {p:Pth} {v:V} {u:T} (h:AtS H Y U i p v u):∃ fn,Rt K F H v u fn/\fn.Nodup/\∀ a∈fn,a∈fps i/\∃ s,U[i]?=some s/\s.has=true:=by
 obtain ⟨s,t,x,h1,h2,h3,h4⟩:=h;by_cases hs:s.has=true
 ·obtain ⟨x',t',a1,a2,a3,a4,a5⟩:=r.rt i s h1 hs;rw [h3] at a1;cases a1;rw [h2] at a2;cases a2;obtain ⟨fn,g1,g2,g3,_⟩:=zv81 h4 a3 a5;exact ⟨fn,g1,g3,λ a ha=>⟨g2 a ha,s,h1,hs⟩⟩
 ·cases s with
 |sh d =>
   cases h2;obtain ⟨y,b1,b2⟩:=r.sh i d h1;rw [h3] at b1;cases b1;cases h4;exact ⟨[],.fz b2,.nil,λ a ha=>by simp at ha⟩
 |un=>cases h2
 |ow _=>exact absurd rfl hs
 |bo _=>exact absurd rfl hs
 |io _ _=>exact absurd rfl hs
theorem zmw {p:Pth} {u t0:T} {s:Sl} (hi:U[i]?=some s) (ho:s.own=true) (ht:s.tree=some t0) (h:mutS U i p u N):N (U.set i (s.wth (setP t0 p u))):=by
 unfold mutS at h;rw [hi] at h;cases s with
|ow t=>cases ht;exact h
|io a t=>cases ht;exact h
|un=>cases ho
|sh _=>cases ho
|bo _=>cases ho
noncomputable def zdz (p:DSpT) (U:DSt) (as:List ArgP) (Q:T->DSt->Prop):Prop:=match zvo as with
|some (i,q,t)=>zjy U i/\oneO i as/\znr t/\p (as.map ArgP.arg) λ r t2=>mutS U i q t2 λ U'=>Q r U'
|none=>noO as/\p (as.map ArgP.arg) λ r _=>Q r U
theorem zzr {B:Bs} {F H:Hp} {p:DSpT} {as:List ArgP} {Qd:T->DSt->Prop} {Q:VK} (r:RS K B F H Y U fps) (ha:ArgsP K F H Y U vs as) (hc:zdz p U as Qd)
  (k:∀ r U',Qd r U'->∀ v F' H' fps' fpr,Res K B F' H' Y U' fps' v r fpr->Q v H'):spT K p vs H Q E:=by
 unfold zdz at hc;split at hc
 ·rename_i i q t0 eo
  obtain ⟨ho,h1,hf,hp⟩:=hc;obtain ⟨s,hs,hso⟩:∃ s,U[i]?=some s/\s.own=true:=by
   unfold zjy at ho;split at ho
   ·rename_i q;exact ⟨_,q,rfl⟩
   ·rename_i q;exact ⟨_,q,rfl⟩
   ·exact ho.elim
  obtain ⟨a,hat,hargs⟩:=zoh (λ h=>r.rtS h) ha eo h1 hf;obtain ⟨fn,t1,g1,g2,g3,g4,back⟩:=r.put hs hso hat;obtain ⟨bf,m1,m2⟩:=hargs fn g2 g3;refine ⟨F,_,bf,some (a,fn),_,r.fh,m1,λ b hb hbf=>?_,hp,λ r2 t2 q2 v F' H' fpr fpo post=>?_⟩
  ·obtain ⟨j,hj,hbj,sj,e1,hh⟩:=m2 b hbf;exact r.dj i j s sj (λ z=>hj z.symm) hs e1 hso hh b (g4 b hb) hbj
  ·obtain ⟨io1,io2,io3,io4⟩:=post.io a fn rfl;obtain ⟨fps2,r2',e2,e3⟩:=back (F2:=F') (H2:=H') (u2:=t2) (fq:=fpo) post.hh post.ff post.fh (λ b hb fb _=>post.nw b hb fb) post.al (λ b hb f=>absurd (post.nw b (g2.hdd b hb) (g2.dom b hb).2) f) io1 io2 (λ b hb=>(io3 b hb).elim .inl λ z=>.inr (r.newOk z));have qd:=zmw hs hso g1 q2;refine k _ _ qd v F' H' fps2 fpr ⟨r2',post.rt,post.nd,λ b hb=>(r.newOk (post.fr b hb)).1,λ j s' ej hs' b hb hbr=>?_⟩;have fresh:=post.fr b hbr;by_cases hji:j=i
   ·subst hji;rcases e3 b hb with z|z
    ·obtain ⟨x',t',a1,a2,a3,a4,a5⟩:=r.rt j s hs (zr6 hso);exact (a3.dom b z).1 fresh
    ·exact io4 b z hbr
   ·rw [e2 j hji] at hb;rw [xC (λ z=>hji z.symm)] at ej;exact (r.newOk fresh).2 j s' ej hs' hb
 ·rename_i eo
  obtain ⟨hn,hp⟩:=hc;obtain ⟨bf,m1,_⟩:=zhi (λ h=>r.rtS h) ha hn;refine ⟨F,_,bf,none,_,r.fh,m1,λ b hb=>by simp [ofp] at hb,hp,λ r2 t2 q2 v F' H' fpr fpo post=>?_⟩;have ex:Ext F H F' H':=⟨λ b o hb=>post.hh b o (by simp [ofp]) hb,post.ff,post.fh,post.nw⟩
  exact k _ _ q2 v F' H' fps fpr ⟨r.grow ex,post.rt,post.nd,λ b hb=>(r.newOk (post.fr b hb)).1,λ j s' ej hs' b hb hbr=>(r.newOk (post.fr b hbr)).2 j s' ej hs' hb⟩
def noM (m:Str) (u:T):Prop:=match u with
|.ob _ fs=>fs.lookup m=none
|_=>False
noncomputable def zta1 (o:Bool) (C:Addr) (m:Str) (p:DSpT) (dp:DP) (da:DAT):DC:=λ U Q=>dp U λ i q u=>nCls C u/\noM m u/\da U λ as=>zdz p U ((if o then .o i q u else .b i q u) :: as) Q
theorem zmj {F H:Hp} {v:V} {u:T} (hr:Rt K F H v u fn) (hc:nCls C u) (hm:noM m u):∃ a dx fs,v=.ref a/\H a=some (.ins C dx fs)/\fs.lookup m=none:=by
 cases hr with
|ob g1 g2 g3 g4 g5 =>
  cases (show _=C from hc);exact ⟨_,_,_,rfl,g1,(g5.keys m).1 hm⟩
|fz _=>exact hc.elim
|li _ _ _=>exact hc.elim
|ls _ _ _=>exact hc.elim
|dk _ _ _=>exact hc.elim
|dt _ _ _=>exact hc.elim
|tp _ _ _ _=>exact hc.elim
|wh=>exact hc.elim
theorem zm9 {p:DSpT} (o:Bool) (hp:RfP K ta dp) (h:RfAT K tA dA'):RfC K (zry C m (spT K p) [] E ta tA) (zta1 o C m p dp dA'):=by
 intro B F H Y U fps Qd Q r hd k;refine hp r.fh r.rv hd λ i q u hu v F1 H1 e1 at1=>?_;have r1:=r.grow e1;obtain ⟨fn,hr⟩:=at1.rt r1.rv;obtain ⟨a,dx,fs,rfl,h1,h2⟩:=zmj hr hu.1 hu.2.1;refine ⟨a,dx,fs,rfl,h1,h2,h r1.fh r1.rv hu.2.2 λ as has vs F2 H2 e2 i2=>?_⟩;rw [wJ];have at2:=at1.mono e2.h;cases o with
|true=>exact zzr (r1.grow e2) (.o at2 i2) has k
|false=>exact zzr (r1.grow e2) (.b at2 i2) has k
def zmy (p:DSpT) (as:List ArgP) (Q:T->Prop):Prop:=noO as/\p (as.map ArgP.arg) λ r _=>Q r
theorem AtS.rtV {F H:Hp} (r:RV K F H Y U) {p:Pth} {v:V} {u:T} (h:AtS H Y U i p v u):∃ fn,Rt K F H v u fn/\fn.Nodup:=by
 obtain ⟨s,t,x,h1,h2,h3,h4⟩:=h;obtain ⟨y,fp,e,hr,nd⟩:=(r.sl i s h1).rt h2;rw [h3] at e;cases e;obtain ⟨fn,g1,_,g3,_⟩:=zv81 h4 hr nd;exact ⟨fn,g1,g3⟩
theorem zdj {F H:Hp} {Y:_2.St} {U:DSt} (r:RV K F H Y U):∀ {vs:List V} {as:List ArgP},ArgsP K F H Y U vs as->noO as->∃ bf,ArgsR K F H vs (as.map ArgP.arg) bf none
|_,_,.nil,_=>⟨[],.nil⟩
|_,_,.d h q,hn=>by
  obtain ⟨bf,h1⟩:=zdj r q hn;exact ⟨bf,.d h h1⟩
|_,_,.b h q,hn=>by
  obtain ⟨bf,h1⟩:=zdj r q hn;obtain ⟨fn,g1,g2⟩:=h.rtV r;exact ⟨fn++bf,.b g1 g2 h1⟩
|_,_,.o h r,hn=>hn.elim
theorem zoo {F H:Hp} {p:DSpT} {as:List ArgP} {Qd:T->Prop} {Q:VK} (s:Same F H) (r:RV K F H Y U) (ha:ArgsP K F H Y U vs as) (hc:zmy p as Qd)
  (k:∀ r,Qd r->∀ v F' H' fp,Ext F H F' H'->Rt K F' H' v r fp->fp.Nodup->(∀ a∈fp,H a=none)->Q v H'):spT K p vs H Q E:=by
 obtain ⟨bf,m1⟩:=zdj r ha hc.1;refine ⟨F,_,bf,none,_,s,m1,λ b hb=>by simp [ofp] at hb,hc.2,λ r2 t2 q2 v F' H' fpr fpo post=>?_⟩;exact k _ q2 v F' H' fpr ⟨λ b o hb=>post.hh b o (by simp [ofp]) hb,post.ff,post.fh,post.nw⟩ post.rt post.nd post.fr
def zz81 (p:DSpT) (da:DAT):DN:=λ U Q=>da U λ as=>zmy p as Q
def zva1 (C:Addr) (m:Str) (p:DSpT) (dp:DP) (da:DAT):DN:=λ U Q=>dp U λ i q u=>nCls C u/\noM m u/\da U λ as=>zmy p (.b i q u :: as) Q
theorem zwz {p:DSpT} (h:RfAT K tA dA'):RfN K (zly (spT K p) [] E tA) (zz81 p dA'):=by
 intro F H Y U Qd Q s rv hd k;refine h s rv hd λ as has vs F1 H1 e1 i1=>?_;rw [wJ];exact zoo e1.fh (rv.ext e1) i1 has λ r q v F' H' fp e2 h1 h2 h3=>k r q v F' H' fp (e1.trans e2) h1 h2 λ a ha=>zo2 e1 (h3 a ha)
theorem zh11 {p:DSpT} (hp:RfP K ta dp) (h:RfAT K tA dA'):RfN K (zry C m (spT K p) [] E ta tA) (zva1 C m p dp dA'):=by
 intro F H Y U Qd Q s rv hd k;refine hp s rv hd λ i q u hu v F1 H1 e1 at1=>?_;have rv1:=rv.ext e1;obtain ⟨fn,hr⟩:=at1.rt rv1;obtain ⟨a,dx,fs,rfl,h1,h2⟩:=zmj hr hu.1 hu.2.1;refine ⟨a,dx,fs,rfl,h1,h2,h e1.fh rv1 hu.2.2 λ as has vs F2 H2 e2 i2=>?_⟩;rw [wJ];have e12:=e1.trans e2;exact zoo e2.fh (rv.ext e12) (.b (at1.mono e2.h) i2) has λ r q v F' H' fp e3 h1 h2 h3=>k r q v F' H' fp (e12.trans e3) h1 h2 λ a ha=>zo2 e12 (h3 a ha)
def eN (dn:DN):DE:=λ U Q=>dn U λ r=>fzT r Q
theorem RfN.ex {dn:DN} (h:RfN K te dn):RfE K te (eN dn):=λ s rv hd k=>h s rv hd λ r q v F' H' fp e1 h1 h2 h3=>by
 obtain ⟨d,qd,i⟩:=zv41 h1 q;exact k d qd v F' H' e1 i
noncomputable def zfz (C:Addr) (p:DSpT) (da:DAT):DN:=λ U Q=>da U λ as=>noO as/\p (.o (.ob C []) :: as.map ArgP.arg) λ r t2=>(match r with|.fz .none=>True|_=>False)/\Q t2
theorem zlj {p:DSpT} (h:RfAT K tA dA'):RfN K (ze61 C (spT K p) [] E tA) (zfz C p dA'):=by
 intro F H Y U Qd Q s rv hd k;refine h s rv hd λ as has vs F1 H1 e1 i1=>?_;intro x dx hx hdx hne;obtain ⟨bf,m1⟩:=zdj (rv.ext e1) i1 has.1;have hH:∀ b,b≠x->b≠dx->upd (upd H1 dx (.own x)) x (.ins C dx []) b=H1 b:=λ b h1 h2=>by rw [zr0 h1,zr0 h2]
 have s2:Same H1 (upd (upd H1 dx (.own x)) x (.ins C dx [])):=λ b o z=>by
  rw [hH b (λ q=>by subst q;rw [hx] at z;cases z) (λ q=>by subst q;rw [hdx] at z;cases z)];exact z
 have fx:F1 x=none:=by
  cases q:F1 x with
 |none=>rfl
 |some o=>rw [e1.fh x o q] at hx;cases hx
 have fdx:F1 dx=none:=by
  cases q:F1 dx with
 |none=>rfl
 |some o=>rw [e1.fh dx o q] at hdx;cases hdx
 have m2:ArgsR K F1 (upd (upd H1 dx (.own x)) x (.ins C dx [])) vs (as.map ArgP.arg) bf none/\∀ b∈bf,H1 b≠none:=by
  have key:∀ {vs:List V} {as:List Arg} {bf:List Addr} {oo:Option (Addr×List Addr)},ArgsR K F1 H1 vs as bf oo->oo=none->ArgsR K F1 (upd (upd H1 dx (.own x)) x (.ins C dx [])) vs as bf none/\∀ b∈bf,H1 b≠none:=λ {vs as bf oo} hh=>by
   induction hh with
  |nil=>intro _;exact ⟨.nil,λ b hb=>by simp at hb⟩
  |d h1 _ ih=>intro e;exact ⟨.d h1 (ih e).1,(ih e).2⟩
  |b h1 h2 _ ih =>
    intro e;refine ⟨.b (h1.frame (λ _ _ z=>z) λ b hb=>⟨?_,(h1.dom b hb).2⟩) h2 (ih e).1,λ b hb=>?_⟩
    ·exact hH b (λ q=>by subst q;exact (h1.dom b hb).1 hx) (λ q=>by subst q;exact (h1.dom b hb).1 hdx)
    ·rcases vJ.mp hb with z|z
     ·exact (h1.dom b z).1
     ·exact (ih e).2 b z
  |o _ _ _ _=>intro e;cases e
  exact key m1 rfl
 refine ⟨F1,_,bf,some (x,[x,dx]),_,e1.fh.trans s2,.o (.ob zn0 (by rw [zr0 hne,zn0]) fx fdx .nil) (by simp [Ne.symm hne]) (by rw [wJ];exact m2.1),λ b hb hbf=>?_,has.2,λ r t2 q2 v F' H' fpr fpo post=>?_⟩
 ·have:=m2.2 b hbf;simp [ofp] at hb;rcases hb with z|z
  ·exact this (by rw [z];exact hx)
  ·exact this (by rw [z];exact hdx)
 ·obtain ⟨q0,q1⟩:=q2;obtain ⟨io1,io2,io3,io4⟩:=post.io x [x,dx] rfl;refine ⟨?_,k _ q1 (.ref x) F' H' fpo (e1.trans ⟨λ b o z=>?_,post.ff,post.fh,λ b hb fb=>post.nw b (hb.mono s2) fb⟩) io1 io2 λ b hb=>zo2 e1 ?_⟩
  ·split at q0
   ·cases post.rt with
   |fz i=>exact i.non_inv
   ·exact q0.elim
  ·refine post.hh b o (λ w=>?_) (s2 b o z);simp [ofp] at w;rcases w with w|w
   ·rw [w,hx] at z;cases z
   ·rw [w,hdx] at z;cases z
  ·rcases io3 b hb with z|z
   ·simp at z;rcases z with z|z
    ·rw [z];exact hx
    ·rw [z];exact hdx
   ·cases q:H1 b with
   |none=>rfl
   |some o=>rw [s2 b o q] at z;cases z
end
section
variable {P:Program} {w:World} {K:Fg} {mg:Str->Option Value} {base:Heap}
def zd71 (a:Addr):Arg->Sl
|.d x=>.sh x
|.b x=>.bo x
|.o x=>.io a x
def zbk (N:List Str) (a:Addr) (as:List Arg):DSt:=as.map (zd71 a)++vP (N.length - as.length) .un
def oIx:List Arg->Option Nat
|[]=>none
|.o _ :: _=>some 0
|.d _ :: r=>(oIx r).map (·+1)
|.b _ :: r=>(oIx r).map (·+1)
noncomputable def exA (as:List Arg) (a:Addr) (Qd:T->T->Prop) (r:T) (U:DSt):Prop:=match oIx as with
|none=>Qd r (.fz .none)
|some k=>∃ t',U[k]?=some (.io a t')/\Qd r t'
def za51 (as:List Arg) (a:Addr) (Qd:T->T->Prop):DEnds:={ nx:=exA as a Qd (.fz .none),rt:=exA as a Qd }
theorem ztf {F H:Hp}:∀ {vs:List V} {as:List Arg} {bf:List Addr} {oo:Option (Addr×List Addr)},ArgsR K F H vs as bf oo->vs.length=as.length/\∃ fl:Nat->List Addr,
  (∀ (k:Nat) x,as[k]?=some (.d x)->∃ v,vs[k]?=some v/\Is K F v x) /\
  (∀ (k:Nat) x,as[k]?=some (.b x)->∃ v,vs[k]?=some v/\Rt K F H v x (fl k)/\(fl k).Nodup/\∀ b∈fl k,b∈bf) /\
  (∀ (k:Nat) x,as[k]?=some (.o x)->∃ a,vs[k]?=some (.ref a)/\oo=some (a,fl k)/\Rt K F H (.ref a) x (fl k)/\(fl k).Nodup/\oIx as=some k)/\(oo=none->oIx as=none)/\(∀ a fp,oo=some (a,fp)->∃ k x,as[k]?=some (.o x)/\fl k=fp/\oIx as=some k)
|_,_,_,_,.nil=>⟨rfl,λ _=>[],λ k x e=>by simp at e,λ k x e=>by simp at e,λ k x e=>by simp at e,λ _=>rfl,λ a fp e=>by cases e⟩
|_,_,_,_,.d h r=>by
  obtain ⟨hl,fl,h1,h2,h3,h4,h5⟩:=ztf r;refine ⟨by simp [hl],λ k=>fl (k - 1),λ k x e=>?_,λ k x e=>?_,λ k x e=>?_,λ e=>?_,λ a fp e=>?_⟩
  ·cases k with
  |zero=>simp at e;subst e;exact ⟨_,rfl,h⟩
  |succ k=>obtain ⟨v,g1,g2⟩:=h1 k x (by simpa using e);exact ⟨v,by simpa using g1,g2⟩
  ·cases k with
  |zero=>simp at e
  |succ k=>obtain ⟨v,g1,g2⟩:=h2 k x (by simpa using e);exact ⟨v,by simpa using g1,g2⟩
  ·cases k with
  |zero=>simp at e
  |succ k=>obtain ⟨v,g1,g2,g3,g4,g5⟩:=h3 k x (by simpa using e);exact ⟨v,by simpa using g1,g2,g3,g4,by simp [oIx,g5]⟩
  ·simp [oIx,h4 e]
  ·obtain ⟨k,x,g1,g2,g3⟩:=h5 a fp e;exact ⟨k+1,x,by simpa using g1,g2,by simp [oIx,g3]⟩
|_,_,_,_,.b (fp:=fp) (bf:=bf) h nd r=>by
  obtain ⟨hl,fl,h1,h2,h3,h4,h5⟩:=ztf r;refine ⟨by simp [hl],λ k=>if k=0 then fp else fl (k - 1),λ k x e=>?_,λ k x e=>?_,λ k x e=>?_,λ e=>?_,λ a fp' e=>?_⟩
  ·cases k with
  |zero=>simp at e
  |succ k=>obtain ⟨v,g1,g2⟩:=h1 k x (by simpa using e);exact ⟨v,by simpa using g1,g2⟩
  ·cases k with
  |zero=>simp at e;subst e;exact ⟨_,rfl,h,nd,λ b hb=>by simp at hb ⊢;exact .inl hb⟩
  |succ k=>obtain ⟨v,g1,g2,g3,g4⟩:=h2 k x (by simpa using e);exact ⟨v,by simpa using g1,g2,g3,λ b hb=>by have:=g4 b (by simpa using hb);simp [this]⟩
  ·cases k with
  |zero=>simp at e
  |succ k=>obtain ⟨v,g1,g2,g3,g4,g5⟩:=h3 k x (by simpa using e);exact ⟨v,by simpa using g1,g2,g3,g4,by simp [oIx,g5]⟩
  ·simp [oIx,h4 e]
  ·obtain ⟨k,x,g1,g2,g3⟩:=h5 a fp' e;exact ⟨k+1,x,by simpa using g1,by simpa using g2,by simp [oIx,g3]⟩
|_,_,_,_,.o (a:=a) (fp:=fp) h nd r=>by
  obtain ⟨hl,fl,h1,h2,h3,h4,h5⟩:=ztf r;refine ⟨by simp [hl],λ k=>if k=0 then fp else fl (k - 1),λ k x e=>?_,λ k x e=>?_,λ k x e=>?_,λ e=>(by cases e),λ a' fp' e=>?_⟩
  ·cases k with
  |zero=>simp at e
  |succ k=>obtain ⟨v,g1,g2⟩:=h1 k x (by simpa using e);exact ⟨v,by simpa using g1,g2⟩
  ·cases k with
  |zero=>simp at e
  |succ k=>obtain ⟨v,g1,g2,g3,g4⟩:=h2 k x (by simpa using e);exact ⟨v,by simpa using g1,g2,g3,λ b hb=>g4 b (by simpa using hb)⟩
  ·cases k with
  |zero=>simp at e;subst e;exact ⟨a,rfl,rfl,h,nd,rfl⟩
  |succ k =>
    obtain ⟨v,g1,g2,g3,g4,g5⟩:=h3 k x (by simpa using e);cases g2
  ·cases e;exact ⟨0,_,rfl,rfl,rfl⟩
theorem zd8 {N:List Str} {k:Nat} {p:DSpT}
  (body:∀ (f:Addr) (cdv:Value) (A:Around) (outer:List Env) (s:Shared) (H:Hp) (E:XK),Room k (A.deeper (envOfC qual (zi0 st) s.heap.objs.size f cdv))->∃ t d,PSs (cxOf CX0 P w K mg base N qual (zi0 st) f cdv A outer s H E).nox (zx2 st) t/\RfS K t d/\∀ as Qd a,p as Qd->d (za51 as a Qd) (zbk N a as)) :
  zj8 P w K mg base qual st N k (spT K p):=by
 intro f cdv A outer s H vs Q E hr h;obtain ⟨F,as,bf,oo,Qd,sf,ha,hd,hp,hq⟩:=h;obtain ⟨t,d,h1,h2,h3⟩:=body f cdv A outer s H E hr;obtain ⟨hl,fl,a1,a2,a3,a4,a5⟩:=ztf ha;obtain ⟨a,haa⟩:∃ a:Addr,∀ a' fp,oo=some (a',fp)->a'=a:=by
  cases oo with
 |none=>exact ⟨0,λ a' fp e=>by cases e⟩
 |some x=>exact ⟨x.1,λ a' fp e=>by cases e;rfl⟩
 have slot:∀ (i:Nat) sl,(zbk N a as)[i]?=some sl->(sl=.un/\as.length<=i) \/ ∃ g,as[i]?=some g/\sl=zd71 a g:=λ i sl e=>by
  unfold zbk at e;by_cases hi:i < as.length
  ·rw [wN (by simpa using hi),u8] at e;obtain ⟨g,h1,h2⟩:=wO.mp e;exact .inr ⟨g,h1,h2.symm⟩
  ·rw [wK (by simpa using hi),xI] at e;split at e
   ·cases e;exact .inl ⟨rfl,by lia⟩
   ·cases e
 have val:∀ (i:Nat) v,vs[i]?=some v->(_2.start N vs).getD i none=some v:=λ i v e=>by
  have hi:i < vs.length:=by
   rcases wP i vs.length with z|z
   ·exact z
   ·rw [v9 z] at e;cases e
  unfold _2.start;rw [vS,wN (by simpa using hi),u8,e];rfl
 have rs:RS K ⟨F,H,ofp oo⟩ F H (_2.start N vs) (zbk N a as) fl:=by
  refine ⟨λ b o _ z=>z,λ _ _ z=>z,sf,λ b _ z=>z,λ b=>⟨id,id⟩,by simp [_2.start,zbk,hl],λ i x e=>?_,λ i sl e hs=>?_,λ i sl e ho b hb=>?_,λ i j sl sl' hij e1 e2 o1 o2 b hb hb2=>?_⟩
  ·rcases slot i _ e with ⟨z,_⟩|⟨g,e1,e2⟩
   ·cases z
   ·cases g with
   |d x'=>cases e2;obtain ⟨v,g1,g2⟩:=a1 i x e1;exact ⟨v,val i v g1,g2⟩
   |b _=>cases e2
   |o _=>cases e2
  ·rcases slot i _ e with ⟨z,_⟩|⟨g,e1,e2⟩
   ·rw [z] at hs;cases hs
   ·cases g with
   |d x'=>rw [e2] at hs;cases hs
   |b x' =>
     obtain ⟨v,g1,g2,g3,g4⟩:=a2 i x' e1;rw [e2];exact ⟨v,x',val i v g1,rfl,g2,λ a u z=>(by cases z),g3⟩
   |o x' =>
     obtain ⟨a',g1,g2,g3,g4,g5⟩:=a3 i x' e1;have:=haa a' _ g2;subst this;rw [e2];exact ⟨_,x',val i _ g1,rfl,g3,λ a u z=>(by cases z;rfl),g4⟩
  ·rcases slot i _ e with ⟨z,_⟩|⟨g,e1,e2⟩
   ·rw [z] at ho;cases ho
   ·cases g with
   |d x'=>rw [e2] at ho;cases ho
   |b x'=>rw [e2] at ho;cases ho
   |o x' =>
     obtain ⟨a',g1,g2,g3,g4,g5⟩:=a3 i x' e1;refine .inr ⟨?_,λ t z=>?_⟩
     ·show b∈ofp oo;rw [g2];exact hb
     ·rw [e2] at z;cases z
  ·rcases slot i _ e1 with ⟨z,_⟩|⟨g,f1,f2⟩
   ·rw [z] at o1;cases o1
   ·cases g with
   |d x'=>rw [f2] at o1;cases o1
   |b x'=>rw [f2] at o1;cases o1
   |o x' =>
     obtain ⟨a',g1,g2,g3,g4,g5⟩:=a3 i x' f1;rcases slot j _ e2 with ⟨z,_⟩|⟨g',f1',f2'⟩
     ·rw [z] at o2;cases o2
     ·cases g' with
     |d x''=>rw [f2'] at o2;cases o2
     |b x'' =>
       obtain ⟨v,k1,k2,k3,k4⟩:=a2 j x'' f1';exact hd b (by rw [g2];exact hb) (k4 b hb2)
     |o x'' =>
       obtain ⟨a'',k1,k2,k3,k4,k5⟩:=a3 j x'' f1';rw [g5] at k5;exact hij (wI.inj k5)
 have fin:∀ {F' H':Hp} {Y':_2.St} {U':DSt} {fps':Nat->List Addr} {v:V} {r:T} {fpr:List Addr},Res K ⟨F,H,ofp oo⟩ F' H' Y' U' fps' v r fpr->exA as a Qd r U'->Q v H':=λ {F' H' Y' U' fps' v r fpr} res ex=>by
  unfold exA at ex;split at ex
  ·rename_i eo
   refine hq r (.fz .none) ex v F' H' fpr [] ⟨res.rs.hh,res.rs.ff,res.rs.fh,res.rs.nw,res.rs.al,res.rt,res.nd,res.fr,λ a' fp e=>?_⟩;obtain ⟨k,x,g1,g2,g3⟩:=a5 a' fp e;rw [eo] at g3;cases g3
  ·rename_i ko eo
   obtain ⟨t',et,qd⟩:=ex;obtain ⟨x',t'',b1,b2,b3,b4,b5⟩:=res.rs.rt ko _ et rfl;cases b2;have:=b4 a t' rfl;subst this;refine hq r t' qd v F' H' fpr (fps' ko) ⟨res.rs.hh,res.rs.ff,res.rs.fh,res.rs.nw,res.rs.al,res.rt,res.nd,res.fr,λ a' fp e=>?_⟩;have ea:=haa a' fp e;subst ea;refine ⟨b3,b5,λ b hb=>?_,λ b hb=>res.dj ko _ et rfl b hb⟩;rcases res.rs.fr ko _ et rfl b hb with z|⟨z,_⟩
   ·exact .inr z
   ·have:b∈ofp oo:=z;rw [e] at this;exact .inl this
 refine ⟨t,h1,h2 rs (h3 as Qd a hp) ⟨λ r q=>fin ⟨r,.fz .non,.nil,λ a ha=>by simp at ha,λ _ _ _ _ a _ ha=>by simp at ha⟩ q,λ _ z=>z.elim,λ _ z=>z.elim,λ res q=>fin res q⟩⟩
theorem zkw {F H:Hp} {as:List Arg} {bf:List Addr} {oo:Option (Addr×List Addr)} (h:ArgsR K F H vs as bf oo):vs.length=as.length:=(ztf h).1
theorem zxg {p:DSpT} (h:∀ as Qd,p as Qd->as.length=ps.length):∀ vs H Q E,spT K p vs H Q E->vs.length=ps.length:=λ vs H Q E z=>by
 obtain ⟨F,as,bf,oo,Qd,_,ha,_,hp,_⟩:=z;rw [zkw ha];exact h as Qd hp
def zyc (N:List Str) (ds:List D):DSt:=ds.map Sl.sh++vP (N.length - ds.length) .un
def rD (Qd:D->Prop) (r:T) (_:DSt):Prop:=match r with
|.fz d=>Qd d
|.li ds=>Qd (.list ds)
|.ls ts=>∃ d,toD (.ls ts)=some d/\Qd d
|_=>False
theorem zvy {Qd:D->Prop} {r:T} (h:rD Qd r U):∃ d,toD r=some d/\Qd d:=by
 cases r with
|fz d=>exact ⟨d,rfl,h⟩
|li ds=>exact ⟨_,rfl,h⟩
|ls ts=>exact h
|ob _ _=>exact h.elim
|dk _=>exact h.elim
|dt _=>exact h.elim
|tp _=>exact h.elim
|wh=>exact h.elim
theorem zyn {F H:Hp} {N:List Str} {ds:List D} (s:Same F H) (h:IsAll K F vs ds):RS K ⟨F,H,[]⟩ F H (_2.start N vs) (zyc N ds) (λ _=>[]):=by
 have el:=h.dlen;have no:∀ (i:Nat) sl,(zyc N ds)[i]?=some sl->sl.has=true->False:=λ i sl e hs=>by
  unfold zyc at e;by_cases hi:i < ds.length
  ·rw [wN (by simpa using hi),u8] at e;obtain ⟨x,_,z⟩:=wO.mp e;subst z;cases hs
  ·rw [wK (by simpa using hi),xI] at e;split at e
   ·cases e;cases hs
   ·cases e
 refine ⟨λ b o _ z=>z,λ _ _ z=>z,s,λ b _ z=>z,λ b=>⟨id,id⟩,by simp [_2.start,zyc,el],λ i x e=>?_,λ i sl e hs=>(no i sl e hs).elim,λ i sl e ho=>(no i sl e (zr6 ho)).elim,λ i j sl sl' _ e _ o _=>(no i sl e (zr6 o)).elim⟩;unfold zyc at e;unfold _2.start;by_cases hi:i < ds.length
 ·rw [wN (by simpa using hi),u8] at e;obtain ⟨y,hx,z⟩:=wO.mp e;cases z;obtain ⟨v,hv,iv⟩:=h.dget hx;refine ⟨v,?_,iv⟩;rw [vS,wN (by simp;lia),u8,hv];rfl
 ·rw [wK (by simpa using hi),xI] at e;split at e <;> cases e
theorem zmb1 {F0 H0 F H:Hp} {v:V} {r:T} {d:D} (res:Res K ⟨F0,H0,[]⟩ F H Y U fps v r fpr) (e:toD r=some d):∃ F',Ext F0 H0 F' H/\Is K F' v d:=by
 obtain ⟨F2,s1,s2,s3,s4⟩:=ztc1 res.rs.fh res.rt e res.nd;refine ⟨F2,⟨λ b o z=>res.rs.hh b o (by simp) z,res.rs.ff.trans s1,s2,λ b hb fb=>?_⟩,s4⟩;have:b ∉ fpr:=λ z=>hb.1 (res.fr b z);rw [s3 b this];exact res.rs.nw b hb fb
theorem zc3 {N:List Str} {k:Nat} {p:DSp}
  (body:∀ (f:Addr) (cdv:Value) (A:Around) (outer:List Env) (s:Shared) (H:Hp) (E:XK),Room k (A.deeper (envOfC qual (zi0 st) s.heap.objs.size f cdv))->∃ t d,PSs (cxOf CX0 P w K mg base N qual (zi0 st) f cdv A outer s H E).nox (zx2 st) t/\RfS K t d/\∀ ds Qd,p ds Qd->d { nx:=λ _=>Qd .none,rt:=rD Qd } (zyc N ds)) :
  zj8 P w K mg base qual st N k (spD K p):=by
 intro f cdv A outer s H vs Q E hr h;obtain ⟨F,ds,Qd,sf,i,hp,hq⟩:=h;obtain ⟨t,d,h1,h2,h3⟩:=body f cdv A outer s H E hr;refine ⟨t,h1,h2 (zyn sf i) (h3 ds Qd hp) ⟨λ r q=>hq _ q _ _ _ ⟨λ b o z=>r.hh b o (by simp) z,r.ff,r.fh,r.nw⟩ .non,λ _ z=>z.elim,λ _ z=>z.elim,λ res q=>?_⟩⟩;obtain ⟨d',e1,e2⟩:=zvy (U:=[]) q;obtain ⟨F',ex,is⟩:=zmb1 res e1;exact hq _ e2 _ _ _ ex is
theorem zj11 {F:Hp} {ds:List D} (h:IsAll K F vs ds):vs.length=ds.length:=h.dlen
theorem zjb {p:DSp} (h:∀ ds Qd,p ds Qd->ds.length=ps.length):∀ vs H Q E,spD K p vs H Q E->vs.length=ps.length:=λ vs H Q E z=>by
 obtain ⟨F,ds,Qd,_,i,hp,_⟩:=z;rw [zj11 i];exact h ds Qd hp
theorem zts {F:Hp}:∀ ns:List Int,IsAll K F (ns.map V.int) (ns.map u4)
|[]=>.nil
|n :: r=>.cons (.int n) (zts r)
theorem zzc1 {N:List Str} {k:Nat} {fa:Addr} (M:Md K mg) (T:TopDef K "law" st) (hfa:mg "law"=some (.ref fa)) (S:FnScope N ["script"] (zi0 st)) (hb:zya "law" "law" st ["script"])
  (body:∀ base:Heap,K.In base->base.Ns mainGlobals mg->∀ (f:Addr) (cdv:Value) (A:Around) (outer:List Env) (s:Shared) (H:Hp) (E:XK),Room k (A.deeper (envOfC "law" (zi0 st) s.heap.objs.size f cdv)) ->
   ∃ t d,PSs (cxOf CX0 P w K mg base N "law" (zi0 st) f cdv A outer s H E).nox (zx2 st) t/\RfS K t d/\∀ (ns:List Int) (Qd:D->Prop),ns.length<=63->Qd (.bool true)->d { nx:=λ _=>Qd .none,rt:=rD Qd } (zyc N [.list (ns.map .int)])) :
  ∃ fd:FuncData,(∀ (s:Shared) (v:Value),BindsTo s fd ⟨[v],[]⟩ [("script",v)])/\∀ base:Heap,K.In base->base.Ns mainGlobals mg->FnOk P w K mg base CX0 (k+1) fa fd ["script"] (zp51 K):=by
 refine zq61 M T hfa S hb (λ vs H Q E h=>by obtain ⟨a,ns,rfl,_⟩:=h;rfl) λ base kb nb=>?_;intro f cdv A outer s H vs Q E hr h;obtain ⟨a,ns,rfl,hS,hl,hq⟩:=h;obtain ⟨t,d,h1,h2,h3⟩:=body base kb nb f cdv A outer s H E hr;refine ⟨t,h1,h2 (zyn (F:=H) (λ _ _ z=>z) (.cons (.lst hS (zts ns)) .nil)) (h3 ns (λ d=>d=.bool true) hl rfl) ⟨λ r q=>(by cases q),λ _ z=>z.elim,λ _ z=>z.elim,λ res q=>?_⟩⟩;obtain ⟨d',e1,e2⟩:=zvy (U:=[]) q;obtain ⟨F',ex,is⟩:=zmb1 res e1;subst e2;cases is;exact hq _
end
variable {E:DEnds} {U:DSt} {a b:DS} {de:DE} {dg:DG} {i:Int} {ix:List Nat} {n:Nat}
section
variable {K:Fg} {tA:TA} {dA:DF}
def zbz:List D->(D->Prop)->Prop
|[.int i,.int j],Q=>Q (.int (if j < i then j else i))
|_,_=>False
theorem zby:CB K (λ xs H Q=>∃ i j,xs=[V.int i,V.int j]/\Q (V.int (if j < i then j else i)) H) zbz:=by
 intro F H vs ds Qd Q s hv h k;unfold zbz at h;split at h
 ·obtain ⟨v,u,rfl,h1,h2⟩:=vw2 hv;cases h1.int;cases h2.int;exact ⟨_,_,rfl,k _ h _ F H (Ext.refl s) (.int _)⟩
 ·exact h.elim
end
theorem e_dF (df:DF) (U:DSt) (Q:D->Prop):dF df U Q=( df U λ ds=>Q (.list ds)):=rfl
theorem e_dC (d:D) (x_0:DSt) (Q:D->Prop):dC d x_0 Q=( Q d):=rfl
theorem zh61 (f:D->D->(D->Prop)->Prop) (da db:DE) (U:DSt) (Q:D->Prop):dOp f da db U Q=( da U λ x=>db U λ y=>f x y Q):=rfl
theorem ztw (df:DF) (db:DE) (U:DSt) (Q:List D->Prop):dRep df db U Q=( df U λ ds=>db U λ y=>fRep ds y Q):=rfl
theorem zo71 (f:D->(D->Prop)->Prop) (da:DE) (U:DSt) (Q:D->Prop):dUn f da U Q=( da U λ x=>f x Q):=rfl
theorem zom (da:DE) (U:DSt) (Q:D->Prop):zbc1 da U Q=( da U λ x=>fB x λ b=>Q (.bool (!b))):=rfl
theorem zzn (da db:DE) (U:DSt) (Q:D->Prop):zdc1 da db U Q=( da U λ x=>fB x λ b=>if b=true then db U Q else Q (.bool false)):=rfl
theorem zam (de:DE) (U:DSt) (Q:Bool->Prop):zgy de U Q=( de U λ d=>fB d Q):=rfl
theorem zlv (de:DE) (U:DSt) (Q:Bool->Prop):dTru de U Q=( de U λ d=>fTru d Q):=rfl
theorem zjw (dt du:DT) (U:DSt) (Q:Bool->Prop):dAnd dt du U Q=( dt U λ b=>if b=true then du U Q else Q false):=rfl
theorem zb91 (dt du:DT) (U:DSt) (Q:Bool->Prop):dOr dt du U Q=( dt U λ b=>if b=true then Q true else du U Q):=rfl
theorem zsx (dt:DT) (U:DSt) (Q:Bool->Prop):dNot dt U Q=( dt U λ b=>Q (!b)):=rfl
theorem zov (dt:DT) (da db:DE) (U:DSt) (Q:D->Prop):dIfE dt da db U Q=( dt U λ b=>if b=true then da U Q else db U Q):=rfl
theorem zzx (x_0:DSt) (Q:List D->Prop):dNil x_0 Q=( Q []):=rfl
theorem zil (da:DE) (dr:DF) (U:DSt) (Q:List D->Prop):zi51 da dr U Q=( da U λ x=>dr U λ xs=>Q (x :: xs)):=rfl
theorem zbu (dA:DF) (U:DSt) (Q:D->Prop):dTup dA U Q=( dA U λ xs=>xs.length<=sizeLine/\Q (.tuple xs)):=rfl
theorem zfw (dA:DF) (U:DSt) (Q:List D->Prop):dLst dA U Q=( dA U λ xs=>xs.length<=sizeLine/\Q xs):=rfl
theorem zem (p:DSp) (dA:DF) (U:DSt) (Q:D->Prop):zua1 p dA U Q=( dA U λ ds=>p ds Q):=rfl
theorem zr81 (f:List D->(D->Prop)->Prop) (dA:DF) (U:DSt) (Q:D->Prop):dCB f dA U Q=( dA U λ ds=>f ds Q):=rfl
theorem zha1 (f:List D->(List D->Prop)->Prop) (dA:DF) (U:DSt) (Q:List D->Prop):dCF f dA U Q=( dA U λ ds=>f ds Q):=rfl
theorem zb61 (T:String) (da:DE) (U:DSt) (Q:D->Prop):dIs T da U Q=( da U λ d=>(∀ kvs,d≠.dict kvs)/\Q (.bool (isT T d))):=rfl
theorem zge (x_0:DSt) (Q:Option Int->Prop):zgs x_0 Q=( Q none):=rfl
theorem zkn (de:DE) (U:DSt) (Q:Option Int->Prop):zic1 de U Q=( de U λ d=>match d with
|.int i=>Q (some i)
|_=>False):=rfl
theorem zg71 (de:DE) (dl dh:DO) (U:DSt) (Q:D->Prop):dSl de dl dh U Q=( de U λ d=>dl U λ lo=>dh U λ hi=>fSl d lo hi Q):=rfl
theorem zau (de:DE) (dl dh dk:DO) (U:DSt) (Q:List D->Prop):dSl3 de dl dh dk U Q=( de U λ d=>dl U λ lo=>dh U λ hi=>dk U λ st=>match d with
|.list ds=>st≠some 0/\Q (zqm ds lo hi st)
|_=>False):=rfl
theorem zia1 (de:DE) (U:DSt) (Q:List D->Prop):dIt de U Q=( de U λ d=>zsv d Q):=rfl
theorem zbl (dA:DF) (U:DSt) (Q:List D->Prop):zfb1 dA U Q=( dA U λ ds=>match ds with
|[.int j]=>-(2 ^ 62)<=j/\j < 2 ^ 62/\Q (rngD 0 j.toNat)
|_=>False):=rfl
theorem zro (dA:DF) (U:DSt) (Q:List D->Prop):zbb1 dA U Q=( dA U λ ds=>match ds with
|[.int i,.int j]=>(-(2 ^ 62)<=i/\i < 2 ^ 62/\-(2 ^ 62)<=j/\j < 2 ^ 62)/\Q (rngD i (j - i).toNat)
|_=>False):=rfl
theorem zqo (dA:DF) (U:DSt) (Q:List D->Prop):zs71 dA U Q=( dA U λ ds=>match ds with
|[.list a]=>Q (zqq a)
|_=>False):=rfl
theorem e_gN (i:Nat) (d:D) (U:DSt) (G:DSt->Prop):gN i d U G=( G (U.set i (.sh d))):=rfl
theorem zgl (ds:List D) (U:DSt) (G:DSt->Prop):zga1 ds U G=( match ds with
|[]=>G U
|_=>False):=rfl
theorem zxh (g:DG) (gs:DGs) (ds:List D) (U:DSt) (G:DSt->Prop):zrv g gs ds U G=( match ds with
|d :: r=>g d U λ U'=>gs r U' G
|[]=>False):=rfl
theorem e_gT (n:Nat) (gs:DGs) (d:D) (U:DSt) (G:DSt->Prop):gT n gs d U G=( match d with
|.tuple ds=>ds.length=n/\gs ds U G
|_=>False):=rfl
theorem zdm (x_0:DSt) (Q:Bool->Prop):zo51 x_0 Q=( Q true):=rfl
theorem zvu (C:Addr) (f:Str) (dp:DP) (U:DSt) (Q:Nat->Pth->T->Prop):pFld C f dp U Q=( dp U λ i p u=>nCls C u/\nFld f u λ t=>Q i (p++[.fl f]) t):=rfl
theorem zv61 (dp:DP) (di:DE) (U:DSt) (Q:Nat->Pth->T->Prop):pIx dp di U Q=( dp U λ i p u=>di U λ k=>nIx u k λ j t=>Q i (p++[.ix j]) t):=rfl
theorem zm81 (dp:DP) (U:DSt) (Q:D->Prop):dPV dp U Q=( dp U λ _ _ u=>vwT u Q):=rfl
theorem zj81 (dp:DP) (U:DSt) (Q:D->Prop):dPE dp U Q=( dp U λ _ _ u=>fzT u Q):=rfl
theorem e_cE (de:DE) (U:DSt) (Q:T->DSt->Prop):cE de U Q=( de U λ d=>Q (.fz d) U):=rfl
theorem e_cF (df:DF) (U:DSt) (Q:T->DSt->Prop):cF df U Q=( df U λ ds=>Q (.li ds) U):=rfl
theorem zcn (E:DEnds) (U:DSt):zm51 E U=( E.nx U):=rfl
theorem zav (de:DE) (dg:DG) (E:DEnds) (U:DSt):dAsg de dg E U=( de U λ d=>dg d U E.nx):=rfl
theorem zyv (i:Nat) (dc:DC) (E:DEnds) (U:DSt):dSet i dc E U=( dc U λ r U'=>E.nx (U'.set i (slot r))):=rfl
theorem zum (dc:DC) (E:DEnds) (U:DSt):zxb1 dc E U=( dc U λ _ U'=>E.nx U'):=rfl
theorem zju (dc:DC) (E:DEnds) (U:DSt):dRet dc E U=( dc U E.rt):=rfl
theorem zjm (i:Nat) (E:DEnds) (U:DSt):zx51 i E U=( match U[i]? with
|some (.ow t)=>E.rt t (U.set i .un)
|some (.sh d)=>E.rt (.fz d) U
|_=>False):=rfl
theorem zyl (E:DEnds) (U:DSt):zrb1 E U=( E.ct U):=rfl
theorem zx91 (dt:DT) (d e:DS) (E:DEnds) (U:DSt):dIf dt d e E U=( dt U λ b=>if b=true then d E U else e E U):=rfl
theorem ze91 (ty:String) (f:FM) (dp:DP) (dA:DF) (U:DSt) (Q:T->DSt->Prop):cBM ty f dp dA U Q=( dp U λ i p u=>tyN ty u/\dA U λ ds=>f u ds λ u2 d=>mutS U i p u2 λ U'=>Q (.fz d) U'):=rfl
theorem zdw (ty:String) (f:FM) (dp:DP) (U:DSt) (Q:T->DSt->Prop):cBM0 ty f dp U Q=( dp U λ i p u=>tyN ty u/\f u [] λ u2 d=>mutS U i p u2 λ U'=>Q (.fz d) U'):=rfl
theorem zzv (dp:DP) (dk de:DE) (E:DEnds) (U:DSt):dPut dp dk de E U=( de U λ d=>dp U λ i p u=>dk U λ k=>fPut u k d λ u2=>mutS U i p u2 E.nx):=rfl
theorem zsm (f:Int->Int->Int) (dp:DP) (dk de:DE) (E:DEnds) (U:DSt):zwa1 f dp dk de E U=( dp U λ i p u=>dk U λ k=>fGet u k λ x=>de U λ y=>fII f x y λ z=>fPut u k z λ u2=>mutS U i p u2 E.nx):=rfl
theorem zhv (i:Nat) (f:Int->Int->Int) (de:DE) (E:DEnds) (U:DSt):dAug i f de E U=( match U[i]? with
|some (.sh x)=>de U λ y=>fII f x y λ z=>E.nx (U.set i (.sh z))
|_=>False):=rfl
theorem zft (dp:DP) (dk:DE) (U:DSt) (Q:D->Prop):nGet dp dk U Q=( dp U λ _ _ u=>dk U λ k=>fGet u k Q):=rfl
theorem zw51 (neg:Bool) (dk:DE) (dp:DP) (U:DSt) (Q:D->Prop):nIn neg dk dp U Q=( dk U λ k=>dp U λ _ _ u=>fHas neg u k Q):=rfl
theorem zj71 (U:DSt) (Q:T->DSt->Prop):cDT U Q=( Q (.dt []) U):=rfl
theorem e_nF (df:DF) (U:DSt) (Q:T->Prop):nF df U Q=( df U λ ds=>Q (.li ds)):=rfl
theorem e_cN (dn:DN) (U:DSt) (Q:T->DSt->Prop):cN dn U Q=( dn U λ r=>Q r U):=rfl
theorem zcy (C:Addr) (f:Str) (dc:DC) (dp:DP) (E:DEnds) (U:DSt):dFld C f dc dp E U=( dc U λ r U1=>dp U1 λ i p u=>nCls C u/\nSet f u r λ u2=>mutS U1 i p u2 E.nx):=rfl
theorem zzw (i:Nat) (p:Pth) (d:DS) (E:DEnds) (U:DSt):dFrz i p d E U=( fzS U i p λ U'=>d E U'):=rfl
theorem zyt (x_0:DSt) (Q:List ArgP->Prop):aNil x_0 Q=( Q []):=rfl
theorem e_aD (de:DE) (dr:DAT) (U:DSt) (Q:List ArgP->Prop):aD de dr U Q=( de U λ x=>dr U λ as=>Q (.d x :: as)):=rfl
theorem e_aB (dp:DP) (dr:DAT) (U:DSt) (Q:List ArgP->Prop):aB dp dr U Q=( dp U λ i p t=>dr U λ as=>Q (.b i p t :: as)):=rfl
theorem e_aO (dp:DP) (dr:DAT) (U:DSt) (Q:List ArgP->Prop):aO dp dr U Q=( dp U λ i p t=>dr U λ as=>Q (.o i p t :: as)):=rfl
theorem zim (o:Bool) (C:Addr) (m:Str) (p:DSpT) (dp:DP) (da:DAT) (U:DSt) (Q:T->DSt->Prop):zta1 o C m p dp da U Q=( dp U λ i q u=>nCls C u/\noM m u/\da U λ as=>zdz p U ((if o then .o i q u else .b i q u) :: as) Q):=rfl
theorem zym (p:DSpT) (da:DAT) (U:DSt) (Q:T->Prop):zz81 p da U Q=( da U λ as=>zmy p as Q):=rfl
theorem zio (C:Addr) (m:Str) (p:DSpT) (dp:DP) (da:DAT) (U:DSt) (Q:T->Prop):zva1 C m p dp da U Q=( dp U λ i q u=>nCls C u/\noM m u/\da U λ as=>zmy p (.b i q u :: as) Q):=rfl
theorem e_eN (dn:DN) (U:DSt) (Q:D->Prop):eN dn U Q=( dn U λ r=>fzT r Q):=rfl
theorem zmo (C:Addr) (p:DSpT) (da:DAT) (U:DSt) (Q:T->Prop):zfz C p da U Q=( da U λ as=>noO as/\p (.o (.ob C []) :: as.map ArgP.arg) λ r t2=>(match r with|.fz .none=>True|_=>False)/\Q t2):=rfl
theorem zww (i:Nat) (U:DSt) (Q:D->Prop):dVar i U Q=pAt U i λ t=>fzT t Q:=rfl
theorem zok (i:Nat) (U:DSt) (Q:D->Prop):zmk i U Q=pAt U i λ t=>vwT t Q:=rfl
theorem zht (i:Nat) (U:DSt) (Q:Nat->Pth->T->Prop):pVar i U Q=pAt U i λ t=>Q i [] t:=rfl
theorem zjv (s:Sl) (U:DSt) (N:T->Prop):pAt (s :: U) 0 N=slT s N:=rfl
theorem zhu (i:Nat) (s:Sl) (U:DSt) (N:T->Prop):pAt (s :: U) (i+1) N=pAt U i N:=rfl
theorem zvx (U:DSt) (i:Nat) (p:Pth) (u:T) (N:DSt->Prop):mutS U i p u N=(match U[i]? with
|some (.ow t)=>N (U.set i (.ow (setP t p u)))
|some (.io a t)=>N (U.set i (.io a (setP t p u)))
|_=>False):=rfl
theorem za81 (U:DSt) (i:Nat) (p:Pth) (N:DSt->Prop):fzS U i p N=(match U[i]? with
|some (.ow t)=>∃ u d,getP t p=some u/\toD u=some d/\N (U.set i (slot (setP t p (.fz d))))
|some (.sh _)=>N U
|_=>False):=rfl
theorem zeo (U:DSt) (i:Nat):zjy U i=(match U[i]? with
|some (.ow _)=>True
|some (.io _ _)=>True
|_=>False):=rfl
theorem zxr (t u:T):setP t [] u=u:=by cases t <;> rfl
theorem zk21 (ds:List D):tyN "list" (.li ds)=True:=by simp [tyN]
theorem zp31 (ds:List T):tyN "list" (.ls ds)=True:=by simp [tyN]
theorem zm01 (ds:List (Key×D)):tyN "dict" (.dk ds)=True:=by simp [tyN]
theorem zg41 (ds:List (List Key×D)):tyN "dict" (.dt ds)=True:=by simp [tyN]
theorem ze71 (Qd:D->Prop) (d:D) (U:DSt):rD Qd (.fz d) U=Qd d:=rfl
theorem za61 (Qd:D->Prop) (d:List D) (U:DSt):rD Qd (.li d) U=Qd (.list d):=rfl
theorem zca1 (Qd:D->Prop) (d:List T) (U:DSt):rD Qd (.ls d) U=∃ e,toD (.ls d)=some e/\Qd e:=rfl
theorem zqn (p:DSpT) (U:DSt) (as:List ArgP) (Q:T->DSt->Prop):zdz p U as Q=(match zvo as with
|some (i,q,t)=>zjy U i/\oneO i as/\znr t/\p (as.map ArgP.arg) λ r t2=>mutS U i q t2 λ U'=>Q r U'
|none=>noO as/\p (as.map ArgP.arg) λ r _=>Q r U):=rfl
theorem zrl (p:DSpT) (as:List ArgP) (Q:T->Prop):zmy p as Q=(noO as/\p (as.map ArgP.arg) λ r _=>Q r):=rfl
noncomputable def za21 (items:List D) (n:Nat) (ix:List Nat) (dg:DG) (dn:DN) (U:DSt) (Q:T->Prop):Prop:=items.length<=sizeLine/\∃ R:Nat->T->Prop,
 (∀ i d,items[i]?=some d->dg d (cST n ix U) λ U'=>dn U' λ r=>R i r)/\∀ rs:List T,rs.length=items.length->(∀ (j:Nat) r,rs[j]?=some r->R j r)->Q (.ls rs)
theorem zcm (di:DF) (n:Nat) (ix:List Nat) (dg:DG) (dn:DN) (U:DSt) (Q:T->Prop):zhc1 di n ix dg dn U Q=di U λ items=>za21 items n ix dg dn U Q:=rfl
theorem zl31 {α:Type} {xs:List α} {enc:α->D} (f:α->T) {dn:DN} {Q:T->Prop} (hz:xs.length<=sizeLine)
  (h:∀ x∈xs,dg (enc x) (cST n ix U) λ U'=>dn U' λ r=>r=f x) (q:Q (.ls (xs.map f))):za21 (xs.map enc) n ix dg dn U Q:=by
 refine ⟨by rw [u5];exact hz,λ i r=>∀ x,xs[i]?=some x->r=f x,λ i d e=>?_,λ rs hl hR=>?_⟩
 ·rw [u8] at e;obtain ⟨x,hx,rfl⟩:=wO.mp e;have e1:(λ r=>∀ y,xs[i]?=some y->r=f y)=λ r=>r=f x:=by funext r;rw [hx];simp
  show dg (enc x) (cST n ix U) λ U'=>dn U' λ r=>∀ y,xs[i]?=some y->r=f y;rw [e1];exact h x (wF hx)
 ·rw [u5] at hl;have:rs=xs.map f:=by
   apply xV;intro i;rw [u8];by_cases hi:i < rs.length
   ·have e1:rs[i]?=some rs[i]:=u7 hi;have e2:xs[i]?=some (xs[i]'(by lia)):=u7 _;rw [e1,e2,hR i _ e1 _ e2];rfl
   ·rw [v9 (by lia),v9 (by lia)];rfl
  rw [this];exact q
noncomputable def zn51 (items:List D) (n:Nat) (ix:List Nat) (dg:DG) (dt:DT) (de:DE) (U:DSt) (Q:List D->Prop):Prop:=items.length<=sizeLine/\∃ R:Nat->Option D->Prop,
 (∀ i d,items[i]?=some d->dg d (cST n ix U) λ U'=>dt U' λ b=>if b=true then de U' λ r=>R i (some r) else R i none) /\
 ∀ os:List (Option D),os.length=items.length->(∀ (j:Nat) o,os[j]?=some o->R j o)->Q (os.filterMap id)
theorem znt (di:DF) (n:Nat) (ix:List Nat) (dg:DG) (dt:DT) (de:DE) (U:DSt) (Q:List D->Prop):zec1 di n ix dg dt de U Q=di U λ items=>zn51 items n ix dg dt de U Q:=rfl
noncomputable def ForB (items:List D) (dg:DG) (db:DS) (E:DEnds) (U:DSt):Prop:=∃ W:Nat->DSt->Prop,W 0 U /\
 (∀ i d U',items[i]?=some d->W i U'->dg d U' λ U2=>db { E with nx:=W (i+1),ct:=W (i+1),bk:=E.nx } U2)/\∀ U',W items.length U'->E.nx U'
theorem za71 (di:DF) (dg:DG) (db:DS) (E:DEnds) (U:DSt):dFor di dg db E U=di U λ items=>ForB items dg db E U:=rfl
theorem zpg {b:DS} {U:DSt} (h:a { E with nx:=b E } U):dSeq a b E U:=⟨b E,h,λ _ z=>z⟩
theorem ze0 {U:DSt} (h:∀ J:DSt->Prop,(∀ U',b E U'->J U')->a { E with nx:=J } U):dSeq a b E U:=⟨b E,h (b E) λ _ z=>z,λ _ z=>z⟩
theorem zib1 {α:Type} {f:α->Option D}:∀ {xs:List α} {os:List (Option D)},os.length=xs.length->(∀ (j:Nat) o x,os[j]?=some o->xs[j]?=some x->o=f x)->os.filterMap id=xs.filterMap f
|[],[],_,_=>rfl
|x :: xs,o :: os,hl,h=>by
  have e:o=f x:=h 0 o x rfl rfl;have ih:=zib1 (f:=f) (xs:=xs) (os:=os) (by simpa using hl) λ j o' x' h1 h2=>h (j+1) o' x' (by simpa using h1) (by simpa using h2);rw [xF,xF,e,ih];rfl
theorem zp91 {α:Type} {xs:List α} {enc:α->D} (f:α->Option D) {dt:DT} {Q:List D->Prop} (hz:xs.length<=sizeLine)
  (h:∀ x∈xs,dg (enc x) (cST n ix U) λ U'=>dt U' λ b=>if b=true then de U' λ r=>some r=f x else none=f x) (q:Q (xs.filterMap f)):zn51 (xs.map enc) n ix dg dt de U Q:=by
 refine ⟨by rw [u5];exact hz,λ i o=>∀ x,xs[i]?=some x->o=f x,λ i d e=>?_,λ os hl hR=>?_⟩
 ·rw [u8] at e;obtain ⟨x,hx,rfl⟩:=wO.mp e;have:=h x (wF hx);have e1:(λ r=>∀ y,xs[i]?=some y->some r=f y)=λ r=>some r=f x:=by
   funext r;rw [hx];simp
  have e2:(∀ y,xs[i]?=some y->(none:Option D)=f y)=(none=f x):=by rw [hx];simp
  show dg (enc x) (cST n ix U) λ U'=>dt U' λ b=>if b=true then de U' λ r=>∀ y,xs[i]?=some y->some r=f y else ∀ y,xs[i]?=some y->(none:Option D)=f y
  rw [e1,e2];exact this
 ·rw [u5] at hl;rw [zib1 hl λ j o x h1 h2=>hR j o h1 x h2];exact q
theorem zix {α:Type} {xs:List α} {enc:α->D} (g:α->D) {Q:List D->Prop} (hz:xs.length<=sizeLine)
  (h:∀ x∈xs,dg (enc x) (cST n ix U) λ U'=>de U' λ r=>r=g x) (q:Q (xs.map g)):zn51 (xs.map enc) n ix dg zo51 de U Q:=by
 refine zp91 (λ x=>some (g x)) hz (λ x hx=>?_) ?_
 ·have:=h x hx;have e:(λ r=>some r=some (g x))=λ r=>r=g x:=by funext r;simp
  show dg (enc x) (cST n ix U) λ U'=>if true=true then de U' λ r=>some r=some (g x) else none=some (g x)
  rw [e];simp only [if_true];exact this
 ·rw [show xs.filterMap (λ x=>some (g x))=xs.map g from congrFun List.filterMap_eq_map' xs];exact q
theorem zf2 {α:Type} {xs:List α} {enc:α->D} (W:Nat->DSt->Prop) {db:DS} (h0:W 0 U)
  (hs:∀ (i:Nat) x U',xs[i]?=some x->W i U'->dg (enc x) U' λ U2=>db { E with nx:=W (i+1),ct:=W (i+1),bk:=E.nx } U2) (he:∀ U',W xs.length U'->E.nx U'):ForB (xs.map enc) dg db E U:=by
 refine ⟨W,h0,λ i d U' e w=>?_,λ U' w=>he U' (by rw [u5] at w;exact w)⟩;rw [u8] at e;obtain ⟨x,hx,rfl⟩:=wO.mp e;exact hs i x U' hx w
theorem two {c:Prop} [Decidable c] {A B:Prop} (h1:c->A) (h2:¬c->B):if c then A else B:=by
 by_cases h:c
 ·rw [if_pos h];exact h1 h
 ·rw [if_neg h];exact h2 h
noncomputable def cutG {α:Type} (xs:List α) (lo hi:Option Int):List α:=(xs.drop (HT.sIx xs.length 0 lo)).take (HT.sIx xs.length xs.length hi - HT.sIx xs.length 0 lo)
theorem zpm {α:Type} (f:α->D) (xs:List α) (lo hi:Option Int):cutD (xs.map f) lo hi=(cutG xs lo hi).map f:=by
 unfold cutD cutG;rw [u5,List.map_take,List.map_drop]
theorem zq8 {α:Type} (f:α->D) (xs:List α):zqq (xs.map f)=(xs.mapIdx λ i x=>(i,x)).map λ p=>.tuple [.int (p.1:Nat),f p.2]:=by
 unfold zqq;apply xV;intro i;rw [xP,u8,u8,xP];cases xs[i]? <;> rfl
theorem ze6 {α:Type} {xs:List α} {x:α} (h0:0<=i) (h:xs[i.toNat]?=some x):atI xs i=some x:=by
 have e:((i.toNat:Nat):Int)=i:=by lia
 have:=ztc (xs:=xs) (j:=i.toNat) (v:=x) h
 rwa [e] at this
theorem ztp {α:Type} {xs:List α} (f:α->D) (h0:0<=i) (h1:i < (xs.length:Int)):∃ x,xs[i.toNat]?=some x/\atI (xs.map f) i=some (f x):=by
 have h:i.toNat < xs.length:=by lia
 exact ⟨xs[i.toNat],u7 h,ze6 h0 (by rw [u8,u7 h];rfl)⟩
section
variable (K:Fg)
noncomputable def RfH (te:TE) (de:DE):Prop:=∀ {F H:Hp} {Y:_2.St} {U:DSt} {Qd:D->Prop} {Q:VK},Same F H->RV K F H Y U->de U Qd->(∀ d,Qd d->∀ v F' H',Ext F H F' H'->Is K H' v d->Q v H')->te Y H Q
noncomputable def RfAH (ta:TA) (da:DF):Prop:=∀ {F H:Hp} {Y:_2.St} {U:DSt} {Qd:List D->Prop} {Q:List V->Hp->Prop},Same F H->RV K F H Y U->da U Qd->(∀ ds,Qd ds->∀ vs F' H',Ext F H F' H'->IsAll K H' vs ds->Q vs H')->ta Y H Q
end
section
variable {K:Fg} {te ta tb:TE} {de da db:DE} {tA:TA} {dA:DF}
theorem RfV.h (h:RfV K te de):RfH K te de:=λ s r d k=>h s r d λ x q v F' H' e i=>k x q v F' H' e (i.is e.fh)
theorem zr01:RfAH K tNil dNil:=λ s rv h k=>k _ h _ _ _ (Ext.refl s) .nil
theorem zmu {F H:Hp} {p:Addr} {o:HO} (s:Same F H) (hn:H p=none):Ext F H F (upd H p o) :=
 ⟨zt1 hn _,λ _ _ z=>z,λ b o z=>zt1 hn _ b o (s b o z),λ _ _ z=>z⟩
theorem zuy (h:RfAH K tA dA):RfH K (zl51 tA) (dF (dLst dA)):=by
 intro F H Y U Qd Q s rv hd k;refine h s rv hd λ xs hx vs F1 H1 e1 i1=>⟨by rw [i1.dlen];exact hx.1,λ p hp=>?_⟩
 exact k _ hx.2 _ _ _ (e1.trans (zmu e1.fh hp)) (.lst (SqL.of zn0) (i1.mono (zt1 hp _)))
noncomputable def R2H (K:Fg) (r:R2) (f:D->D->(D->Prop)->Prop):Prop:=∀ {F H:Hp} {x y:V} {d e:D} {Qd:D->Prop} {Q:VK},Same F H->Is K H x d->Is K H y e->f d e Qd->(∀ z,Qd z->∀ v F' H',Ext F H F' H'->Is K F' v z->Q v H')->r x y H Q
theorem zr2 {r:R2} {f:D->D->(D->Prop)->Prop} (hr:R2H K r f) (ha:RfH K ta da) (hb:RfH K tb db):RfE K (tOp r ta tb) (dOp f da db):=by
 intro F H Y U Qd Q s rv h k;refine ha s rv h λ x hx v F1 H1 e1 i1=>hb e1.fh (rv.ext e1) hx λ y hy u F2 H2 e2 i2=>?_;exact hr e2.fh (i1.mono e2.h) i2 hy λ z hz w F3 H3 e3 i3=>k z hz w F3 H3 ((e1.trans e2).trans e3) i3
theorem q_eq:R2H K (rEqU K) fEq:=by
 intro F H x y d e Qd Q s hx hy h k;unfold fEq at h;split at h
 ·cases hx.int_inv;cases hy.int_inv;refine .inl ⟨rfl,k _ h _ F H (Ext.refl s) ?_⟩;rw [zre];exact .bl _
 ·cases hx.str_inv;cases hy.str_inv;refine .inl ⟨rfl,k _ h _ F H (Ext.refl s) ?_⟩;rw [zme];exact .bl _
 ·cases hx.bl_inv;cases hy.bl_inv;refine .inl ⟨rfl,k _ h _ F H (Ext.refl s) ?_⟩;rw [zxl];exact .bl _
 ·exact .inr ⟨_,_,hx,hy,h.1,h.2.1,k _ h.2.2 _ F H (Ext.refl s) (.bl _)⟩
theorem q_ne:R2H K (rNeU K) fNe:=by
 intro F H x y d e Qd Q s hx hy h k;unfold fNe at h;split at h
 ·cases hx.int_inv;cases hy.int_inv;refine .inl ⟨rfl,k _ h _ F H (Ext.refl s) ?_⟩;rw [zre];exact .bl _
 ·cases hx.str_inv;cases hy.str_inv;refine .inl ⟨rfl,k _ h _ F H (Ext.refl s) ?_⟩;rw [zme];exact .bl _
 ·cases hx.bl_inv;cases hy.bl_inv;refine .inl ⟨rfl,k _ h _ F H (Ext.refl s) ?_⟩;rw [zxl];exact .bl _
 ·exact .inr ⟨_,_,hx,hy,h.1,h.2.1,k _ h.2.2 _ F H (Ext.refl s) (.bl _)⟩
end
theorem zut (i:Int):isT "int" (.int i)=true:=rfl
theorem zr21 (i:Int):isT "bool" (.int i)=false:=by simp [isT,tyD]
theorem zvv (i:List D):isT "list" (.list i)=true:=rfl
theorem zyu (i:List D):isT "tuple" (.tuple i)=true:=rfl
theorem zvt (i:Str):isT "str" (.str i)=true:=rfl
theorem zmz (i:Int):(∀ kvs,u4 i≠.dict kvs)=True:=by simp
theorem zbr (i:List D):(∀ kvs,v5 i≠.dict kvs)=True:=by simp
theorem zu01 (i:List D):(∀ kvs,wV i≠.dict kvs)=True:=by simp
theorem zz21 (i:Str):(∀ kvs,PyData.str i≠.dict kvs)=True:=by simp
theorem zla1 (i:Bool):(∀ kvs,yC i≠.dict kvs)=True:=by simp
theorem zf01:(∀ kvs,PyData.none≠.dict kvs)=True:=by simp
end _4
namespace _3
open PySem PySem.Spec PyProof.Rows _2
variable {K:Fg}
section
variable {X:Cx}
theorem zgp {C:Addr} {m:Str} {k:Nat} {ps:List Str} {sp:Sp} {o:Expr} {ta:TE} {apos pos:Pos} {pl:Sem Bool} (d:MethD X.prog X.w X.K X.mg X.base C m k ps sp) (hr:Room k X.A) (he:PE X o ta)
  (ht:eval (.Call (.Attribute o m apos) [] [] pos) X.env=(do
   let ov <- eval o X.env
   standAt apos.atName
   let (f,first) <- holding [ov] (getMethod ov m pl)
   callWith pos f first (backTo pos (starEach [] X.env)) (backToKw pos (keywordEach [] X.env))):=by rfl) :
  PE X (.Call (.Attribute o m apos) [] [] pos) (zry C m sp [] E0 ta tNil):=by
 obtain ⟨f,fd,c,M,F,b⟩:=d;exact zex he c M F hr b .nil zhy ht
noncomputable def zu51 (K:Fg) (le:Int->Int->Prop):List V->Hp->VK->Prop:=λ vs H Q=>∃ (a:Addr) (ns:List Int),vs=[.ref a]/\SqL K H a (ns.map V.int)/\ns≠[]/\∀ M∈ns,(∀ x∈ns,le M x)->Q (.int M) H
theorem zdq (h:X.K=K) (hc:X.calm=true):CallR X (.builtin "min") (zu51 K λ M x=>M<=x):=by
 subst h;intro pins s Y H xs us Q I r h;obtain ⟨a,ns,rfl,hx,hne,q⟩:=h;obtain ⟨u,rfl,r1⟩:=zup r;cases r1;obtain ⟨its,rv,p,hz⟩:=I.list hx;have hi:IntsAre its ns:=zj3 rv;obtain ⟨ys,hy⟩:=hi.allInts.items;have hl:s.heap.IsList a (intItems ys):=hy ▸ p.isList;have e1:ns=ys.toList.map (·.1):=by
  rw [<- nums_intItems,<- hy];exact (show numsOf its.toArray.toList=ns from hi.numsOf).symm
 have hsz:0 < ys.size:=by
  rcases j5 ys.size with z|z
  ·exact absurd (by rw [e1];exact uaP.mpr (zI (by simpa using z))) hne
  ·exact z
 refine min_intList (I.ok.hd hc) hl hsz λ v h' tk hv hk=>?_;obtain ⟨t,rfl⟩:=intItems_at hv;obtain ⟨h1,h2⟩:=argBest_lt (numAt ys) (ys.size - 1);refine ⟨.int _,H,I.kept hk,⟨_,rfl⟩,q _ ?_ λ x hx'=>?_⟩
 ·rw [numAt_eq,e1];exact getD_mem (by rw [u5,wT];lia)
 ·rw [e1] at hx';obtain ⟨j,hj,rfl⟩:=mem_getD hx';rw [u5,wT] at hj;rw [<- numAt_eq];exact h2 j (by lia)
theorem ziq (h:X.K=K) (hc:X.calm=true):CallR X (.builtin "max") (zu51 K λ M x=>x<=M):=by
 subst h;intro pins s Y H xs us Q I r h;obtain ⟨a,ns,rfl,hx,hne,q⟩:=h;obtain ⟨u,rfl,r1⟩:=zup r;cases r1;obtain ⟨its,rv,p,hz⟩:=I.list hx;have hi:IntsAre its ns:=zj3 rv;obtain ⟨ys,hy⟩:=hi.allInts.items;have hl:s.heap.IsList a (intItems ys):=hy ▸ p.isList;have e1:ns=ys.toList.map (·.1):=by
  rw [<- nums_intItems,<- hy];exact (show numsOf its.toArray.toList=ns from hi.numsOf).symm
 have hsz:0 < ys.size:=by
  rcases j5 ys.size with z|z
  ·exact absurd (by rw [e1];exact uaP.mpr (zI (by simpa using z))) hne
  ·exact z
 refine max_intList (I.ok.hd hc) hl hsz λ v h' tk hv hk=>?_;obtain ⟨t,rfl⟩:=intItems_at hv;obtain ⟨h1,h2⟩:=argBest_gt (numAt ys) (ys.size - 1);refine ⟨.int _,H,I.kept hk,⟨_,rfl⟩,q _ ?_ λ x hx'=>?_⟩
 ·rw [numAt_eq,e1];exact getD_mem (by rw [u5,wT];lia)
 ·rw [e1] at hx';obtain ⟨j,hj,rfl⟩:=mem_getD hx';rw [u5,wT] at hj;rw [<- numAt_eq];exact h2 j (by lia)
end
end _3
namespace _4
open PySem PySem.Spec PyProof.Rows _2 _3
section
variable {K:Fg} {te ta ti tv tk tb:TE} {de da di dk db:DE} {dc:DC} {tA:TA} {dA:DF}
abbrev fXor:=fI0 λ i j=>.int (Builtin.bitXor i j)
theorem zlc1:R2E K (rI0 λ i j=>V.int (Builtin.bitXor i j)) fXor:=r_I0 λ _ _ _=>.int _
theorem zis (x:Int):Builtin.bitXor x 1=x+1 - 2 * (x % 2):=by
 rw [PyProof.Rows.bitXor_and,PyProof.Rows.bitAnd_m1]
def zk31:List D->(D->Prop)->Prop
|[.list ds],Q=>∃ ns,zpr ds=some ns/\ns≠[]/\∀ M∈ns,(∀ x∈ns,M<=x)->Q (.int M)
|_,_=>False
def zu41:List D->(D->Prop)->Prop
|[.list ds],Q=>∃ ns,zpr ds=some ns/\ns≠[]/\∀ M∈ns,(∀ x∈ns,x<=M)->Q (.int M)
|_,_=>False
theorem zq91:CB K (zu51 K λ M x=>M<=x) zk31:=by
 intro F H vs ds Qd Q s hv h k;unfold zk31 at h;split at h
 ·obtain ⟨v,rfl,hw⟩:=vw1 hv;obtain ⟨p,xs,rfl,h1,i1⟩:=hw.list s;obtain ⟨ns,e,hne,q⟩:=h;have:=zcd i1 e;subst this;exact ⟨p,ns,rfl,h1,hne,λ M hM hx=>k _ (q M hM hx) _ F H (Ext.refl s) (.int _)⟩
 ·exact h.elim
theorem zc61:CB K (zu51 K λ M x=>x<=M) zu41:=by
 intro F H vs ds Qd Q s hv h k;unfold zu41 at h;split at h
 ·obtain ⟨v,rfl,hw⟩:=vw1 hv;obtain ⟨p,xs,rfl,h1,i1⟩:=hw.list s;obtain ⟨ns,e,hne,q⟩:=h;have:=zcd i1 e;subst this;exact ⟨p,ns,rfl,h1,hne,λ M hM hx=>k _ (q M hM hx) _ F H (Ext.refl s) (.int _)⟩
 ·exact h.elim
def cDK1 (dk de:DE):DC:=λ U Q=>dk U λ k=>de U λ v=>∃ key,keyD k=some key/\Q (.dk [(key,v)]) U
theorem zlw (dk de:DE) (U:DSt) (Q:T->DSt->Prop):cDK1 dk de U Q=(dk U λ k=>de U λ v=>∃ key,keyD k=some key/\Q (.dk [(key,v)]) U):=rfl
theorem zr71 (hk:RfE K tk dk) (he:RfE K tv de):RfC K (zpa1 [(tk,tv)]) (cDK1 dk de):=by
 intro B F H Y U fps Qd Q r hd k p hp;have r1:=r.grow (zrj (o:=.dK []) r.fh hp);have fp:F p=none:=by
  cases e:F p with
 |none=>rfl
 |some o=>rw [r.fh p o e] at hp;cases hp
 show tk Y _ _;refine hk r1.fh r1.rv hd λ kd hkd kv F1 H1 e1 i1=>he e1.fh (r1.grow e1).rv hkd λ v hv vv F2 H2 e2 i2=>?_;obtain ⟨key,ek,q⟩:=hv;have:=zlg i1 ek;subst this;have e12:=e1.trans e2;have hp2:H2 p=some (.dK []):=e12.h _ _ zn0;have fp2:F2 p=none:=e12.nwo zn0 (λ _=>nofun) fp;refine ⟨hp2,[(key,vv)],rfl,by simp,?_⟩;have ex:Ext F H F2 (upd H2 p (.dK (zng [] [(key,vv)]))):=by
  have e0:=(zrj (o:=.dK []) r.fh hp).trans e12;refine ⟨λ b o z=>?_,e0.f,λ b o z=>?_,e0.nw⟩
  ·have:b≠p:=λ y=>by subst y;rw [hp] at z;cases z
   rw [zr0 this];exact e0.h b o z
  ·have:b≠p:=λ y=>by subst y;rw [fp2] at z;cases z
   rw [zr0 this];exact e0.fh b o z
 have hm:zng [] [(key,vv)]=[(key,vv)]:=rfl;rw [hm] at ex ⊢;refine k _ _ q (.ref p) F2 _ fps [p] ⟨r.grow ex,.dk zn0 fp2 (.cons i2 .nil),by simp,λ b hb=>?_,λ j s ej hs b hb hb2=>?_⟩
 ·simp at hb;subst hb;exact (r.newOk hp).1
 ·simp at hb2;subst hb2;exact (r.newOk hp).2 j s ej hs hb
noncomputable def zeb1 (de:DE) (f:D->D->(D->Prop)->Prop) (dc:DC) (db:DE):DC:=λ U Q=>de U λ x=>dc U λ r U1=>fzT r λ y=>db U1 λ z=>f y z λ w=>fIx x w λ d=>Q (.fz d) U1
theorem zyk (de:DE) (f:D->D->(D->Prop)->Prop) (dc:DC) (db:DE) (U:DSt) (Q:T->DSt->Prop):zeb1 de f dc db U Q=(de U λ x=>dc U λ r U1=>fzT r λ y=>db U1 λ z=>f y z λ w=>fIx x w λ d=>Q (.fz d) U1):=rfl
theorem zi01 {w:World} {r:R2} {f:D->D->(D->Prop)->Prop} (he:RfE K te de) (hr:R2E K r f) (hc:RfC K ta dc) (hb:RfE K tb db):RfC K (tOp (rIxV w K) te (tOp r ta tb)) (zeb1 de f dc db):=by
 intro B F H Y U fps Qd Q rs hd k;refine he rs.fh rs.rv hd λ x hx xv F1 H1 e1 i1=>?_;have r1:=rs.grow e1
 -- what is frozen stays: the base remembers F1
 have s0:=r1.ff;have n0:=r1.nw;refine hc (r1.rem s0 (λ _ _ z=>z)) hx λ t U1 ht yv F2 H2 fps2 fpr res=>?_;obtain ⟨y,hy,iy⟩:=zv41 res.rt ht;refine hb res.rs.fh res.rs.rv hy λ z hz zv F3 H3 e3 i3=>?_;refine hr e3.fh (.inl (iy.mono e3.f)) (.inl i3) hz λ wd hw wv F4 H4 e4 i4=>?_;have e34:=e3.trans e4;have sF:Same F1 F4:=(show Same F1 F2 from res.rs.ff).trans e34.f;refine r_ix (w:=w) e4.fh (.inl (i1.mono sF)) (.inl i4) hw λ d hd' v F5 H5 e5 i5=>?_;refine k _ _ hd' v F5 H5 fps2 [] ⟨((res.rs.grow (e34.trans e5)).unrem s0 n0),.fz i5,.nil,λ a ha=>by simp at ha,λ _ _ _ _ a _ ha=>by simp at ha⟩
end
end _4
namespace _3
open PySem PySem.Spec PyProof.Rows _2
section
variable {X:Cx}
noncomputable def zkr (K:Fg):List V->Hp->VK->Prop:=λ vs H Q=>∃ (a:Addr) (ns:List Int),vs=[.ref a]/\(SqL K H a (ns.map V.int) \/ ∃ kvs:List (Key×V),H a=some (.dK kvs)/\kvs.map (·.1)=ns.map v7)/\ns.length < 64 /\
 ∀ ns':List Int,ns'.Perm ns->ns'.Pairwise (·<=·)->∀ l,H l=none->Q (.ref l) (upd H l (.lst (ns'.map V.int)))
theorem zqd {P:Program} {w:World} {i:Int} {v:Value} (h:(zq1 P w).is (.inl i) v=true):∃ t,v=.int i t:=by
 have h:yR i v=true:=h;cases v <;> first
 |(simp [yR] at h;subst h;exact ⟨_,rfl⟩)
 |(simp [yR] at h)
theorem zue:∀ {vs:List Value} {ns:List Int},vs.length=ns.length->(∀ (j:Nat) v i,vs[j]?=some v->ns[j]?=some i->∃ t,v=.int i t)->IntsAre vs ns
|[],[],_,_=>.nil
|[],_ :: _,h,_=>by simp at h
|_ :: _,[],h,_=>by simp at h
|v :: vs,i :: ns,h,q=>by
  obtain ⟨t,rfl⟩:=q 0 v i rfl rfl;exact .cons i t (zue (by simpa using h) λ j v i a b=>q (j+1) v i (by simpa using a) (by simpa using b))
theorem zih {K:Fg} (h:X.K=K) (hc:X.calm=true):CallR X (.builtin "sorted") (zkr K):=by
 subst h;intro pins s Y H xs us Q I r h;obtain ⟨a,ns,rfl,hx,hz,q⟩:=h;obtain ⟨u,rfl,r1⟩:=zup r;cases r1;rcases hx with hx|⟨kvs,hx,hk⟩
 ·obtain ⟨its,rv,p,hz'⟩:=I.list hx;have hi:IntsAre its ns:=zj3 rv;refine sorted_ints p.isList hi (by rw [rv.length.symm,u5];exact hz) λ out ns' a1 a2 a3=>?_;obtain ⟨e,he⟩:=sortedAll_at s.heap its out;refine ⟨.ref _,upd H (s.heap.objs.size+1) (.lst (ns'.map V.int)),I.laid (a:=s.heap.objs.size+1) (t':=s.toks) (λ b o=>sortedAll_old) (zC _) ?_,rfl,q ns' a2 a3 _ (I.hok.fresh (zC _))⟩;refine ⟨by rw [u5,a2.length_eq,sizeLine_eq];lia,out.toList,e,zca a1,?_⟩
  simpa [seqObj] using he
 ·obtain ⟨z,hd,vs0,r0,dd⟩:=zs51 I.hok hx;obtain ⟨ep,hat⟩:=dd.dictAt;have hlen:vs0.length=ns.length:=by
   have h1:=r0.length;have h2:=congrArg zD hk;rw [u5,u5] at h2;lia
  refine Calls.call_function_entry kind_sorted plain_sorted entry_sorted (args_sorted1 _) ?_;unfold Builtin.«sorted»;refine wpAny_bind (m:=checkCount "sorted" 1 1 _) (wpAny_pure ?_);refine wpAny_bind (PySem.W.kdu_collect (A:=X.A.in1) (PySem.W.kdl_dict (knd:=zq1 X.prog X.w) (kvs:=vs0) (ep:=ep) hd) (I.ok.hd hc) hat (by rw [sizeLine_eq];lia) λ h' tk acc hk' hacc=>?_);have hl:acc.toList.length=vs0.length:=by rw [wT];exact hacc.1
  have hI:IntsAre acc.toList ns:=zue (by rw [hl,hlen]) λ j v i e1 e2=>by
   obtain ⟨k,x,e3,e4⟩:=hacc.2 j v (by rw [<- yA];exact e1);have:k=.inl i:=by
    have e5:(kvs.map (·.1))[j]?=some k:=by
     have kk:∀ {l:List (Key×V)} {m:List (Key×Value)} {j:Nat} {k x},KV l m->m[j]?=some (k,x)->(l.map (·.1))[j]?=some k:=by
      intro l m j k x r;unfold KV at r
      induction r generalizing j with
     |nil=>intro e;simp at e
     |cons h t ih =>
       intro e;cases j with
      |zero=>simp at e;simp [h.1,e]
      |succ j=>simp at e ⊢;simpa using ih e
     exact kk r0 e3
    rw [hk,u8,e2] at e5
    simpa using e5.symm
   subst this;exact zqd e4
  refine wpAny_bind (wpAny_newList ?_ (by rw [hl,sizeLine_eq];lia));have hoL:(h'.push { cls:=.type "list",data:=.seq acc.toList.toArray }).get? h'.objs.size=some (seqObj "list" acc.toList.toArray 0):=v4 _ rfl;refine wpAny_bind (wpAny_holding (wpAny_call_entry slot_list_sort ⟨_,hoL,rfl⟩ entry_list_sort (list_sort_tree hoL hI (by rw [hl];lia) λ out ns' a1 a2 a3=>⟨_,rfl,?_⟩) (args_list_sort _)));refine wpAny_pure ⟨_,rfl,?_⟩;obtain ⟨e,he⟩:=sortedHeap_at (out:=out) hoL;have I2:=I.kept (t':=tk) hk';refine ⟨.ref _,upd H h'.objs.size (.lst (ns'.map V.int)),I2.laid (a:=h'.objs.size) (t':=tk) (λ b o ho=>?_) (u6 _) ?_,rfl,q ns' a2 a3 _ (I2.hok.fresh (u6 _))⟩
  ·have hlt:=vO ho;rw [sortedHeap_old (wC hlt) (by rw [size_push'];exact yJ hlt)];exact vM _ ho
  ·refine ⟨by rw [u5,a2.length_eq,sizeLine_eq];lia,out.toList,e,zca a1,?_⟩
   simpa [seqObj] using he
end
end _3
namespace _4
open PySem PySem.Spec PyProof.Rows _2 _3
section
variable {K:Fg} {te ta ti tv tk tb:TE} {de da di dk db:DE} {dc:DC} {dp:DP} {tA:TA} {dA:DF}
theorem zfo {F:Hp}:∀ (ns:List Int),IsAll K F (ns.map V.int) (ns.map u4)
|[]=>.nil
|n :: r=>.cons (.int n) (zfo r)
theorem KvIs.keys {F:Hp}:∀ {kvs:List (Key×V)} {ds:List (Key×D)},KvIs K F kvs ds->kvs.map (·.1)=ds.map (·.1):=by
 intro kvs ds h
 induction h with
|nil=>rfl
|cons a r ih=>simp_all
noncomputable def zdy (u:T) (Q:List D->Prop):Prop:=match u with
|.dk kvs=>∃ ns:List Int,kvs.map (·.1)=ns.map v7/\ns.length < 64/\∀ ns':List Int,ns'.Perm ns->ns'.Pairwise (·<=·)->Q (ns'.map .int)
|_=>False
def zu11 (dp:DP):DF:=λ U Q=>dp U λ _ _ u=>zdy u Q
theorem zpu (hp:RfP K ta dp):RfF K (tCB (zkr K) (zrc ta tNil)) (zu11 dp):=by
 intro F H Y U Qd Q s rv h k;refine hp s rv h λ i p u hu v F2 H2 e2 at2=>?_;obtain ⟨fn,hr⟩:=at2.rt (rv.ext e2);cases hr with
|dk h1 h2 h3 =>
  obtain ⟨ns,ek,hz,q⟩:=hu;refine ⟨_,ns,rfl,.inr ⟨_,h1,by rw [<- ek];exact h3.keys⟩,hz,λ ns' p1 p2 l hl=>?_⟩;obtain ⟨ex,fn⟩:=ze7 (xs:=ns'.map V.int) e2.fh hl;have hn:H l=none:=by
   cases z:H l with
  |none=>rfl
  |some o=>rw [e2.h l o z] at hl;cases hl
  exact k _ (q ns' p1 p2) l _ F2 _ (e2.trans ex) hn zn0 fn (zfo ns')
|fz _=>exact hu.elim
|li _ _ _=>exact hu.elim
|ls _ _ _=>exact hu.elim
|ob _ _ _ _ _=>exact hu.elim
|dt _ _ _=>exact hu.elim
|tp _ _ _ _=>exact hu.elim
|wh=>exact hu.elim
theorem zdg (dp:DP) (U:DSt) (Q:List D->Prop):zu11 dp U Q=(dp U λ _ _ u=>zdy u Q):=rfl
theorem zug (kvs:List (Key×D)) (Q:List D->Prop):zdy (.dk kvs) Q=∃ ns:List Int,kvs.map (·.1)=ns.map v7/\ns.length < 64/\∀ ns':List Int,ns'.Perm ns->ns'.Pairwise (·<=·)->Q (ns'.map .int):=rfl
end
end _4
namespace _3
open PySem PySem.Spec PyProof.Rows _2
variable {K:Fg} {ps:List Str} {sp:Sp} {st:Stmt} {x:Str}
structure TopDefN (K:Fg) (x:Str) (st:Stmt):Prop where
 ex:∃ (f T:Addr) (oc:Value) (od:Option Addr) (kV doc pm:Value) (an:Option Addr) (cdv ct:Value) (osl:Array (Option Value)) (o:Obj) (n:Nat),PySem.W.nsIn K mainGlobals x=some (some (.ref f)) /\
  K.lookup f=some ⟨oc,od,.func (PySem.W.fnOf x x (zr7 st) (zx2 st) (zi0 st) (.ref T) kV doc pm an cdv ct),osl⟩/\PySem.W.codeIn K cdv x=true/\PySem.W.keepIn K (.ref f)=true/\K.lookup T=some o/\o.data=.seq #[.none] n
theorem zml {f T:Addr} {oc:Value} {od an:Option Addr} {osl:Array (Option Value)} {kV doc pm cdv ct:Value} {o:Obj} {n:Nat} (a:PySem.W.nsIn K mainGlobals x=some (some (.ref f)))
  (l:K.lookup f=some ⟨oc,od,.func (PySem.W.fnOf x x (zr7 st) (zx2 st) (zi0 st) (.ref T) kV doc pm an cdv ct),osl⟩) (c:PySem.W.codeIn K cdv x=true) (k:PySem.W.keepIn K (.ref f)=true) (lt:K.lookup T=some o) (hd:o.data=.seq #[.none] n):TopDefN K x st :=
 ⟨f,T,oc,od,kV,doc,pm,an,cdv,ct,osl,o,n,a,l,c,k,lt,hd⟩
noncomputable def DefN (P:Program) (w:World) (K:Fg) (mg:Str->Option Value) (base:Heap) (x:Str) (k:Nat) (ps:List Str) (sp:Sp):Prop :=
 ∃ f fd,FnOk P w K mg base CX0 k f fd ps sp/\Binds K fd ps []/\Binds K fd ps [.none]/\PySem.W.keepIn K (.ref f)=true/\mg x=some (.ref f)
theorem DefN.d {P:Program} {w:World} {mg:Str->Option Value} {base:Heap} {k:Nat} (h:DefN P w K mg base x k ps sp):Def P w K mg base x k ps sp:=by
 obtain ⟨f,fd,F,b,_,kp,m⟩:=h;exact ⟨f,fd,F,b,kp,m⟩
noncomputable abbrev zfi (x:Str) (st:Stmt) (ps:List Str) (ds:List Value) (qs:List Str):Prop :=
 ∀ (T:Addr) (kV doc pm:Value) (an:Option Addr) (cdv ct:Value) (us:List Value),us.length=qs.length->∃ k:Option (Array Value)->Sem (List (Str×Value)),bindArgs (PySem.W.fnOf x x (zr7 st) (zx2 st) (zi0 st) (.ref T) kV doc pm an cdv ct) ⟨us,[]⟩=seqItems? (.ref T) >>= k/\k (some #[.none])=pure (ps.zip (us++ds))
section
variable {P:Program} {w:World} {K:Fg} {mg:Str->Option Value} {base:Heap}
theorem znz {N:List Str} {k:Nat} (M:Md K mg) (T:TopDefN K x st) (S:FnScope N ps (zi0 st)) {qs:List Str} (hq:ps.length=qs.length+1) (hb:zfi x st ps [] ps) (hn:zfi x st ps [.none] qs) (len:∀ vs H Q E,sp vs H Q E->vs.length=ps.length)
  (body:zj8 P w K mg base x st N k sp):DefN P w K mg base x (k+1) ps sp:=by
 obtain ⟨f,t,oc,od,kV,doc,pm,an,cdv,ct,osl,o,n,a,lk,hcd,kp,lt,hd⟩:=T.ex;refine ⟨f,_,zna1 lk hcd S len λ A outer s H vs Q E hr hsp=>?_,λ s us kin hl=>?_,λ s us kin hl=>?_,kp,M.got a⟩
 ·obtain ⟨t,h,q⟩:=body f cdv A outer s H vs Q E hr hsp;exact ⟨t,PSs.nox h,q⟩
 ·obtain ⟨kk,e1,e2⟩:=hb t kV doc pm an cdv ct us (by simpa using hl);exact PySem.W.binds_K kin rfl lt hd e1 e2
 ·obtain ⟨kk,e1,e2⟩:=hn t kV doc pm an cdv ct us (by rw [vK] at hl;simp only [yV] at hl;lia);exact PySem.W.binds_K kin rfl lt hd e1 e2
end
section
variable {X:Cx} {k:Nat} {C:Addr} {ps:List Str} {sp:Sp} {x m:Str} {p pos apos:Pos} {e o:Expr} {es:List Expr} {ta:TE} {t:TA}
theorem zrx (d:DefN X.prog X.w X.K X.mg X.base x k ps sp) (hr:Room k X.A) (hg:Gl X x) (ha:PA X (e :: es) t) (hdb:(x == ("__debug__":Str))=false:=by decide)
  (he:starEach (e :: es) X.env=(false,eval e X.env) :: starEach es X.env:=by rfl) (hpl:(backTo pos (starEach es X.env)).any (·.1)=false:=by rfl):PE X (.Call (.Name x p) (e :: es) [] pos) (zly sp [.non] E0 t):=by
 obtain ⟨f,fd,F,_,b,kp,m⟩:=d;exact zhr F hr hg m kp b (.cons rfl .nil) zhy ha hdb he hpl
end
end _3
namespace _4
open PySem PySem.Spec PyProof.Rows _2 _3
section
variable {K:Fg} {te ta ti tv tk tb:TE} {de da di dk db:DE} {dc:DC} {dp:DP} {tA:TA} {dA:DF}
def zl11 (p:DSp) (dA:DF):DE:=λ U Q=>dA U λ ds=>p (ds++[.none]) Q
theorem zjz {F:Hp}:∀ {vs us:List V} {ds es:List D},IsAll K F vs ds->IsAll K F us es->IsAll K F (vs++us) (ds++es)
|_,_,_,_,.nil,h=>h
|_,_,_,_,.cons a r,h=>.cons a (zjz r h)
theorem zku {p:DSp} {E:XK} (h:RfA K tA dA):RfE K (zly (spD K p) [.non] E tA) (zl11 p dA):=by
 intro F H Y U Qd Q s rv hd k;refine h s rv hd λ ds hp vs F1 H1 e1 i1=>?_;exact ⟨F1,ds++[.none],Qd,e1.fh,zjz i1 (.cons .non .nil),hp,λ d q v F' H' e2 i2=>k d q v F' H' (e1.trans e2) i2⟩
theorem zch (p:DSp) (dA:DF) (U:DSt) (Q:D->Prop):zl11 p dA U Q=(dA U λ ds=>p (ds++[.none]) Q):=rfl
end
end _4
namespace _5
open PySem PySem.Spec PyProof.Rows _2 _3 _4
theorem ar1 {α:Type} {us:List α} (h:us.length=1):∃ a,us=[a]:=by
 rcases us with _|⟨a,_|⟨b,us⟩⟩
 ·cases h
 ·exact ⟨a,rfl⟩
 ·cases h
theorem ars {α:Type} {n:Nat} {us:List α} (h:us.length=n+1):∃ a r,us=a :: r/\r.length=n:=by
 rcases us with _|⟨a,us⟩
 ·cases h
 ·exact ⟨a,us,rfl,Nat.succ.inj h⟩
theorem ar2 {α:Type} {us:List α} (h:us.length=2):∃ a b,us=[a,b]:=by
 obtain ⟨a,r,rfl,k⟩:=ars h;obtain ⟨b,rfl⟩:=ar1 k;exact ⟨a,b,rfl⟩
theorem ar3 {α:Type} {us:List α} (h:us.length=3):∃ a b c,us=[a,b,c]:=by
 obtain ⟨a,r,rfl,k⟩:=ars h;obtain ⟨b,c,rfl⟩:=ar2 k;exact ⟨a,b,c,rfl⟩
theorem ar4 {α:Type} {us:List α} (h:us.length=4):∃ a b c d,us=[a,b,c,d]:=by
 obtain ⟨a,r,rfl,k⟩:=ars h;obtain ⟨b,c,d,rfl⟩:=ar3 k;exact ⟨a,b,c,d,rfl⟩
theorem ar5 {α:Type} {us:List α} (h:us.length=5):∃ a b c d e,us=[a,b,c,d,e]:=by
 obtain ⟨a,r,rfl,k⟩:=ars h;obtain ⟨b,c,d,e,rfl⟩:=ar4 k;exact ⟨a,b,c,d,e,rfl⟩
section
variable {P:Program} {w:World} {K:Fg} {mg:Str->Option Value} {base:Heap} {m:Str} {k:Nat} {ta:TE} {tA:TA} {dn:DN} {dA:DF}
abbrev Tab:=List (Addr×DSpT)
noncomputable def zgx (m:Str) (tab:Tab) (dn:DN) (dA:DF):DN:=λ U Q=>dn U λ u=>match u with
|.ob C fs=>noM m (.ob C fs)/\∃ p,(C,p)∈tab/\dA U λ ds=>p (.b (.ob C fs) :: ds.map .d) λ r _=>Q r
|_=>False
theorem zhh (m:Str) (tab:Tab) (dn:DN) (dA:DF) (U:DSt) (Q:T->Prop):zgx m tab dn dA U Q=(dn U λ u=>match u with
|.ob C fs=>noM m (.ob C fs)/\∃ p,(C,p)∈tab/\dA U λ ds=>p (.b (.ob C fs) :: ds.map .d) λ r _=>Q r
|_=>False):=rfl
theorem zw01 {F H:Hp}:∀ {vs:List V} {ds:List D},IsAll K F vs ds->ArgsR K F H vs (ds.map .d) [] none
|_,_,.nil=>.nil
|_,_,.cons h r=>.d h (zw01 r)
theorem zxx {tab:Tab} (ht:∀ C p,(C,p)∈tab->∃ ps,MethD P w K mg base C m k ps (spT K p)) (h1:RfN K ta dn) (h2:RfA K tA dA):RfN K (zp01 P w K mg base m k ta tA) (zgx m tab dn dA):=by
 intro F H Y U Qd Q s rv hd kk;refine h1 s rv hd λ u hu v F1 H1 fp e1 r1 nd1 fr1=>?_;cases r1 with
|ob g1 g2 g3 g4 g5 =>
  rename_i a C dx kvs fs fp'
  obtain ⟨nm,p,hp,hq⟩:=hu;obtain ⟨ps,md⟩:=ht C p hp;refine ⟨a,C,dx,kvs,ps,_,rfl,g1,(g5.keys m).1 nm,md,h2 e1.fh (rv.ext e1) hq λ ds hds vs F2 H2 e2 i2=>?_⟩;have r2:Rt K F2 H2 (.ref a) (.ob C fs) (a :: dx :: fp'):=(Rt.ob g1 g2 g3 g4 g5).ext e2;have e12:=e1.trans e2;refine ⟨F2,_,_,none,_,e2.fh,.b r2 nd1 (zw01 i2),(λ b hb=>by simp [ofp] at hb),hds,λ r2 t2 q2 v F' H' fpr fpo post=>?_⟩;exact kk _ q2 v F' H' fpr (e12.trans ⟨λ b o hb=>post.hh b o (by simp [ofp]) hb,post.ff,post.fh,post.nw⟩) post.rt post.nd λ b hb=>zo2 e12 (post.fr b hb)
|fz _=>exact hu.elim
|li _ _ _=>exact hu.elim
|ls _ _ _=>exact hu.elim
|dk _ _ _=>exact hu.elim
|dt _ _ _=>exact hu.elim
|tp _ _ _ _=>exact hu.elim
|wh=>exact hu.elim
theorem tab3 {C1 C2 C3:Addr} {p1 p2 p3:DSpT} (h1:∃ ps,MethD P w K mg base C1 m k ps (spT K p1)) (h2:∃ ps,MethD P w K mg base C2 m k ps (spT K p2)) (h3:∃ ps,MethD P w K mg base C3 m k ps (spT K p3)) :
  ∀ C p,(C,p)∈[(C1,p1),(C2,p2),(C3,p3)]->∃ ps,MethD P w K mg base C m k ps (spT K p):=λ C p h=>by
 rcases vL.mp h with e|h
 ·cases e;exact h1
 rcases vL.mp h with e|h
 ·cases e;exact h2
 rcases vL.mp h with e|h
 ·cases e;exact h3
 ·simp at h
end
section
variable {P:Program} {w:World} {K:Fg} {mg:Str->Option Value} {base:Heap} {m:Str} {k:Nat} {ta tk tx:TE} {tA:TA} {dp:DP} {dk dx:DE} {dA:DF}
noncomputable def ziy (u:T) (k x:D) (Q:D->Prop):Prop:=match u with
|.dk kvs=>∃ key,keyD k=some key/\Q ((getA kvs key).getD x)
|.dt kvs=>∃ key,keyT k=some key/\Q ((getA kvs key).getD x)
|_=>False
def zcc1 (dp:DP) (dk dx:DE):DE:=λ U Q=>dp U λ _ _ u=>tyN "dict" u/\dk U λ k=>dx U λ x=>ziy u k x Q
theorem zco (dp:DP) (dk dx:DE) (U:DSt) (Q:D->Prop):zcc1 dp dk dx U Q=(dp U λ _ _ u=>tyN "dict" u/\dk U λ k=>dx U λ x=>ziy u k x Q):=rfl
theorem zf41 {F H:Hp} {v kv xv:V} {u:T} {fn:List Addr} {k x:D} {Qd:D->Prop} {Q:VK} (s:Same F H) (hr:Rt K F H v u fn) (hk:Is K F kv k) (hx:Is K F xv x) (hf:ziy u k x Qd) (q:∀ d y,Qd d->Is K F y d->Q y H):zgw v [kv,xv] H Q:=by
 cases hr with
|dk h1 h2 h3 =>
  obtain ⟨key,ek,qd⟩:=hf;have:=zlg hk ek;subst this;rcases h3.get (k:=key) with ⟨g1,g2⟩|⟨d',y,g1,g2,g3⟩
  ·rw [g1] at qd;exact ⟨_,_,_,none,rfl,rfl,by rw [<- g2];exact DGet.k h1,q _ _ qd hx⟩
  ·rw [g1] at qd;exact ⟨_,_,_,some y,rfl,rfl,by rw [<- g2];exact DGet.k h1,q _ _ qd g3⟩
|dt h1 h2 h3 =>
  obtain ⟨key,ek,qd⟩:=hf;obtain ⟨kb,rfl,hb⟩:=zwi hk ek;rcases h3.get (k:=key) with ⟨g1,g2⟩|⟨d',y,g1,g2,g3⟩
  ·rw [g1] at qd;exact ⟨_,_,_,none,rfl,rfl,by rw [<- g2];exact DGet.t h1 (s _ _ hb),q _ _ qd hx⟩
  ·rw [g1] at qd;exact ⟨_,_,_,some y,rfl,rfl,by rw [<- g2];exact DGet.t h1 (s _ _ hb),q _ _ qd g3⟩
|fz _=>exact hf.elim
|li _ _ _=>exact hf.elim
|ls _ _ _=>exact hf.elim
|ob _ _ _ _ _=>exact hf.elim
|tp _ _ _ _=>exact hf.elim
|wh=>exact hf.elim
theorem zrs (hp:RfP K ta dp) (hk:RfE K tk dk) (hx:RfE K tx dx):RfE K (tBMU K "dict" zgw ta (zrc tk (zrc tx tNil))) (zcc1 dp dk dx):=by
 intro F H Y U Qd Q s rv hd kk;refine hp s rv hd λ i p u hu v F1 H1 e1 at1=>?_;have rv1:=rv.ext e1;obtain ⟨fn,hr⟩:=at1.rt rv1;refine ⟨zd91 hr hu.1,hk e1.fh rv1 hu.2 λ kd hkd kv F2 H2 e2 i2=>hx e2.fh (rv1.ext e2) hkd λ xd hxd xv F3 H3 e3 i3=>?_⟩;have e13:=(e1.trans e2).trans e3;exact zf41 e3.fh ((hr.ext e2).ext e3) (i2.mono e3.f) i3 hxd λ d y qd iy=>kk d qd y F3 H3 e13 iy
end
end _5
namespace _3
open PySem PySem.Spec PyProof.Rows _2
variable {ep:Nat} {es:Array DictEntry} {it:Addr} {od:Obj}
section
variable {s:Shared} {w:World} {prog:Program} {E:Value->Shared->Prop} {A:Around}
theorem zqu {d:Addr} {Q:Value->Shared->Prop} (go:s.heap.get? d=some od) (gc:od.cls=.type "dict") (gs:(d == sysModules)=false)
  (h:Q (.ref s.heap.objs.size) { s with heap:=s.heap.push { cls:=.type "dict_items",data:=.fields #[.ref d] } }):wpAny (model prog w) A (call (.builtin "dict.items") [.ref d]) Q E s:=by
 refine wpAny_call_entry ğn ⟨od,go,gc⟩ PySem.F.entry_dict_items ?_ (PySem.F.args_dict_items_1 _);unfold Builtin.«dict.items» Builtin.Dict.noArgs;refine wpAny_bind (wpAny_bind (wpAny_notOrdered_dict ⟨od,go,gc⟩ (wpAny_pure ?_)));unfold Builtin.Dict.showsAll;refine wpAny_bind ?_;rw [gs,if_neg vU];exact wpAny_pure (wpAny_bind (wpAny_newObj_type (wpAny_pure ⟨_,rfl,h⟩)))
abbrev itF (d:Addr) (i n ep:Nat) (x k v:Value):Array Value:=#[x,.bool false,.ref d,.int i 0,.int n 0,.int ep 0,k,v]
theorem owns:Builtin.Dict_items.ownsTuple "dict_itemiterator"=true:=by decide
theorem ztu {v d:Addr} {Q:Value->Shared->Prop} (gv:s.heap.IsItemsView v d) (go:s.heap.get? d=some od) (gd:od.data=.dict es ep)
  (q:Q (.ref s.heap.objs.size) { s with heap:=s.heap.push { cls:=.type "dict_itemiterator",data:=.fields (itF d 0 es.size ep .none .none .none) } }):wpAny (model prog w) A (pyIter (.ref v)) Q E s:=by
 refine wpAny_pyIter_slot gv.typeIs F.slot_dict_items_iter (wpAny_call_entry F.slot_dict_items_iter gv.typeIs F.entry_dict_items_iter ?_ (F.args_dict_items_iter_1 _));obtain ⟨vo,v1,v2,v3⟩:=gv;unfold Builtin.«dict_items.__iter__» Builtin.Dict_items.dictOf Builtin.Dict_items.newIterator;refine wpAny_bind (wpAny_pure (wpAny_bind (wpAny_bind (wpAny_field v1 v3 (x:=.ref d) rfl (wpAny_pure ?_)))));refine wpAny_bind (wpAny_bind (wpAny_dictEntries go gd (wpAny_bind (wpAny_dictEpoch go gd ?_))));simp only [owns,if_true];refine wpAny_newObj_type (hd:=?_) (wpAny_pure ⟨_,rfl, "dict_itemiterator",_,⟨_,v4 _ rfl,rfl⟩,F.slot_dict_itemiterator_next.lookup,?_⟩)
 ·simpa [rawInt,Builtin.Dict_items.ownedTupleFields,itF] using q
 ·simp [sizeOk,Builtin.Dict_items.ownedTupleFields,sizeLine_eq]
theorem zwf {d:Addr} {i:Nat} {k0 v0:Value} {Q:Option Value->Shared->Prop} (calm:A.handled=none) (gi:IsItemIter s.heap it d i es.size ep k0 v0) (go:s.heap.get? d=some od) (gd:od.data=.dict es ep)
  (q1:∀ (lt:i < es.size) (h':Heap),IsItemIterOut h' it d (i+1) es.size ep es[i].key es[i].val s.heap.objs.size->h'.get? s.heap.objs.size=some { cls:=.type "tuple",data:=.seq #[es[i].key,es[i].val] } ->
   (∀ b o,b≠it->s.heap.get? b=some o->h'.get? b=some o)->Q (some (.ref s.heap.objs.size)) { s with heap:=h' })
  (q2:es.size<=i->∀ h':Heap,Heap.ExtBut it s.heap h'->Q none { s with heap:=h' }):wpAny (model prog w) A (pyNext (.ref it)) Q E s:=by
 have ty:s.TypeIs (.ref it) "dict_itemiterator":=⟨_,gi,rfl⟩
 unfold pyNext;refine wpAny_bind (wpAny_attempt (wpAny_callSpecial?_slot (name:=xJ "__next__") ty F.slot_dict_itemiterator_next (wpAny_call_entry F.slot_dict_itemiterator_next ty F.entry_dict_itemiterator_next ?_ (F.args_dict_itemiterator_next_1 _))));refine wpAny_bind (wpAny_pure (wpAny_bind (wpAny_bind (wpAny_bind (wpAny_typeNameOfWhole_itemiter ty (wpAny_pure (wpAny_bind (wpAny_fieldsOf gi rfl ?_))))))));simp only [owns,if_true];refine (show wpAny _ _ (if (vN d == xB)=true then pure none else _) _ _ _ from ?_);rw [if_neg (show ¬ (vN d == xB)=true from nofun)];refine wpAny_bind (wpAny_pure (wpAny_bind (wpAny_dictEntries go gd ?_)));rw [if_neg (by simp)];refine wpAny_bind (wpAny_pure (wpAny_bind (wpAny_dictEpoch go gd ?_)));rw [if_neg (by simp)];refine wpAny_pure ?_;rcases wP i es.size with lt|ge
 ·simp only [zJ lt,vR,if_neg (zK.mpr (zL i))];refine wpAny_bind (wpAny_bind (wpAny_typeNameOfWhole_itemiter ty (wpAny_pure (wpAny_bind (wpAny_isOneOf_itemiter ty ?_)))));have il:it < s.heap.objs.size:=vO gi;refine wpAny_bind (show wpAny _ _ (setField (.ref it) 3 (rawInt ((i:Int)+1))) _ _ _ from wpAny_setField_rec gi (by simp) λ a1 e1 c1=>?_);have c1:Heap.SameBut it s.heap a1:=c1;have e1:IsItemIter a1 it d (i+1) es.size ep k0 v0:=by
   simpa [IsItemIter,rawInt] using e1
  have ty1:Shared.TypeIs { s with heap:=a1 } (.ref it) "dict_itemiterator":=⟨_,e1,rfl⟩
  refine wpAny_bind (wpAny_holding (wpAny_bind (wpAny_isOneOf_itemiter ty1 (wpAny_bind (wpAny_isOneOf_itemiter ty1 (show wpAny _ _ (Builtin.Dict_items.pairFromOwner (.ref it) 6 es[i].key es[i].val) _ _ _ from ?_))))));unfold Builtin.Dict_items.pairFromOwner Builtin.Dict_items.ownedTupleIsFree;refine wpAny_bind (wpAny_newTuple ?_);obtain ⟨a2,za2⟩:∃ a2,a2=a1.push { cls:=.type "tuple",data:=.seq #[es[i].key,es[i].val] }:=⟨_,rfl⟩
  have e2:IsItemIter a2 it d (i+1) es.size ep k0 v0:=by rw [za2];exact vM _ e1
  have t2:a2.get? s.heap.objs.size=some { cls:=.type "tuple",data:=.seq #[es[i].key,es[i].val] }:=by rw [za2,<- c1.1];exact v4 _ rfl
  have p2:∀ b o,b≠it->s.heap.get? b=some o->a2.get? b=some o:=λ b o n z=>by rw [za2];exact vM _ (c1.extBut b o n z)
  rw [show a1.objs.size=s.heap.objs.size from c1.1];refine wpAny_bind (show wpAny _ _ _ _ _ { s with heap:=a1.push { cls:=.type "tuple",data:=.seq #[es[i].key,es[i].val] } } from ?_);rw [<- za2];clear za2 e1 ty1 c1;refine wpAny_bind (wpAny_field e2 rfl (x:=.none) rfl (wpAny_pure ?_));simp only [if_true];refine wpAny_bind (wpAny_field e2 rfl (x:=k0) rfl (wpAny_bind (wpAny_field e2 rfl (x:=v0) rfl (wpAny_bind (wpAny_setField_rec e2 (by simp) λ a3 e3 c3=>?_)))));have e3:IsItemIter a3 it d (i+1) es.size ep es[i].key v0:=e3;refine wpAny_bind (wpAny_setField_rec e3 (by simp) λ a4 e4 c4=>?_);have e4:IsItemIter a4 it d (i+1) es.size ep es[i].key es[i].val:=e4;refine wpAny_bind (wpAny_setField_rec e4 (by simp) λ a5 e5 c5=>?_);have e5:IsItemIterOut a5 it d (i+1) es.size ep es[i].key es[i].val s.heap.objs.size:=e5;refine wpAny_bind (wpAny_setField_rec e5 (by simp) λ a6 e6 c6=>?_);have e6:IsItemIterOut a6 it d (i+1) es.size ep es[i].key es[i].val s.heap.objs.size:=e6;have keep:∀ b o,b≠it->a2.get? b=some o->a6.get? b=some o:=λ b o n z=>c6.extBut b o n (c5.extBut b o n (c4.extBut b o n (c3.extBut b o n z)));exact wpAny_bind (wpAny_letGo (wpAny_pure (wpAny_pure ⟨_,rfl,wpAny_pure (q1 lt a6 e6 (keep _ _ (yU il) t2) λ b o n z=>keep b o n (p2 b o n z))⟩)))
 ·simp only [uaQ ge,vR,if_neg (zK.mpr (zL i))];refine wpAny_bind (wpAny_bind (wpAny_typeNameOfWhole_itemiter ty (wpAny_pure (wpAny_bind (show wpAny _ _ (setField (.ref it) 2 .none) _ _ _ from wpAny_setField gi rfl (by simp) ?_)))));refine wpAny_bind (show wpAny _ _ (newExc (.type "StopIteration") []) _ _ _ from ?_);simp only [newExc,newTuple];refine wpAny_bind (wpAny_newObj_type (hd:=by size_fits) (wpAny_bind (m:=firstArgMember _ _) (wpAny_of_eq (a:=xB) (by rfl) (wpAny_newObj_type (hd:=by size_fits) ?_))));simp only [raiseNew];refine wpAny_bind (wpAny_handled ?_);rw [show A.in1.handled=none from calm];refine wpAny_bind (wpAny_pure (wpAny_throw ?_));refine wpAny_bind (wpAny_isInstance (b:=true) (T := "StopIteration") ⟨_,v4 _ rfl,rfl⟩ isSubtype_stop (wpAny_pure (q2 ge _ ?_)));exact ((Heap.SameBut.update ..).extBut.push _).push _
end
section
variable {X:Cx} {pins:List (Addr×Obj)} {Y:_2.St} {H:Hp} {s:Shared} {a:Addr} {u:HO} {o:Obj}
theorem zq81 (I:_2.Inv X pins Y H s) (mu:Mut (H a)) (e:H a=some u) (ho:s.heap.get? a=some o):_2.Inv X pins Y (upd H a (.frz o u)) s:=by
 have nown:∀ c y,H c=some (.own y)->c≠a:=λ c y r z=>by subst z;rw [r] at mu;exact mu
 have ntup:∀ c xs,H c=some (.tup xs)->c≠a:=λ c xs r z=>by subst z;rw [r] at mu;exact mu
 refine I.write (s:=s) (t':=s.toks) (h':=s.heap) (e:=a) mu (.inl rfl) (λ _ _ _ q=>q) ⟨o,ho⟩ ⟨ho,?_⟩;exact (I.hok a u e).stay (λ _ _ _ q=>q) (λ c r=>by rw [zr0 (nown c a r)];exact r) λ c xs r=>by rw [zr0 (ntup c xs r)];exact r
theorem thaw (I:_2.Inv X pins Y H s) (e:H a=some (.frz o u)) (h0:∀ ob v,X.H₀ a≠some (.frz ob v)):_2.Inv X pins Y (upd H a u) s:=by
 have ne:∀ b,H b=none->b≠a:=λ b n z=>by subst z;rw [e] at n;cases n
 have nt:∀ b xs,H b=some (.tup xs)->b≠a:=λ b xs n z=>by subst z;rw [e] at n;cases n
 have no:∀ b y,H b=some (.own y)->b≠a:=λ b y n z=>by subst z;rw [e] at n;cases n
 refine ⟨I.ok,I.os,I.bare,⟨I.base.keep,I.base.slot,λ b ob q n hx=>?_,I.base.there,λ b xs q=>?_,λ b ob v q=>?_,λ b ps q=>?_⟩,I.loc,I.cell,by rw [zr0 (ne _ I.free)];exact I.free,λ x c q=>by rw [zr0 (ne _ (I.freeC x c q))];exact I.freeC x c q,λ p hp=>?_,λ b v q=>?_,I.len⟩
 ·have:=I.base.free b ob q n hx;rw [zr0 (ne b this)];exact this
 ·have:=I.base.tups b xs q;rw [zr0 (nt b xs this)];exact this
 ·have:=I.base.frzs b ob v q;have hb:b≠a:=λ z=>by subst z;exact h0 ob v q
  rw [zr0 hb];exact this
 ·obtain ⟨m,hm⟩:=I.base.tbls b ps q;exact ⟨m,by rw [zr0 (λ z=>by subst z;rw [e] at hm;cases hm)];exact hm⟩
 ·obtain ⟨p1,p2,p3⟩:=I.pin p hp;exact ⟨p1,by rw [zr0 (ne _ p2)];exact p2,p3⟩
 ·by_cases hb:b=a
  ·subst hb;rw [zn0] at q;cases q;exact (I.hok b _ e).2.stay (λ _ _ _ q=>q) (λ c r=>by rw [zr0 (no c b r)];exact r) λ c xs r=>by rw [zr0 (nt c xs r)];exact r
  ·rw [zr0 hb] at q;exact (I.hok b v q).stay (λ _ _ _ q=>q) (λ c r=>by rw [zr0 (no c b r)];exact r) λ c xs r=>by rw [zr0 (nt c xs r)];exact r
end
noncomputable def Itd (a:Addr) (o:Obj) (kvs:List (List Key×V)):It:=⟨λ i H=>H a=some (.frz o (.dT kvs))/\i < kvs.length,
 λ i H x H'=>∃ k v b p,kvs[i]?=some (k,v)/\H b=some (.tup (k.map kV))/\H p=none/\x=.ref p/\H'=upd H p (.tup [.ref b,v]),λ i H=>H a=some (.frz o (.dT kvs))/\kvs.length<=i⟩
theorem zxy {H:Hp}:∀ {kvs:List (List Key×V)} {xs:List (List Key×Addr×Value)} {i:Nat} {k:List Key} {v:V},KT H kvs xs->kvs[i]?=some (k,v)->∃ b u,xs[i]?=some (k,b,u)/\H b=some (.tup (k.map kV))/\RelV v u:=by
 intro kvs xs i k v h
 induction h generalizing i with
|nil=>intro e;simp at e
|@cons p q ps qs hq t ih =>
  intro e;cases i with
 |zero =>
   simp at e;subst e;obtain ⟨q1,q2,q3⟩:=q;obtain ⟨h1,h2,h3⟩:=hq;dsimp only at h1 h2 h3;subst h1;exact ⟨q2,q3,rfl,h2,h3⟩
 |succ i=>simp at e ⊢;exact ih e
theorem zsl {P:Program} {w:World} {K:Fg} {elts:List Expr} {c:_} {pos:Pos} {a:Addr} {o:Obj} {kvs:List (List Key×V)} (hd:o.data=.dict es ep) :
  Turn P w K (.Tuple elts c pos) (Itd a o kvs) [it] it (λ i h=>∃ ok ov,IsItemIter h it a i es.size ep ok ov) where
 mem:=by simp
 obj:=λ i h S b hb=>by
  obtain ⟨ok,ov,he⟩:=S;simp at hb;subst hb;exact ⟨_,he,λ v q=>by cases q⟩
 keep:=λ i h h' S k=>by
  obtain ⟨ok,ov,he⟩:=S;exact ⟨ok,ov,k _ (by simp) _ he⟩
 item:=by
  intro X hP hw hK hc i pins s Y H E I hf S hg;subst hP hw hK;obtain ⟨ok,ov,he⟩:=S;obtain ⟨hq,hlt⟩:=hg;obtain ⟨ho,hdt⟩:=(show ObjOk X.prog X.w H s.heap a (.frz o (.dT kvs)) from I.hok a _ hq)
  obtain ⟨z,_,xs,r,o',es',ep',h1,h2,h3,h4,h5⟩:=hdt;rw [ho] at h1;cases h1;rw [hd] at h3;cases h3;have hx:kvs[i]?=some (kvs[i].1,kvs[i].2):=by rw [u7 hlt]
  obtain ⟨kb,u,g1,g2,g3⟩:=zxy r hx;have hes:i < es.size:=by
   rw [<- wT,h4,u5];exact (vZ.mp g1).1
  have hent:es[i]=entryOfKey (tupleKind (zq1 X.prog X.w)) (kvs[i].1,kb,u):=by
   have e1:es.toList[i]?=some (entryOfKey (tupleKind (zq1 X.prog X.w)) (kvs[i].1,kb,u)):=by rw [h4,u8,g1];rfl
   rw [yA,zJ hes] at e1;exact wI.inj e1
  have ek:es[i].key=.ref kb:=by rw [hent];rfl
  have ev:es[i].val=u:=by rw [hent];rfl
  refine zwf (I.ok.hd hc) he ho hd (λ _ h' ho' ht hk=>?_) λ ge=>absurd hes (Nat.not_lt.mpr ge);rw [ek,ev] at ho' ht;have iL:it < s.heap.objs.size:=vO he;have hfr:=I.hok.fresh (u6 s.heap.objs.size);have I1:_2.Inv X pins Y (upd H s.heap.objs.size (.tup [.ref kb,kvs[i].2])) { s with heap:=s.heap.push { cls:=.type "tuple",data:=.seq #[.ref kb,u] },toks:=s.toks } :=
   I.laid (t':=s.toks) (o:=.tup [.ref kb,kvs[i].2]) (λ b ob q=>vM _ q) (u6 _) ⟨by show 2<=sizeLine;rw [sizeLine_eq];decide,[.ref kb,u],.cons rfl (.cons g3 .nil),IsTup.new _ _⟩
  have fi:=hf it (by simp);have fi1:FpOk X pins (upd H s.heap.objs.size (.tup [.ref kb,kvs[i].2])) it:=⟨by rw [zr0 (wC iL)];exact fi.1,fi.2⟩
  have I2:_2.Inv X pins Y (upd H s.heap.objs.size (.tup [.ref kb,kvs[i].2])) { s with heap:=h',toks:=s.toks } :=
   zor (a:=it) (c:=it) (s:={ s with heap:=s.heap.push { cls:=.type "tuple",data:=.seq #[.ref kb,u] },toks:=s.toks }) I1 (λ b o nb1 nb2 q=>by
    by_cases z:b=s.heap.objs.size
    ·subst z;have q':(s.heap.push { cls:=.type "tuple",data:=.seq #[.ref kb,u] }).get? s.heap.objs.size=some o:=q;rw [v4 _ rfl] at q';cases q';exact ht
    ·exact hk b o nb1 (zvr q z)) fi1 fi1
  refine ⟨.ref s.heap.objs.size,rfl,wpAny_letOwnedTupleGo_items ho' λ h2' he2 hs2=>?_⟩;exact ⟨.ref s.heap.objs.size,_,zls (tk:=s.toks) I2 fi1 hs2,rfl,⟨_,_,kb,s.heap.objs.size,hx,g2,hfr,rfl,rfl⟩,⟨_,_,he2⟩,λ b hb=>by simp at hb;subst hb;exact fi1.1⟩
 done:=by
  intro X hP hw hK hc i pins s Y H E I hf S hg;subst hP hw hK;obtain ⟨ok,ov,he⟩:=S;obtain ⟨hq,hge⟩:=hg;obtain ⟨ho,hdt⟩:=(show ObjOk X.prog X.w H s.heap a (.frz o (.dT kvs)) from I.hok a _ hq)
  obtain ⟨z,_,xs,r,o',es',ep',h1,h2,h3,h4,h5⟩:=hdt;rw [ho] at h1;cases h1;rw [hd] at h3;cases h3;have hl:kvs.length=xs.length:=r.length;have hz:es.size=xs.length:=by rw [<- wT,h4,u5]
  exact zwf (I.ok.hd hc) he ho hd (λ lt=>absurd lt (by lia)) λ _ h' eb=>⟨rfl,zr11 (tk:=s.toks) I (hf it (by simp)) eb⟩
 self:=λ _ _ _ _ _ S h=>PySem.W.kcp_self S.choose_spec.choose_spec h
section
variable {X:Cx} {elts:List Expr}
def ze81 (v:V) (H:Hp) (R:It->Hp->Prop):Prop:=∃ a kvs,v=.ref a/\H a=some (.dT kvs)/\∀ o,R (Itd a o kvs) (upd H a (.frz o (.dT kvs)))
def zt11 (te:TE):TI:=λ Y H R=>te Y H λ v H1=>ze81 v H1 R
theorem zgu {c:_} {tpos:Pos} {o:Expr} {te:TE} {apos cpos:Pos} (ho:PE X o te) (hbase:attributeBase o "items" X.env (eval o X.env)=eval o X.env:=by rfl) (hline:(apos.endLine == cpos.line)=true:=by rfl) :
  PI X (.Tuple elts c tpos) (.Call (.Attribute o "items" apos) [] [] cpos) (zt11 te):=by
 intro pins s Y H R I h;refine wpAny_Call_method0_late hbase hline (thn (ho pins s Y H _ I h) λ v s1 hz=>?_);obtain ⟨x,H1,I1,r1,a,kvs,ex,e,q⟩:=hz;subst ex;obtain rfl:v=vN a:=r1;obtain ⟨t1,t2,hm⟩:=zr61 I1 (.inr ⟨kvs,.inl e⟩);obtain ⟨z,_,xs,r,od,es,ep,h1,h2,h3,h4,h5⟩:=(show ObjOk X.prog X.w H1 s1.heap a (.dT kvs) from I1.hok a _ e)
 refine ⟨"dict", "dict.items",ğg,ğn,PySem.F.type_dict_items,t1,t2,Calls.callWith_builtin rfl (PySem.evalArgs_none (zqu h1 h2.1 hm ?_))⟩;have aL:a < s1.heap.objs.size:=vO h1;have ha2:(s1.heap.push { cls:=.type "dict_items",data:=.fields #[.ref a] }).get? a=some od:=vM _ h1;refine ztu (d:=a) (es:=es) (ep:=ep) ⟨_,v4 _ rfl,rfl,rfl⟩ ha2 h3 ?_;have k2:∀ b u,s1.heap.get? b=some u->((s1.heap.push { cls:=.type "dict_items",data:=.fields #[.ref a] }).push { cls:=.type "dict_itemiterator",data:=.fields #[.none,.bool false,.ref a,.int 0 0,.int es.size 0,.int ep 0,.none,.none] }).get? b=some u:=λ b u q=>vM _ (vM _ q);have I2:=I1.kept (t':=s1.toks) k2;have I3:=zq81 I2 (a:=a) (by rw [e];trivial) e (k2 _ _ h1);refine ⟨_,[_],_,_,_,rfl,I3,zsl (es:=es) (ep:=ep) h3,⟨.none,.none,v4 _ rfl⟩,λ b hb=>?_,q od⟩;simp only [yZ] at hb;have hb':s1.heap.objs.size<=b:=by rw [hb];simp [Heap.push]
 exact I1.fpOk hb' (by rw [zr0 (λ z=>by rw [z] at hb';exact absurd aL (Nat.not_lt.mpr hb'))];exact I1.hok.fresh hb')
end
end _3
namespace _4
open PySem PySem.Spec PyProof.Rows _2 _3
section
variable {K:Fg} {ta:TE} {dp:DP}
def kD:Key->D
|.inl i=>.int i
|.inr x=>.str x
theorem zbo {F:Hp}:∀ (k:List Key),IsAll K F (k.map kV) (k.map kD)
|[]=>.nil
|.inl i :: r=>.cons (.int i) (zbo r)
|.inr x :: r=>.cons (.str x) (zbo r)
theorem KvIs.at {κ:Type} {F:Hp}:∀ {r:List (κ×V)} {t:List (κ×D)} {i:Nat} {k:κ} {v:V},KvIs K F r t->r[i]?=some (k,v)->∃ d,t[i]?=some (k,d)/\Is K F v d:=by
 intro r t i k v h
 induction h generalizing i with
|nil=>intro e;simp at e
|cons h1 h2 ih =>
  intro e;cases i with
 |zero=>simp at e;obtain ⟨rfl,rfl⟩:=e;exact ⟨_,rfl,h1⟩
 |succ i=>simp at e ⊢;exact ih e
end
end _4
namespace _3
open PySem PySem.Spec PyProof.Rows _2
section
variable {s:Shared} {w:World} {prog:Program} {E:Value->Shared->Prop} {A:Around}
theorem zbv {a:Addr} {vs:List Value} {n:Nat} {P:Fin->Shared->Prop} (go:s.heap.get? a=some (seqObj "list" vs.toArray n)) (few:vs.toArray.size < 2)
  (h:P (.done (.ret .none)) { s with heap:=sortedHeap s.heap a vs ((vs.toArray.zip vs.toArray).map (·.2)) }):wpAny (model prog w) A (Builtin.«list.sort» ⟨[.ref a],[]⟩) P E s:=by
 have al:a < s.heap.objs.size:=vO go;obtain ⟨e1,g1⟩:∃ e1,(s.heap.update a (Obj.mapSeq λ _=>#[])).get? a=some (seqObj "list" #[] e1):=⟨_,get?_update_seq go λ _=>#[]⟩
 rw [list_sort_plain];refine wpAny_bind (listItems_at go rfl (wpAny_bind (listUpdate_at go rfl (wpAny_bind (seqEpoch_at g1 rfl (wpAny_bind (wpAny_newTuple (wpAny_bind (wpAny_newList (wpAny_holding ?_))))))))));have g6:(((s.heap.update a (Obj.mapSeq λ _=>#[])).push (seqObj "tuple" vs.toArray 0)).push (seqObj "list" #[] 0)).get? a=some (seqObj "list" #[] e1):=vM _ (vM _ g1);refine (show wpAny (model prog w) A _ P E { s with heap:=((s.heap.update a (Obj.mapSeq λ _=>#[])).push (seqObj "tuple" vs.toArray 0)).push (seqObj "list" #[] 0) } from ?_);dsimp only;rw [if_pos few,if_pos few];refine wpAny_bind (wpAny_pure ?_);rw [StateT.run_pure];refine wpAny_bind (wpAny_pure ?_);dsimp only;refine wpAny_bind (seqEpoch_at g6 rfl (wpAny_bind (listUpdate_at (hsz2:=?_) g6 rfl ?_)))
 ·rw [if_neg (by simp)];exact wpAny_pure h
 ·have z2:(arrOf (SortSt.mk' general' (vs.toArray.zip vs.toArray) #[] 7 none))=vs.toArray.zip vs.toArray:=rfl;rw [z2];have:((vs.toArray.zip vs.toArray).map λ x=>x.2).size<=2:=by simp;simp at few;lia
  refine wU this ?_;rw [sizeLine_eq];lia
end
end _3
namespace _5
variable {E:List Nat} {L:List Int} {S:List (List Nat)} {a m:Nat} {lv:List (Nat×Nat)}
def xr (s:Nat):Nat:=if s % 2=0 then s+1 else s - 1
theorem zz71 (s:Nat):xr (xr s)=s:=by unfold xr;split <;> split <;> lia
theorem zk51 {s:Nat} (h:s < 2 * m):xr s < 2 * m:=by unfold xr;split <;> lia
theorem zl61 (s:Nat):xr s≠s:=by unfold xr;split <;> lia
def hd (E:List Nat) (s:Nat):Nat:=E.getD s 0
def tl (E:List Nat) (s:Nat):Nat:=hd E (xr s)
theorem zj51 (E:List Nat) (s:Nat):tl E (xr s)=hd E s:=by unfold tl;rw [zz71]
theorem zy21 (E:List Nat) (s:Nat):hd E (xr s)=tl E s:=rfl
def lf (L:List Int) (s:Nat):Int:=L.getD s 0
structure Net (n m:Nat) (E:List Nat) (S:List (List Nat)):Prop where
 lE:E.length=2 * m
 bE:∀ s,s < 2 * m->hd E s < n
 lS:S.length=n
 s1:∀ (v:Nat) l,S[v]?=some l->∀ s∈l,s < 2 * m/\tl E s=v
 s2:∀ s,s < 2 * m->∃ l,S[tl E s]?=some l/\s∈l
def lkp (lv:List (Nat×Nat)) (v:Nat):Option Nat:=(lv.find? λ p=>decide (p.1=v)).map (·.2)
theorem zpc {u v:Nat}:lkp (lv++[(u,a)]) v=match lkp lv v with
 |some b=>some b
 |none=>if u=v then some a else none:=by
 unfold lkp;rw [List.find?_append];cases h:lv.find? λ p=>decide (p.1=v) with
|some x=>simp
|none =>
  by_cases e:u=v
  ·simp [e]
  ·simp [e]
theorem zao {v:Nat} (h:lkp lv v=some a):(v,a)∈lv:=by
 unfold lkp at h;obtain ⟨p,hp,e⟩:=wO.mp h;have h1:=List.mem_of_find?_eq_some hp;have h2:=List.find?_some hp;simp at h2;obtain ⟨p1,p2⟩:=p;simp at h2 e;subst h2 e;exact h1
theorem zjh {v:Nat} (h:lkp lv v=none):v ∉ lv.map (·.1):=by
 unfold lkp at h;rw [Option.map_eq_none_iff,List.find?_eq_none] at h;intro hm;obtain ⟨p,hp,e⟩:=vQ.mp hm;have:=h p hp;simp [e] at this
theorem zf1:∀ (n:Nat) (l:List Nat),l.Nodup->(∀ x∈l,x < n)->l.length<=n
|0,[],_,_=>u6 _
|0,x :: r,_,h=>absurd (h x (by simp)) (by lia)
|n+1,l,nd,h=>by
  by_cases hm:n∈l
  ·have h1:(l.erase n).length=l.length - 1:=List.length_erase_of_mem hm;have h2:(l.erase n).Nodup:=nd.erase n;have h3:∀ x∈l.erase n,x < n:=λ x hx=>by
    have hx1:=(List.Nodup.mem_erase_iff nd).mp hx;have:=h x hx1.2;lia
   have:=zf1 n _ h2 h3;lia
  ·have h3:∀ x∈l,x < n:=λ x hx=>by
    have:=h x hx;have:x≠n:=λ e=>hm (e ▸ hx);lia
   have:=zf1 n l nd h3;lia
structure Lev (n m:Nat) (E:List Nat) (L:List Int) (src:Nat) (lv:List (Nat×Nat)):Prop where
 nd:(lv.map (·.1)).Nodup
 bd:∀ p∈lv,p.1 < n
 l0:lkp lv src=some 0
 z0:∀ v,lkp lv v=some 0->v=src
 cl:∀ s,s < 2 * m->0 < lf L s->(lkp lv (tl E s)).isSome=true->(lkp lv (hd E s)).isSome=true
 pr:∀ v a,lkp lv v=some (a+1)->∃ s,s < 2 * m/\0 < lf L s/\hd E s=v/\lkp lv (tl E s)=some a
def Adm (E:List Nat) (L:List Int) (lv:List (Nat×Nat)) (s:Nat):Prop:=0 < lf L s/\∃ a,lkp lv (tl E s)=some a/\lkp lv (hd E s)=some (a+1)
inductive Rch (m:Nat) (E:List Nat) (L:List Int) (lv:List (Nat×Nat)) (t:Nat):Nat->Prop
|here:Rch m E L lv t t
|step {s:Nat}:s < 2 * m->Adm E L lv s->Rch m E L lv t (hd E s)->Rch m E L lv t (tl E s)
theorem zoe {n m:Nat} {E:List Nat} {L:List Int} {src:Nat} {lv:List (Nat×Nat)} (h:Lev n m E L src lv) {t:Nat}:∀ (a v:Nat),lkp lv v=some a->Rch m E L lv t v->Rch m E L lv t src
|0,v,e,r=>by rw [<- h.z0 v e];exact r
|a+1,v,e,r=>by
  obtain ⟨s,h1,h2,h3,h4⟩:=h.pr v a e;refine zoe h a (tl E s) h4 (.step h1 ⟨h2,a,h4,by rw [h3];exact e⟩ (by rw [h3];exact r))
theorem Rch.mono {L':List Int} {t v:Nat} (h:∀ s,s < 2 * m->Adm E L' lv s->Adm E L lv s) (r:Rch m E L' lv t v):Rch m E L lv t v:=by
 induction r with
|here=>exact .here
|step h1 h2 _ ih=>exact .step h1 (h _ h1 h2) ih
structure Tri (m:Nat) (E:List Nat) (S:List (List Nat)) (L:List Int) (lv:List (Nat×Nat)) (t:Nat) (TT:List (List Nat)):Prop where
 len:TT.length=S.length
 pre:∀ (v:Nat) l,TT[v]?=some l->∃ k,S[v]?=some k/\l <+: k
 vain:∀ (v:Nat) l k,TT[v]?=some l->S[v]?=some k->∀ (j:Nat) s,l.length<=j->k[j]?=some s->¬(Adm E L lv s/\Rch m E L lv t (hd E s))
theorem Tri.mono {m:Nat} {E:List Nat} {S:List (List Nat)} {L L':List Int} {lv:List (Nat×Nat)} {t:Nat} {TT:List (List Nat)} (h:∀ s,s < 2 * m->Adm E L' lv s->Adm E L lv s) (hS:∀ (v:Nat) k,S[v]?=some k->∀ s∈k,s < 2 * m) (r:Tri m E S L lv t TT):Tri m E S L' lv t TT :=
 ⟨r.len,r.pre,λ v l k h1 h2 j s hj hs z=>r.vain v l k h1 h2 j s hj hs ⟨h s (hS v k h2 s (wF hs)) z.1,z.2.mono h⟩⟩
theorem Tri.all {t:Nat}:Tri m E S L lv t S :=
 ⟨rfl,λ v l h=>⟨l,h,List.prefix_refl _⟩,λ v l k h1 h2 j s hj hs=>by
  rw [h1] at h2;cases h2;rw [v9 hj] at hs;cases hs⟩
theorem Tri.dead {n:Nat} {t:Nat} {TT:List (List Nat)} (N:Net n m E S) (r:Tri m E S L lv t TT) {v:Nat} (h:TT[v]?=some []) (hv:v≠t):¬ Rch m E L lv t v:=by
 intro z;cases z with
|here=>exact hv rfl
|step h1 h2 h3 =>
  obtain ⟨l,hl,hm⟩:=N.s2 _ h1;obtain ⟨j,hj,e⟩:=List.getElem_of_mem hm;exact r.vain _ [] l h hl j _ (wE _) (by rw [<- e];exact u7 hj) ⟨h2,h3⟩
theorem Tri.cut {t:Nat} {TT:List (List Nat)} (r:Tri m E S L lv t TT) {v:Nat} {l:List Nat} (h:TT[v]?=some l) {k:Nat} (hk:k<=l.length)
  (hv:∀ (j:Nat) s,k<=j->l[j]?=some s->¬(Adm E L lv s/\Rch m E L lv t (hd E s))):Tri m E S L lv t (TT.set v (l.take k)):=by
 have hlt:v < TT.length:=by
  rcases wP v TT.length with z|z
  ·exact z
  ·rw [v9 z] at h;cases h
 have key:∀ (u:Nat) x,(TT.set v (l.take k))[u]?=some x->(u=v/\x=l.take k) \/ (u≠v/\TT[u]?=some x):=λ u x e=>by
  rw [xE] at e;by_cases z:v=u
  ·subst z;simp [hlt] at e;exact .inl ⟨rfl,e.symm⟩
  ·simp [z] at e;exact .inr ⟨λ y=>z y.symm,e⟩
 refine ⟨by rw [wD];exact r.len,λ u x e=>?_,λ u x y e e2 j s hj hs=>?_⟩
 ·rcases key u x e with ⟨rfl,rfl⟩|⟨_,e'⟩
  ·obtain ⟨kk,h1,h2⟩:=r.pre u l h;exact ⟨kk,h1,(List.take_prefix _ _).trans h2⟩
  ·exact r.pre u x e'
 ·rcases key u x e with ⟨rfl,rfl⟩|⟨_,e'⟩
  ·by_cases hjl:j < l.length
   ·obtain ⟨kk,h1,h2⟩:=r.pre u l h;rw [h1] at e2;cases e2;have hs':l[j]?=some s:=by
     rw [<- hs];exact (List.prefix_iff_getElem?.mp h2 j hjl) ▸ u7 hjl
    refine hv j s ?_ hs';rw [wM] at hj;lia
   ·exact r.vain u l y h e2 j s (by lia) hs
  ·exact r.vain u x y e' e2 j s hj hs
noncomputable def Way (m:Nat) (E:List Nat) (L:List Int) (lv:List (Nat×Nat)):Nat->List Nat->Nat->Prop
|v,[],t=>v=t
|v,s :: p,t=>s < 2 * m/\tl E s=v/\Adm E L lv s/\Way m E L lv (hd E s) p t
theorem Way.snoc {m:Nat} {E:List Nat} {L:List Int} {lv:List (Nat×Nat)}:∀ {v:Nat} {p:List Nat} {u s:Nat},Way m E L lv v p u->s < 2 * m->tl E s=u->Adm E L lv s->Way m E L lv v (p++[s]) (hd E s)
|v,[],u,s,h,h1,h2,h3=>⟨h1,by rw [h2];exact h.symm,h3,rfl⟩
|v,x :: p,u,s,h,h1,h2,h3=>⟨h.1,h.2.1,h.2.2.1,Way.snoc h.2.2.2 h1 h2 h3⟩
theorem Way.unsnoc {m:Nat} {E:List Nat} {L:List Int} {lv:List (Nat×Nat)}:∀ {v:Nat} {p:List Nat} {u s:Nat},Way m E L lv v (p++[s]) u->Way m E L lv v p (tl E s)/\hd E s=u/\s < 2 * m/\Adm E L lv s
|v,[],u,s,h=>⟨h.2.1.symm,h.2.2.2,h.1,h.2.2.1⟩
|v,x :: p,u,s,h=>by
  obtain ⟨a,b,c,d⟩:=Way.unsnoc h.2.2.2;exact ⟨⟨h.1,h.2.1,h.2.2.1,a⟩,b,c,d⟩
theorem Way.level {m:Nat} {E:List Nat} {L:List Int} {lv:List (Nat×Nat)}:∀ {v:Nat} {p:List Nat} {u a:Nat},Way m E L lv v p u->lkp lv v=some a->lkp lv u=some (a+p.length)
|v,[],u,a,h,e=>by rw [show v=u from h] at e;exact e
|v,x :: p,u,a,h,e=>by
  obtain ⟨h1,h2,⟨_,b,h3,h4⟩,h5⟩:=h;rw [h2,e] at h3;cases h3;have:=Way.level h5 h4;rw [this];congr 1;simp;lia
theorem Way.tails {m:Nat} {E:List Nat} {L:List Int} {lv:List (Nat×Nat)}:∀ {v:Nat} {p:List Nat} {u a:Nat},Way m E L lv v p u->lkp lv v=some a->∀ s∈p,∃ b,a<=b/\lkp lv (tl E s)=some b/\lkp lv (hd E s)=some (b+1)
|v,[],u,a,_,_,s,hs=>by simp at hs
|v,x :: p,u,a,h,e,s,hs=>by
  obtain ⟨h1,h2,⟨_,b,h3,h4⟩,h5⟩:=h;rw [h2,e] at h3;cases h3;rcases vL.mp hs with z|z
  ·subst z;exact ⟨a,u6 _,by rw [h2];exact e,h4⟩
  ·obtain ⟨c,k1,k2,k3⟩:=Way.tails h5 h4 s z;exact ⟨c,by lia,k2,k3⟩
theorem Way.nodup {m:Nat} {E:List Nat} {L:List Int} {lv:List (Nat×Nat)}:∀ {v:Nat} {p:List Nat} {u a:Nat},Way m E L lv v p u->lkp lv v=some a->p.Nodup/\∀ s∈p,xr s ∉ p
|v,[],u,a,_,_=>⟨.nil,λ s hs=>by simp at hs⟩
|v,x :: p,u,a,h,e=>by
  obtain ⟨h1,h2,⟨_,b,h3,h4⟩,h5⟩:=h;rw [h2,e] at h3;cases h3;obtain ⟨n1,n2⟩:=Way.nodup h5 h4;have tx:lkp lv (tl E x)=some a:=by rw [h2];exact e
  refine ⟨vX.mpr ⟨λ z=>?_,n1⟩,λ s hs hx=>?_⟩
  ·obtain ⟨c,k1,k2,_⟩:=Way.tails h5 h4 x z;rw [tx] at k2;cases k2;lia
  ·rcases vL.mp hs with z|z
   ·subst z;rcases vL.mp hx with y|y
    ·exact zl61 _ y
    ·obtain ⟨c,k1,k2,k3⟩:=Way.tails h5 h4 _ y;rw [zj51,h4] at k2;cases k2;rw [zy21,tx] at k3;injection k3 with k3;lia
   ·rcases vL.mp hx with y|y
    ·obtain ⟨c,k1,k2,k3⟩:=Way.tails h5 h4 s z;have e1:x=xr s:=y.symm;subst e1;rw [zy21,k2] at h4;cases h4;rw [zj51,k3] at tx;injection tx with tx;lia
    ·exact n2 s z y
variable {E p:List Nat} {L:List Int} {a:Int} {a0 m s:Nat} {lv:List (Nat×Nat)}
def zfg (L:List Int) (s:Nat) (a:Int):List Int:=(L.set s (lf L s - a)).set (xr s) (lf L (xr s)+a)
def za3 (L:List Int) (p:List Nat) (a:Int):List Int:=p.foldl (λ L s=>zfg L s a) L
theorem zed (L:List Int) (s:Nat) (a:Int):(zfg L s a).length=L.length:=by simp [zfg]
theorem zla (a:Int):∀ (p:List Nat) (L:List Int),(za3 L p a).length=L.length
|[],L=>rfl
|s :: p,L=>by show (za3 (zfg L s a) p a).length=_;rw [zla a p,zed]
theorem zfy {i j:Nat} {x:Int} (h:i < L.length):lf (L.set i x) j=if i=j then x else lf L j:=by
 unfold lf;rw [vS,vS,xE];by_cases e:i=j
 ·subst e;simp [h]
 ·simp [e]
theorem zpi {j:Nat} (hl:L.length=2 * m) (hs:s < 2 * m):lf (zfg L s a) j=if j=s then lf L s - a else if j=xr s then lf L (xr s)+a else lf L j:=by
 unfold zfg;rw [zfy (by rw [wD,hl];exact zk51 hs),zfy (by lia)];by_cases e1:j=s
 ·subst e1;rw [if_neg (zl61 j),if_pos rfl,if_pos rfl]
 ·rw [if_neg e1];by_cases e2:j=xr s
  ·rw [if_pos e2.symm,if_pos e2]
  ·rw [if_neg (λ z=>e2 z.symm),if_neg e2,if_neg (λ z=>e1 z.symm)]
theorem zoa {m:Nat} {a:Int}:∀ {p:List Nat} {L:List Int} {j:Nat},L.length=2 * m->(∀ s∈p,s < 2 * m)->p.Nodup->(∀ s∈p,xr s ∉ p)->lf (za3 L p a) j=if j∈p then lf L j - a else if xr j∈p then lf L j+a else lf L j
|[],L,j,_,_,_,_=>by simp [za3]
|s :: p,L,j,hl,hb,nd,nx=>by
  have hs:=hb s (by simp);have nd':=vX.mp nd;have xsp:xr s ∉ p:=λ z=>nx s (by simp) (by simp [z]);have ih:=zoa (a:=a) (p:=p) (L:=zfg L s a) (j:=j) (by rw [zed];exact hl) (λ t ht=>hb t (by simp [ht])) nd'.2 (λ t ht z=>nx t (by simp [ht]) (by simp [z]));show lf (za3 (zfg L s a) p a) j=_;rw [ih,zpi hl hs];by_cases e1:j=s
  ·subst e1;rw [if_neg nd'.1,if_pos rfl,if_neg xsp,if_pos (by simp)]
  ·by_cases e2:j=xr s
   ·subst e2;have n1:xr s ∉ s :: p:=nx s (by simp);rw [if_neg xsp,zz71,if_neg nd'.1,if_neg e1,if_pos rfl,if_neg n1,if_pos (by simp)]
   ·have e3:xr j≠s:=λ z=>e2 (by rw [<- z,zz71]);simp only [vL,e1,e2,e3,if_false,false_or]
noncomputable def term (E:List Nat) (L:List Int) (v k:Nat):Int:=(if hd E (2 * k)=v then lf L (2 * k+1) else 0) - (if hd E (2 * k+1)=v then lf L (2 * k+1) else 0)
def bal (m:Nat) (E:List Nat) (L:List Int) (v:Nat):Int:=((u3 m).map (term E L v)).sum
theorem zse {f g:Nat->Int} {d:Int} {k0:Nat}:∀ (m:Nat),k0 < m->(∀ k,k≠k0->g k=f k)->g k0=f k0+d->((u3 m).map g).sum=((u3 m).map f).sum+d
|0,h,_,_=>by lia
|m+1,h,h1,h2=>by
  rw [w9,vY,vY,yK,yK];by_cases e:k0=m
  ·subst e;have:(u3 k0).map g=(u3 k0).map f:=wZ λ k hk=>h1 k (by have:=u9.mp hk;lia);rw [this];simp [h2];lia
  ·have ih:=zse m (by lia) h1 h2;rw [ih];simp [h1 m (λ z=>e z.symm)];lia
theorem znu {v:Nat} (hl:L.length=2 * m) (hs:s < 2 * m):bal m E (zfg L s a) v=bal m E L v+((if hd E s=v then a else 0) - (if tl E s=v then a else 0)):=by
 unfold bal;refine zse (k0:=s / 2) m (by lia) (λ k hk=>?_) ?_
 ·unfold term;have:lf (zfg L s a) (2 * k+1)=lf L (2 * k+1):=by
   rw [zpi hl hs,if_neg (by lia),if_neg (by unfold xr;split <;> lia)]
  rw [this]
 ·unfold term;by_cases e:s % 2=0
  ·have e1:2 * (s / 2)=s:=by lia
   have e2:xr s=s+1:=by unfold xr;rw [if_pos e]
   have h1:lf (zfg L s a) (2 * (s / 2)+1)=lf L (2 * (s / 2)+1)+a:=by
    rw [zpi hl hs,e1,if_neg (by lia),if_pos e2.symm,e2]
   rw [h1,e1];have e3:tl E s=hd E (s+1):=by unfold tl;rw [e2]
   rw [e3];split <;> split <;> lia
  ·have e1:2 * (s / 2)+1=s:=by lia
   have e2:xr s=2 * (s / 2):=by unfold xr;rw [if_neg e];lia
   have h1:lf (zfg L s a) (2 * (s / 2)+1)=lf L (2 * (s / 2)+1) - a:=by
    rw [zpi hl hs,e1,if_pos rfl]
   rw [h1,e1];have e3:tl E s=hd E (2 * (s / 2)):=by unfold tl;rw [e2]
   rw [e3];split <;> split <;> lia
theorem zm8 {m:Nat} {E:List Nat} {LA:List Int} {lv:List (Nat×Nat)} {a:Int} {w:Nat}:∀ {p:List Nat} {L:List Int} {v t:Nat},L.length=2 * m->Way m E LA lv v p t->bal m E (za3 L p a) w=bal m E L w+((if t=w then a else 0) - (if v=w then a else 0))
|[],L,v,t,_,h=>by
  rw [show v=t from h];show bal m E L w=_;lia
|s :: p,L,v,t,hl,h=>by
  have ih:=zm8 (a:=a) (w:=w) (p:=p) (L:=zfg L s a) (by rw [zed];exact hl) h.2.2.2;show bal m E (za3 (zfg L s a) p a) w=_;rw [ih,znu hl h.1,h.2.1];lia
structure Cap (m:Nat) (most:Nat->Int) (L:List Int):Prop where
 len:L.length=2 * m
 nn:∀ s,s < 2 * m->0<=lf L s
 sm:∀ k,k < m->lf L (2 * k)+lf L (2 * k+1)=most k
theorem Cap.carry {most:Nat->Int} {v t:Nat} (c:Cap m most L) (h:Way m E L lv v p t) (hv:lkp lv v=some a0) (ha:0<=a) (hm:∀ s∈p,a<=lf L s):Cap m most (za3 L p a):=by
 obtain ⟨nd,nx⟩:=h.nodup hv;have hb:∀ {v p t},Way m E L lv v p t->∀ s∈p,s < 2 * m:=λ {v p t} h=>by
  induction p generalizing v with
 |nil=>intro s hs;simp at hs
 |cons x p ih =>
   intro s hs;rcases vL.mp hs with z|z
   ·subst z;exact h.1
   ·exact ih h.2.2.2 s z
 have hb:=hb h;have lc:∀ j,lf (za3 L p a) j=if j∈p then lf L j - a else if xr j∈p then lf L j+a else lf L j:=λ j=>zoa c.len hb nd nx
 refine ⟨by rw [zla];exact c.len,λ s hs=>?_,λ k hk=>?_⟩
 ·rw [lc];have:=c.nn s hs;split
  ·rename_i z;have:=hm s z;lia
  ·split <;> lia
 ·rw [lc,lc];have e1:xr (2 * k)=2 * k+1:=by unfold xr;rw [if_pos (by lia)]
  have e2:xr (2 * k+1)=2 * k:=by unfold xr;rw [if_neg (by lia)];lia
  rw [e1,e2];have:=c.sm k hk;by_cases h1:2 * k∈p
  ·have h2:2 * k+1 ∉ p:=λ z=>nx _ h1 (by rw [e1];exact z);rw [if_pos h1,if_neg h2,if_pos h1];lia
  ·by_cases h2:2 * k+1∈p
   ·rw [if_neg h1,if_pos h2,if_pos h2];lia
   ·rw [if_neg h1,if_neg h2,if_neg h2,if_neg h1];lia
theorem zep {v t:Nat} (hl:L.length=2 * m) (h:Way m E L lv v p t) (hv:lkp lv v=some a0) (ha:0<=a):∀ s,s < 2 * m->Adm E (za3 L p a) lv s->Adm E L lv s:=by
 intro s hs ⟨h1,b,h2,h3⟩;refine ⟨?_,b,h2,h3⟩;obtain ⟨nd,nx⟩:=h.nodup hv;have hb:∀ {v p t},Way m E L lv v p t->∀ s∈p,s < 2 * m:=λ {v p t} h=>by
  induction p generalizing v with
 |nil=>intro s hs;simp at hs
 |cons x p ih =>
   intro s hs;rcases vL.mp hs with z|z
   ·subst z;exact h.1
   ·exact ih h.2.2.2 s z
 rw [zoa hl (hb h) nd nx] at h1;by_cases e1:s∈p
 ·rw [if_pos e1] at h1;lia
 ·rw [if_neg e1] at h1;by_cases e2:xr s∈p
  ·-- the step against one of the way leads down
   obtain ⟨c,k1,k2,k3⟩:=h.tails hv (xr s) e2;rw [zj51,h3] at k2;rw [zy21,h2] at k3;injection k2 with k2;injection k3 with k3;lia
  ·rw [if_neg e2] at h1;exact h1
theorem zlq {v t:Nat} (hl:L.length=2 * m) (h:Way m E L lv v p t) (hv:lkp lv v=some a0)
  (cl:∀ s,s < 2 * m->0 < lf L s->(lkp lv (tl E s)).isSome=true->(lkp lv (hd E s)).isSome=true) (ha:0<=a):∀ s,s < 2 * m->0 < lf (za3 L p a) s->(lkp lv (tl E s)).isSome=true->(lkp lv (hd E s)).isSome=true:=by
 intro s hs h1 h2;obtain ⟨nd,nx⟩:=h.nodup hv;have hb:∀ {v p t},Way m E L lv v p t->∀ s∈p,s < 2 * m:=λ {v p t} h=>by
  induction p generalizing v with
 |nil=>intro s hs;simp at hs
 |cons x p ih =>
   intro s hs;rcases vL.mp hs with z|z
   ·subst z;exact h.1
   ·exact ih h.2.2.2 s z
 rw [zoa hl (hb h) nd nx] at h1;by_cases e1:s∈p
 ·rw [if_pos e1] at h1;exact cl s hs (by lia) h2
 ·rw [if_neg e1] at h1;by_cases e2:xr s∈p
  ·obtain ⟨c,k1,k2,k3⟩:=h.tails hv (xr s) e2;rw [zy21] at k3;rw [zj51] at k2;rw [k2];rfl
  ·rw [if_neg e2] at h1;exact cl s hs h1 h2
def tot (m:Nat) (most:Nat->Int):Int:=((u3 m).map most).sum
theorem zj31 {most:Nat->Int} (c:Cap m most L) (v:Nat):bal m E L v<=tot m most:=by
 unfold bal tot;have:∀ j,j<=m->((u3 j).map (term E L v)).sum<=((u3 j).map most).sum:=λ j=>by
  induction j with
 |zero=>intro _;simp
 |succ j ih =>
   intro hj;have:=ih (by lia);rw [w9,vY,vY,yK,yK];have h1:=c.nn (2 * j) (by lia);have h2:=c.nn (2 * j+1) (by lia);have h3:=c.sm j (by lia);have h4:term E L v j<=most j:=by unfold term;split <;> split <;> lia
   simp;lia
 exact this m (u6 _)
open PySem
abbrev nB (a b:String):Prop:=(xJ a==xJ b)=false
abbrev nE (a b:String):Prop:=(xJ a=xJ b)=False
theorem nN {a b:String} (h:nB a b):nE a b:=eq_false (beq_eq_false_iff_ne.mp h)
theorem zb5:nB "ends" "left":=by decide +kernel
theorem zd4:nB "ends" "steps":=by decide +kernel
theorem zq5:nB "left" "ends":=by decide +kernel
theorem zy3:nB "left" "steps":=by decide +kernel
theorem ze4:nB "steps" "ends":=by decide +kernel
theorem zv3:nB "steps" "left":=by decide +kernel
theorem zn4:nB "amounts" "ends":=by decide +kernel
theorem zo4:nB "amounts" "left":=by decide +kernel
theorem zm3:nB "amounts" "steps":=by decide +kernel
theorem zn5:nB "levels" "ends":=by decide +kernel
theorem zk5:nB "levels" "left":=by decide +kernel
theorem zf4:nB "levels" "steps":=by decide +kernel
theorem zk2:nB "row_behind" "ends":=by decide +kernel
theorem zm2:nB "row_behind" "left":=by decide +kernel
theorem zj2:nB "row_behind" "steps":=by decide +kernel
theorem zj4:nB "push_up" "ends":=by decide +kernel
theorem zr4:nB "push_up" "left":=by decide +kernel
theorem zq3:nB "push_up" "steps":=by decide +kernel
theorem zd5:nB "way_up" "ends":=by decide +kernel
theorem zg5:nB "way_up" "left":=by decide +kernel
theorem zh4:nB "way_up" "steps":=by decide +kernel
theorem zk4:nB "step_up" "ends":=by decide +kernel
theorem zg4:nB "step_up" "left":=by decide +kernel
theorem zb3:nB "step_up" "steps":=by decide +kernel
theorem zq6:nB "carry" "ends":=by decide +kernel
theorem zn6:nB "carry" "left":=by decide +kernel
theorem zc5:nB "carry" "steps":=by decide +kernel
theorem ze8:nE "ends" "left":=nN zb5
theorem zu6:nE "ends" "steps":=nN zd4
theorem zz7:nE "left" "ends":=nN zq5
theorem zi7:nE "left" "steps":=nN zy3
theorem zp6:nE "steps" "ends":=nN ze4
theorem zc7:nE "steps" "left":=nN zv3
theorem zc4:nB "wide" "since":=by decide +kernel
theorem zx3:nB "wide" "other":=by decide +kernel
theorem zf5:nB "wide" "turn":=by decide +kernel
theorem zd7:nB "since" "wide":=by decide +kernel
theorem zy6:nB "other" "wide":=by decide +kernel
theorem zw3:nB "other" "turn":=by decide +kernel
theorem zg8:nB "turn" "wide":=by decide +kernel
theorem zx6:nB "turn" "other":=by decide +kernel
theorem zr3:nB "width_at" "wide":=by decide +kernel
theorem zv2:nB "width_at" "since":=by decide +kernel
theorem zu2:nB "width_at" "other":=by decide +kernel
theorem zk3:nB "width_at" "turn":=by decide +kernel
theorem zf6:nE "wide" "since":=nN zc4
theorem zo6:nE "wide" "other":=nN zx3
theorem za8:nE "wide" "turn":=nN zf5
theorem zh6:nE "other" "turn":=nN zw3
open PySem.Spec PyProof.Rows _2 _3 _4
variable {m s:Nat}
def nI (x:Nat):D:=.int (x:Int)
abbrev dSt (S:List (List Nat)):D:=.list (S.map λ l=>.list (l.map nI))
noncomputable abbrev oS (C:Addr) (E:List Nat) (L:List Int) (S:List (List Nat)):T:=.ob C [("ends",.fz (.list (E.map nI))),("left",.li (L.map .int)),("steps",.fz (dSt S))]
def kN (lv:List (Nat×Nat)):List (Key×D):=lv.map λ p=>(.inl (p.1:Int),nI p.2)
theorem zp11 (p v:Nat):((v7 (p:Int):Key)=v7 (v:Int))=(p=v):=by
 apply propext;constructor
 ·intro z;injection z with z;exact_mod_cast z
 ·intro z;rw [z]
theorem zgc (lv:List (Nat×Nat)) (v:Nat):getA (kN lv) (.inl (v:Int))=(lkp lv v).map nI:=by
 unfold getA kN lkp
 induction lv with
|nil=>rfl
|cons p r ih =>
  by_cases e:p.1=v
  ·simp [e]
  ·have e2:¬ (v7 (p.1:Int):Key)=v7 (v:Int):=by rw [zp11];exact e
   simp only [vW,xU];simp only [e,e2,decide_false];exact ih
theorem zt01 {lv:List (Nat×Nat)} {v a:Nat} (h:lkp lv v=none):putD (kN lv) (.inl (v:Int)) (nI a)=kN (lv++[(v,a)]):=by
 unfold putD;have:((kN lv).any λ kv=>decide (kv.1=(v7 (v:Int):Key)))=false:=by
  rw [zY];intro kv hk;unfold kN at hk;obtain ⟨p,hp,rfl⟩:=vQ.mp hk;have h1:=zjh h;have:p.1≠v:=λ e=>h1 (by rw [<- e];exact zM hp);simp only [decide_eq_true_eq];rw [zp11];exact this
 rw [this];simp [kN]
theorem zfc1 {l:List Nat} {i:Nat} (h:l[i]?=some s):atI (l.map nI) (i:Int)=some (nI s):=ze6 (by lia) (by rw [vR,u8,h];rfl)
theorem zh51 {E:List Nat} (hl:E.length=2 * m) (hs:s < 2 * m):atI (E.map nI) (s:Int)=some (nI (hd E s)):=by
 refine zfc1 ?_;unfold hd;rw [vS,u7 (by lia)];rfl
theorem zu61 {L:List Int} (hl:L.length=2 * m) (hs:s < 2 * m):atI (L.map u4) (s:Int)=some (.int (lf L s)):=by
 refine ze6 (by lia) ?_;rw [vR,u8];unfold lf;rw [vS,u7 (by lia)];rfl
theorem zud1 {S:List (List Nat)} {v:Nat} {l:List Nat} (h:S[v]?=some l):atI (S.map λ l=>(v5 (l.map nI))) (v:Int)=some (.list (l.map nI)):=ze6 (by lia) (by rw [vR,u8,h];rfl)
theorem ze11 (s:Nat):(s:Int)+1 - 2 * ((s:Int) % 2)=((xr s:Nat):Int):=by unfold xr;split <;> lia
variable {E beh row:List Nat} {L:List Int} {lv lv1:List (Nat×Nat)} {m n src:Nat}
structure Bfs (n m:Nat) (E:List Nat) (L:List Int) (src:Nat) (lv:List (Nat×Nat)) (row:List Nat) (lev:Nat):Prop where
 nd:(lv.map (·.1)).Nodup
 bd:∀ p∈lv,p.1 < n
 l0:lkp lv src=some 0
 z0:∀ v,lkp lv v=some 0->v=src
 ro:∀ v∈row,lkp lv v=some lev
 le:∀ v b,lkp lv v=some b->b<=lev/\(b=lev->v∈row)
 cl:∀ v b,lkp lv v=some b->b < lev->∀ s,s < 2 * m->tl E s=v->0 < lf L s->(lkp lv (hd E s)).isSome=true
 pr:∀ v a,lkp lv v=some (a+1)->∃ s,s < 2 * m/\0 < lf L s/\hd E s=v/\lkp lv (tl E s)=some a
theorem Bfs.start (h:src < n):Bfs n m E L src [(src,0)] [src] 0:=by
 have e:∀ v,lkp [(src,0)] v=if src=v then some 0 else none:=λ v=>by
  by_cases z:src=v
  ·simp [lkp,z]
  ·simp [lkp,z]
 refine ⟨by simp,λ p hp=>?_,by rw [e];simp,λ v hv=>?_,λ v hv=>?_,λ v b hv=>?_,λ v b _ hb=>by lia,λ v a hv=>?_⟩
 ·simp at hp;subst hp;exact h
 ·rw [e] at hv;split at hv
  ·rename_i z;exact z.symm
  ·cases hv
 ·simp at hv;subst hv;rw [e];simp
 ·rw [e] at hv;split at hv
  ·rename_i z;cases hv;exact ⟨u6 _,λ _=>by simp [z]⟩
  ·cases hv
 ·rw [e] at hv;split at hv <;> cases hv
theorem Bfs.lev {n m:Nat} {E:List Nat} {L:List Int} {src:Nat} {lv:List (Nat×Nat)} {lev:Nat} (h:Bfs n m E L src lv [] lev):Lev n m E L src lv:=by
 refine ⟨h.nd,h.bd,h.l0,h.z0,λ s hs hp ht=>?_,h.pr⟩;obtain ⟨b,hb⟩:=xH.mp ht;have:=h.le _ b hb;have hlt:b < lev:=by
  rcases wP b lev with z|z
  ·exact z
  ·have:=this.2 (by lia);simp at this
 exact h.cl _ b hb hlt s hs rfl hp
structure Mid (n m:Nat) (E:List Nat) (L:List Int) (lv:List (Nat×Nat)) (lev:Nat) (lv1:List (Nat×Nat)) (beh:List Nat):Prop where
 nd:(lv1.map (·.1)).Nodup
 bd:∀ p∈lv1,p.1 < n
 old:∀ v b,lkp lv v=some b->lkp lv1 v=some b
 new:∀ v b,lkp lv1 v=some b->lkp lv v=some b \/ (b=lev+1/\v∈beh)
 ro:∀ v∈beh,lkp lv1 v=some (lev+1)
 pr:∀ v a,lkp lv1 v=some (a+1)->∃ s,s < 2 * m/\0 < lf L s/\hd E s=v/\lkp lv1 (tl E s)=some a
 len:lv1.length=lv.length+beh.length
theorem Mid.start {lev:Nat} (h:Bfs n m E L src lv row lev):Mid n m E L lv lev lv [] :=
 ⟨h.nd,h.bd,λ _ _ z=>z,λ _ _ z=>.inl z,λ v hv=>by simp at hv,h.pr,by simp⟩
theorem Mid.put {lev:Nat} {s:Nat} (h:Mid n m E L lv lev lv1 beh) (hs:s < 2 * m) (hp:0 < lf L s) (ht:lkp lv1 (tl E s)=some lev) (hn:hd E s < n) (hg:lkp lv1 (hd E s)=none):Mid n m E L lv lev (lv1++[(hd E s,lev+1)]) (beh++[hd E s]):=by
 have keep:∀ v b,lkp lv1 v=some b->lkp (lv1++[(hd E s,lev+1)]) v=some b:=λ v b e=>by rw [zpc,e]
 have me:lkp (lv1++[(hd E s,lev+1)]) (hd E s)=some (lev+1):=by rw [zpc,hg];simp
 have back:∀ v b,lkp (lv1++[(hd E s,lev+1)]) v=some b->lkp lv1 v=some b \/ (v=hd E s/\b=lev+1):=λ v b e=>by
  rw [zpc] at e;cases q:lkp lv1 v with
 |some c=>rw [q] at e;exact .inl e
 |none =>
   rw [q] at e;simp only at e;split at e
   ·rename_i z;cases e;exact .inr ⟨z.symm,rfl⟩
   ·cases e
 refine ⟨?_,λ p hp'=>?_,λ v b e=>keep v b (h.old v b e),λ v b e=>?_,λ v hv=>?_,λ v a e=>?_,by simp [h.len];lia⟩
 ·rw [vY];refine wH.mpr ⟨h.nd,by simp,λ x hx y hy z=>?_⟩;simp at hy;subst hy;subst z;exact zjh hg hx
 ·rcases vJ.mp hp' with z|z
  ·exact h.bd p z
  ·simp at z;subst z;exact hn
 ·rcases back v b e with z|⟨z1,z2⟩
  ·rcases h.new v b z with y|⟨y1,y2⟩
   ·exact .inl y
   ·exact .inr ⟨y1,by simp [y2]⟩
  ·exact .inr ⟨z2,by simp [z1]⟩
 ·rcases vJ.mp hv with z|z
  ·exact keep v _ (h.ro v z)
  ·simp at z;rw [z];exact me
 ·rcases back v (a+1) e with z|⟨z1,z2⟩
  ·obtain ⟨s',k1,k2,k3,k4⟩:=h.pr v a z;exact ⟨s',k1,k2,k3,keep _ _ k4⟩
  ·have:a=lev:=by lia
   subst this;exact ⟨s,hs,hp,z1.symm,keep _ _ ht⟩
theorem Mid.bfs {S:List (List Nat)} {lev:Nat} (N:Net n m E S) (h0:Bfs n m E L src lv row lev) (h:Mid n m E L lv lev lv1 beh)
  (cl:∀ v∈row,∀ l,S[v]?=some l->∀ s∈l,0 < lf L s->(lkp lv1 (hd E s)).isSome=true):Bfs n m E L src lv1 beh (lev+1):=by
 refine ⟨h.nd,h.bd,h.old _ _ h0.l0,λ v hv=>?_,h.ro,λ v b hv=>?_,λ v b hv hb s hs ht hp=>?_,h.pr⟩
 ·rcases h.new v 0 hv with z|⟨z,_⟩
  ·exact h0.z0 v z
  ·lia
 ·rcases h.new v b hv with z|⟨z1,z2⟩
  ·have:=h0.le v b z;exact ⟨by lia,λ e=>by lia⟩
  ·exact ⟨by lia,λ _=>z2⟩
 ·rcases h.new v b hv with z|⟨z1,_⟩
  ·have le:=h0.le v b z;by_cases e:b=lev
   ·have hr:=le.2 e;obtain ⟨l,hl,hm⟩:=N.s2 s hs;rw [ht] at hl;exact cl v hr l hl s hm hp
   ·have:=h0.cl v b z (by lia) s hs ht hp;obtain ⟨c,hc⟩:=xH.mp this;rw [h.old _ c hc];rfl
  ·lia
variable {E p:List Nat} {L:List Int} {S:List (List Nat)} {here m n s src:Nat} {lv:List (Nat×Nat)}
structure Go (m:Nat) (E:List Nat) (S:List (List Nat)) (L:List Int) (lv:List (Nat×Nat)) (t src:Nat) (p:List Nat) (here:Nat) (TT:List (List Nat)):Prop where
 tri:Tri m E S L lv t TT
 way:Way m E L lv src p here
 l0:lkp lv src=some 0
 last:∀ s∈p,∃ l,TT[tl E s]?=some (l++[s])
def szT (TT:List (List Nat)):Nat:=(TT.map zD).sum
theorem zab:∀ {TT:List (List Nat)} {v:Nat} {l:List Nat} (k:List Nat),TT[v]?=some l->szT (TT.set v k)+l.length=szT TT+k.length
|[],v,l,k,h=>by simp at h
|x :: r,0,l,k,h=>by simp at h;subst h;simp [szT];lia
|x :: r,v+1,l,k,h=>by
  have:=zab (TT:=r) (v:=v) k (by simpa using h);simp [szT] at this ⊢;lia
theorem Go.lev {t:Nat} {TT:List (List Nat)} (g:Go m E S L lv t src p here TT):lkp lv here=some p.length:=by
 have:=g.way.level g.l0
 rwa [Nat.zero_add] at this
theorem Go.short {t:Nat} {TT:List (List Nat)} (g:Go m E S L lv t src p here TT) (hb:∀ s∈p,s < 2 * m):p.length<=2 * m :=
 zf1 _ p (g.way.nodup g.l0).1 hb
theorem Way.lt {m:Nat} {E:List Nat} {L:List Int} {lv:List (Nat×Nat)}:∀ {v:Nat} {p:List Nat} {t:Nat},Way m E L lv v p t->∀ s∈p,s < 2 * m
|_,[],_,_,s,hs=>by simp at hs
|v,x :: p,t,h,s,hs=>by
  rcases vL.mp hs with z|z
  ·rw [z];exact h.1
  ·exact h.2.2.2.lt s z
theorem Go.tails {t:Nat} {TT:List (List Nat)} (g:Go m E S L lv t src p here TT):∀ s∈p,tl E s≠here:=by
 have key:∀ {v:Nat} {p:List Nat} {u a:Nat},Way m E L lv v p u->lkp lv v=some a->∀ s∈p,∃ b,b < a+p.length/\lkp lv (tl E s)=some b:=by
  intro v p
  induction p generalizing v with
 |nil=>intro u a _ _ s hs;simp at hs
 |cons x r ih =>
   intro u a h e s hs;obtain ⟨h1,h2,⟨h3,b,h4,h5⟩,h6⟩:=h;have:b=a:=by rw [h2,e] at h4;injection h4 with h4;exact h4.symm
   subst this;rcases vL.mp hs with z|z
   ·subst z;exact ⟨b,by simp,h4⟩
   ·obtain ⟨c,c1,c2⟩:=ih h6 h5 s z;exact ⟨c,by simp;lia,c2⟩
 intro s hs e;obtain ⟨b,h1,h2⟩:=key g.way g.l0 s hs;rw [e,g.lev] at h2;injection h2 with h2;lia
theorem Go.vain {t:Nat} {TT:List (List Nat)} (N:Net n m E S) (g:Go m E S L lv t src p here TT) {l:List Nat} {j:Nat} (h:TT[here]?=some l)
  (bad:∀ (i:Nat) s,j<=i->l[i]?=some s->¬(0 < lf L s/\lkp lv (hd E s)=some (p.length+1))):∀ (i:Nat) s,j<=i->l[i]?=some s->¬(Adm E L lv s/\Rch m E L lv t (hd E s)):=λ i s hi e z=>by
 obtain ⟨k,h1,h2⟩:=g.tri.pre here l h;obtain ⟨_,hs⟩:=N.s1 here k h1 s (h2.subset (wF e));obtain ⟨z1,a,z2,z3⟩:=z.1;rw [hs,g.lev] at z2;injection z2 with z2;subst z2;exact bad i s hi e ⟨z1,z3⟩
theorem Go.cut {m:Nat} {E:List Nat} {S:List (List Nat)} {L:List Int} {lv:List (Nat×Nat)} {t src:Nat} {p:List Nat} {here n:Nat} {TT:List (List Nat)} (N:Net n m E S) (g:Go m E S L lv t src p here TT) {l:List Nat} {j:Nat} (h:TT[here]?=some l) (hj:j<=l.length)
  (bad:∀ (i:Nat) s,j<=i->l[i]?=some s->¬(0 < lf L s/\lkp lv (hd E s)=some (p.length+1))):Go m E S L lv t src p here (TT.set here (l.take j)) :=
 ⟨g.tri.cut h hj (g.vain N h bad),g.way,g.l0,λ s hs=>by
  obtain ⟨k,hk⟩:=g.last s hs;refine ⟨k,?_⟩;rw [xC (λ z=>g.tails s hs z.symm)];exact hk⟩
theorem zpe {TT:List (List Nat)} {v:Nat} {l:List Nat} (h:TT[v]?=some l):v < TT.length:=by
 rcases wP v TT.length with z|z
 ·exact z
 ·rw [v9 z] at h;cases h
theorem Go.fwd {t:Nat} {TT:List (List Nat)} (N:Net n m E S) (g:Go m E S L lv t src p here TT) {l:List Nat} {j:Nat} (h:TT[here]?=some l) (h0:0 < j) (hj:j<=l.length)
  (bad:∀ (i:Nat) s,j<=i->l[i]?=some s->¬(0 < lf L s/\lkp lv (hd E s)=some (p.length+1))) (hs:l[j - 1]?=some s) (hp:0 < lf L s) (hl:lkp lv (hd E s)=some (p.length+1)) :
  Go m E S L lv t src (p++[s]) (hd E s) (TT.set here (l.take j))/\szT (TT.set here (l.take j))<=szT TT/\s < 2 * m:=by
 have g1:=g.cut N h hj bad;obtain ⟨k,k1,k2⟩:=g.tri.pre here l h;obtain ⟨hsm,hst⟩:=N.s1 here k k1 s (k2.subset (wF hs));refine ⟨⟨g1.tri,g.way.snoc hsm hst ⟨hp,_,by rw [hst];exact g.lev,hl⟩,g.l0,λ x hx=>?_⟩,?_,hsm⟩
 ·rcases vJ.mp hx with z|z
  ·exact g1.last x z
  ·simp at z;subst z;refine ⟨l.take (j - 1),?_⟩;rw [hst,w8 (zpe h)];congr 1;have:j=(j - 1)+1:=by lia
   rw [this,xL,yD,hs];rfl
 ·have:=zab (l.take j) h;rw [wM] at this;lia
theorem Go.back {t:Nat} {TT:List (List Nat)} (N:Net n m E S) (g:Go m E S L lv t src (p++[s]) here TT) {l:List Nat} (h:TT[here]?=some l) (ht:here≠t)
  (bad:∀ (i:Nat) s',0<=i->l[i]?=some s'->¬(0 < lf L s'/\lkp lv (hd E s')=some ((p++[s]).length+1))) :
  s < 2 * m/\∃ k,(TT.set here [])[tl E s]?=some (k++[s])/\Go m E S L lv t src p (tl E s) ((TT.set here []).set (tl E s) k)/\szT ((TT.set here []).set (tl E s) k)+1<=szT TT:=by
 have g1:=g.cut (j:=0) N h (wE _) bad;rw [y3] at g1;obtain ⟨k,hk⟩:=g1.last s (by simp);obtain ⟨w1,w2,w3,w4⟩:=g.way.unsnoc;have dead:¬ Rch m E L lv t here:=g1.tri.dead N (v:=here) (by rw [w8 (zpe h)]) ht;have tri2:=g1.tri.cut hk (k:=k.length) (by simp) (λ j x hj e z=>by
  have hjl:j < (k++[s]).length:=by
   rcases wP j (k++[s]).length with y|y
   ·exact y
   ·rw [v9 y] at e;cases e
  have:j=k.length:=by rw [vK] at hjl;simp at hjl;lia
  subst this;rw [List.getElem?_concat_length] at e;injection e with e;subst e;rw [w2] at z;exact dead z.2)
 rw [List.take_left] at tri2;have sz1:=zab (TT:=TT) [] h;have sz2:=zab k hk;have g2:Go m E S L lv t src p (tl E s) (TT.set here []):=⟨g1.tri,w1,g.l0,λ x hx=>g1.last x (by simp [hx])⟩
 refine ⟨w3,k,hk,⟨tri2,w1,g.l0,λ x hx=>?_⟩,?_⟩
 ·obtain ⟨q,hq⟩:=g2.last x hx;refine ⟨q,?_⟩;rw [xC (λ z=>g2.tails x hx z.symm)];exact hq
 ·rw [vK] at sz2;simp at sz1 sz2;lia
theorem Go.dead {m:Nat} {E:List Nat} {S:List (List Nat)} {L:List Int} {lv:List (Nat×Nat)} {t src:Nat} {here n:Nat} {TT:List (List Nat)} (N:Net n m E S) (g:Go m E S L lv t src [] here TT) {l:List Nat} (h:TT[here]?=some l) (ht:here≠t)
  (bad:∀ (i:Nat) s',0<=i->l[i]?=some s'->¬(0 < lf L s'/\lkp lv (hd E s')=some (([]:List Nat).length+1))):¬ Rch m E L lv t src:=by
 have g1:=g.cut (j:=0) N h (wE _) bad;have e:src=here:=g.way;rw [e];exact g1.tri.dead N (v:=here) (by rw [w8 (zpe h)];rfl) ht
theorem zqi {j:Nat} (h:j < n):ixN n ((j:Nat):Int)=some j:=by
 unfold ixN;rw [if_pos (by lia),if_pos (by lia),vR]
structure Up (m:Nat) (most:Nat->Int) (E:List Nat) (L L':List Int) (src snk:Nat):Prop where
 cap:Cap m most L'
 eqb:∀ v,v≠src->v≠snk->bal m E L' v=bal m E L v
 out:∀ k,k < m->hd E (2 * k+1)=src->lf L (2 * k+1)<=lf L' (2 * k+1)
 inn:∀ k,k < m->hd E (2 * k)=snk->lf L (2 * k+1)<=lf L' (2 * k+1)
 bs:bal m E L' src<=bal m E L src
 bt:bal m E L snk<=bal m E L' snk
theorem Up.refl {m:Nat} {most:Nat->Int} {E:List Nat} {L:List Int} {src snk:Nat} (c:Cap m most L):Up m most E L L src snk :=
 ⟨c,λ _ _ _=>rfl,λ _ _ _=>wQ _,λ _ _ _=>wQ _,wQ _,wQ _⟩
theorem Up.trans {m:Nat} {most:Nat->Int} {E:List Nat} {L L' _2:List Int} {src snk:Nat} (h:Up m most E L L' src snk) (k:Up m most E L' _2 src snk):Up m most E L _2 src snk :=
 ⟨k.cap,λ v a b=>(k.eqb v a b).trans (h.eqb v a b),λ i a b=>zN (h.out i a b) (k.out i a b),λ i a b=>zN (h.inn i a b) (k.inn i a b),zN k.bs h.bs,zN h.bt k.bt⟩
theorem Up.carry {m:Nat} {most:Nat->Int} {E:List Nat} {L:List Int} {lv:List (Nat×Nat)} {src snk:Nat} {p:List Nat} {a:Int} (c:Cap m most L) (h:Way m E L lv src p snk) (l0:lkp lv src=some 0) (ha:0<=a) (hm:∀ s∈p,a<=lf L s):Up m most E L (za3 L p a) src snk:=by
 obtain ⟨nd,nx⟩:=h.nodup l0;have lev:=h.level l0;have ft:∀ {v:Nat} {p:List Nat} {u a:Nat},Way m E L lv v p u->lkp lv v=some a->∀ s∈p,∃ b,b < a+p.length/\lkp lv (tl E s)=some b:=by
  intro v p
  induction p generalizing v with
 |nil=>intro u a _ _ s hs;simp at hs
 |cons x r ih =>
   intro u a h e s hs;obtain ⟨h1,h2,⟨h3,b,h4,h5⟩,h6⟩:=h;have:b=a:=by rw [h2,e] at h4;injection h4 with h4;exact h4.symm
   subst this;rcases vL.mp hs with z|z
   ·subst z;exact ⟨b,by simp,h4⟩
   ·obtain ⟨c,c1,c2⟩:=ih h6 h5 s z;exact ⟨c,by simp;lia,c2⟩
 have keep:∀ j,j ∉ p->lf L j<=lf (za3 L p a) j:=λ j hj=>by
  rw [zoa c.len h.lt nd nx,if_neg hj];split <;> lia
 refine ⟨c.carry h l0 ha hm,λ v v1 v2=>?_,λ k hk e=>keep _ λ z=>?_,λ k hk e=>keep _ λ z=>?_,by rw [zm8 c.len h,if_pos rfl];split <;> lia,by rw [zm8 c.len h,if_pos rfl];split <;> lia⟩
 ·rw [zm8 c.len h,if_neg (λ z=>v2 z.symm),if_neg (λ z=>v1 z.symm)];lia
 ·obtain ⟨b,_,_,z3⟩:=h.tails l0 _ z;rw [e,l0] at z3;injection z3 with z3;lia
 ·obtain ⟨b,z1,z2⟩:=ft h l0 _ z;have:tl E (2 * k+1)=snk:=by
   unfold tl xr;rw [if_neg (by lia),yD];exact e
  rw [this,lev] at z2;injection z2 with z2;lia
variable {E:List Nat} {L f:List Int} {S:List (List Nat)} {lv:List (Nat×Nat)} {m n:Nat}
abbrev Ar:=Nat×Nat×Int
def dAr (a:Ar):D:=.tuple [nI a.1,nI a.2.1,.int a.2.2]
def zi6 (A:List Ar):List Nat:=A.flatMap λ a=>[a.2.1,a.1]
def zs9 (A:List Ar) (f:List Int):List Int:=(A.zip f).flatMap λ x=>[x.1.2.2 - x.2,x.2]
theorem zon (A:List Ar) (a:Ar):zi6 (A++[a])=zi6 A++[a.2.1,a.1]:=by simp [zi6]
theorem zw31 {X:List Nat} {s:Nat} (h:s < E.length):hd (E++X) s=hd E s:=by
 unfold hd;rw [vS,vS,wN h]
theorem znd1 {x y:Nat} (h:E.length=2 * m):hd (E++[x,y]) (2 * m)=x/\hd (E++[x,y]) (2 * m+1)=y:=by
 unfold hd;constructor
 ·rw [vS,wK (by lia),h];simp
 ·rw [vS,wK (by lia),h];simp
theorem Net.nil (n:Nat):Net n 0 [] (vP n []):=⟨rfl,λ s hs=>by lia,by simp,(λ v l h s hs=>by
 rw [xI] at h;split at h
 ·cases h;simp at hs
 ·cases h),λ s hs=>by lia⟩
theorem Net.push {u v:Nat} {l1 l2:List Nat} (N:Net n m E S) (hu:u < n) (hv:v < n) (h1:S[u]?=some l1) (h2:(S.set u (l1++[2 * m]))[v]?=some l2) :
  Net n (m+1) (E++[v,u]) ((S.set u (l1++[2 * m])).set v (l2++[2 * m+1])):=by
 obtain ⟨e1,e2⟩:=znd1 (x:=v) (y:=u) N.lE;have x1:xr (2 * m)=2 * m+1:=by unfold xr;rw [if_pos (by lia)]
 have x2:xr (2 * m+1)=2 * m:=by unfold xr;rw [if_neg (by lia)];lia
 have old:∀ s,s < 2 * m->tl (E++[v,u]) s=tl E s:=λ s hs=>zw31 (by rw [N.lE];exact zk51 hs);have t1:tl (E++[v,u]) (2 * m)=u:=by unfold tl;rw [x1];exact e2
 have t2:tl (E++[v,u]) (2 * m+1)=v:=by unfold tl;rw [x2];exact e1
 have A1:∀ (w:Nat) l,(S.set u (l1++[2 * m]))[w]?=some l->∀ s∈l,(s < 2 * m/\tl E s=w) \/ (s=2 * m/\w=u):=λ w l h s hs=>by
  by_cases z:u=w
  ·subst z;rw [w8 (by rw [N.lS];exact hu)] at h;cases h;rcases vJ.mp hs with y|y
   ·exact .inl (N.s1 u l1 h1 s y)
   ·simp at y;exact .inr ⟨y,rfl⟩
  ·rw [xC z] at h;exact .inl (N.s1 w l h s hs)
 have B1:∀ s,s < 2 * m->∃ l,(S.set u (l1++[2 * m]))[tl E s]?=some l/\s∈l:=λ s hs=>by
  obtain ⟨l,k1,k2⟩:=N.s2 s hs;by_cases z:u=tl E s
  ·rw [<- z] at k1 ⊢;rw [h1] at k1;cases k1;exact ⟨_,w8 (by rw [N.lS];exact hu),by simp [k2]⟩
  ·exact ⟨l,by rw [xC z];exact k1,k2⟩
 have B2:∃ l,(S.set u (l1++[2 * m]))[u]?=some l/\2 * m∈l:=⟨_,w8 (by rw [N.lS];exact hu),by simp⟩
 have B3:∀ (w s:Nat),(∃ l,(S.set u (l1++[2 * m]))[w]?=some l/\s∈l)->∃ l,((S.set u (l1++[2 * m])).set v (l2++[2 * m+1]))[w]?=some l/\s∈l:=λ w s ⟨l,k1,k2⟩=>by
  by_cases z:v=w
  ·subst z;rw [h2] at k1;cases k1;exact ⟨_,w8 (by rw [wD,N.lS];exact hv),by simp [k2]⟩
  ·exact ⟨l,by rw [xC z];exact k1,k2⟩
 refine ⟨by rw [vK,N.lE];simp;lia,λ s hs=>?_,by rw [wD,wD];exact N.lS,λ w l h s hs=>?_,λ s hs=>?_⟩
 ·by_cases z:s < 2 * m
  ·rw [zw31 (by rw [N.lE];exact z)];exact N.bE s z
  ·have:s=2 * m \/ s=2 * m+1:=by lia
   rcases this with y|y
   ·rw [y,e1];exact hv
   ·rw [y,e2];exact hu
 ·have key:(s < 2 * m/\tl E s=w) \/ (s=2 * m/\w=u) \/ (s=2 * m+1/\w=v):=by
   by_cases z:v=w
   ·subst z;rw [w8 (by rw [wD,N.lS];exact hv)] at h;cases h;rcases vJ.mp hs with y|y
    ·rcases A1 v l2 h2 s y with k|k
     ·exact .inl k
     ·exact .inr (.inl k)
    ·simp at y;exact .inr (.inr ⟨y,rfl⟩)
   ·rw [xC z] at h;rcases A1 w l h s hs with k|k
    ·exact .inl k
    ·exact .inr (.inl k)
  rcases key with ⟨k1,k2⟩|⟨rfl,rfl⟩|⟨rfl,rfl⟩
  ·exact ⟨by lia,by rw [old s k1];exact k2⟩
  ·exact ⟨by lia,t1⟩
  ·exact ⟨by lia,t2⟩
 ·by_cases z:s < 2 * m
  ·rw [old s z];exact B3 _ _ (B1 s z)
  ·have:s=2 * m \/ s=2 * m+1:=by lia
   rcases this with y|y
   ·subst y;rw [t1];exact B3 _ _ B2
   ·subst y;rw [t2];exact ⟨_,w8 (by rw [wD,N.lS];exact hv),by simp⟩
theorem zyd:∀ {A:List Ar} {f:List Int},f.length=A.length->(zs9 A f).length=2 * A.length
|[],f,h=>by simp [zs9]
|a :: r,[],h=>by simp at h
|a :: r,x :: f,h=>by have:=zyd (A:=r) (f:=f) (by simpa using h);simp [zs9] at this ⊢;lia
theorem zf9:∀ {A:List Ar} {f:List Int} {k:Nat} {a:Ar} {x:Int},A[k]?=some a->f[k]?=some x->lf (zs9 A f) (2 * k)=a.2.2 - x/\lf (zs9 A f) (2 * k+1)=x
|[],f,k,a,x,h,_=>by simp at h
|b :: r,[],k,a,x,_,h=>by simp at h
|b :: r,y :: f,0,a,x,h1,h2=>by simp at h1 h2;subst h1;subst h2;simp [zs9,lf]
|b :: r,y :: f,k+1,a,x,h1,h2=>by
  have:=zf9 (A:=r) (f:=f) (k:=k) (by simpa using h1) (by simpa using h2);rw [show 2 * (k+1)=2 * k+1+1 by lia];simp [zs9,lf] at this ⊢;exact this
theorem zpd:∀ {A:List Ar} {k:Nat} {a:Ar},A[k]?=some a->hd (zi6 A) (2 * k)=a.2.1/\hd (zi6 A) (2 * k+1)=a.1
|[],k,a,h=>by simp at h
|b :: r,0,a,h=>by simp at h;subst h;simp [zi6,hd]
|b :: r,k+1,a,h=>by
  have:=zpd (A:=r) (k:=k) (by simpa using h);rw [show 2 * (k+1)=2 * k+1+1 by lia];simp [zi6,hd] at this ⊢;exact this
def zfb (A:List Ar) (k:Nat):Int:=((A[k]?).map λ a=>a.2.2).getD 0
theorem zhp {A:List Ar} (hl:f.length=A.length) (hf:∀ (k:Nat) a x,A[k]?=some a->f[k]?=some x->0<=x/\x<=a.2.2):Cap A.length (zfb A) (zs9 A f):=by
 have get:∀ k,k < A.length->∃ a x,A[k]?=some a/\f[k]?=some x:=λ k hk=>⟨A[k],f[k],u7 _,u7 _⟩
 refine ⟨zyd hl,λ s hs=>?_,λ k hk=>?_⟩
 ·obtain ⟨a,x,h1,h2⟩:=get (s / 2) (by lia);obtain ⟨e1,e2⟩:=zf9 h1 h2;have:=hf _ a x h1 h2;rcases Nat.mod_two_eq_zero_or_one s with z|z
  ·rw [show s=2 * (s / 2) by lia,e1];lia
  ·rw [show s=2 * (s / 2)+1 by lia,e2];lia
 ·obtain ⟨a,x,h1,h2⟩:=get k hk;obtain ⟨e1,e2⟩:=zf9 h1 h2;rw [e1,e2,zfb,h1];simp
theorem ztx (h:L.length=2 * m):zqm (L.map u4) (some 1) none (some 2)=(u3 m).map λ k=>.int (lf L (2 * k+1)):=by
 unfold zqm;rw [u5,h];have e1:sliceBounds (some 1) none (some 2) (2 * m)=(max 0 (min (1:Int) ((2 * m:Nat):Int)),((2 * m:Nat):Int),2):=by
  unfold sliceBounds;rfl
 rw [e1];show k9 _ (sliceRange (max 0 (min (1:Int) ((2 * m:Nat):Int))) ((2 * m:Nat):Int) 2)=_;have e2:sliceRange (max 0 (min (1:Int) ((2 * m:Nat):Int))) ((2 * m:Nat):Int) 2=(u3 m).map λ k=>2 * k+1:=by
  unfold sliceRange;cases m with
 |zero=>rfl
 |succ m =>
   have e3:max 0 (min (1:Int) ((2 * (m+1):Nat):Int))=1:=by lia
   rw [e3];have:(if (2:Int) > 0 then (if (1:Int) < ((2 * (m+1):Nat):Int) then (((2 * (m+1):Nat):Int) - 1+2 - 1) / 2 else 0) else (if (1:Int) > ((2 * (m+1):Nat):Int) then (1 - ((2 * (m+1):Nat):Int) - 2 - 1) / (-2) else 0))=((m+1:Nat):Int):=by
    rw [if_pos (by decide),if_pos (by lia)];lia
   simp only [this];rw [vR];refine wZ λ k hk=>?_;lia
 rw [e2,uaH];have:∀ l:List Nat,(∀ k∈l,k < m)->k9 ((λ x=>(L.map u4)[x]?) ∘ λ k=>2 * k+1) l=l.map λ k=>u4 (lf L (2 * k+1)):=by
  intro l
  induction l with
 |nil=>intro _;rfl
 |cons k r ih =>
   intro hk;have hk0:=hk k (by simp);have e:(L.map u4)[2 * k+1]?=some (.int (lf L (2 * k+1))):=by
    rw [u8];unfold lf;rw [vS,u7 (by lia)];rfl
   rw [xF];simp only [Function.comp];rw [e];simp only [vW];congr 1;exact ih λ x hx=>hk x (by simp [hx])
 exact this _ λ k hk=>u9.mp hk
theorem zy11 {v:Nat} {l:List Nat} (h:S[v]?=some l):l.length<=szT S:=by
 have:=zab [] h;simp at this;lia
theorem zn41 (i:Nat):CMul 2 (i:Int):=by
 unfold CMul;exact .inl (by decide)
theorem zll:∀ {A:List Ar} {f:List Int} {a:Ar} {x:Int},f.length=A.length->zs9 (A++[a]) (f++[x])=zs9 A f++[a.2.2 - x,x]:=by
 intro A f a x h;unfold zs9;rw [yL h.symm,zO];rfl
structure Best (n:Nat) (A:List Ar) (f:List Int) (src snk:Nat) (L:List Int) (side:List Nat):Prop where
 up:Up A.length (zfb A) (zi6 A) (zs9 A f) L src snk
 inn:src∈side
 out:snk ∉ side
 bd:∀ v∈side,v < n
 ris:side.Pairwise (· < ·)
 cl:∀ s,s < 2 * A.length->0 < lf L s->tl (zi6 A) s∈side->hd (zi6 A) s∈side
 rc:∃ lv,Lev n A.length (zi6 A) L src lv/\∀ v,v∈side ↔ (lkp lv v).isSome=true
theorem zcz {v:Nat}:(lkp lv v).isSome=true ↔ v∈lv.map (·.1):=by
 constructor
 ·intro h;obtain ⟨b,hb⟩:=xH.mp h;exact zM (f:=(·.1)) (zao hb)
 ·intro h;cases e:lkp lv v with
 |some b=>rfl
 |none=>exact absurd h (zjh e)
theorem zt31 {A:List Ar} {src snk:Nat} (up:Up A.length (zfb A) (zi6 A) (zs9 A f) L src snk) (hv:Lev n A.length (zi6 A) L src lv) (ht:(lkp lv snk).isSome=false)
  {ns:List Int} (hp:ns.Perm (lv.map λ p=>((p.1:Nat):Int))) (hs:ns.Pairwise (·<=·)):∃ side:List Nat,ns.map u4=side.map nI/\Best n A f src snk L side:=by
 have hmem:∀ x∈ns,∃ p∈lv,x=((p.1:Nat):Int):=λ x hx=>by
  obtain ⟨p,h1,h2⟩:=vQ.mp (hp.mem_iff.mp hx);exact ⟨p,h1,h2.symm⟩
 refine ⟨ns.map Int.toNat,?_,?_⟩
 ·rw [wL];refine wZ λ x hx=>?_;obtain ⟨p,_,rfl⟩:=hmem x hx;simp [nI]
 have iff:∀ v,v∈ns.map Int.toNat ↔ (lkp lv v).isSome=true:=λ v=>by
  rw [zcz];constructor
  ·intro h;obtain ⟨x,hx,rfl⟩:=vQ.mp h;obtain ⟨p,hp',rfl⟩:=hmem x hx;rw [vR];exact zM (f:=(·.1)) hp'
  ·intro h;obtain ⟨p,hp',rfl⟩:=vQ.mp h;refine vQ.mpr ⟨((p.1:Nat):Int),hp.mem_iff.mpr (vQ.mpr ⟨p,hp',rfl⟩),vR _⟩
 have nd:ns.Nodup:=by
  refine hp.nodup_iff.mpr ?_;have h1:=hv.nd;have:(lv.map λ p=>((p.1:Nat):Int))=(lv.map (·.1)).map λ x=>((x:Nat):Int):=by rw [wL];rfl
  rw [this];exact h1.map (λ x:Nat=>(x:Int)) (λ a b hne z=>hne (by exact_mod_cast z))
 refine ⟨up,(iff _).mpr (by rw [hv.l0];rfl),(λ z=>by rw [(iff _).mp z] at ht;cases ht),λ v hvm=>?_,?_,λ s h1 h2 h3=>(iff _).mpr (hv.cl s h1 h2 ((iff _).mp h3)),lv,hv,iff⟩
 ·obtain ⟨b,hb⟩:=xH.mp ((iff v).mp hvm);exact hv.bd _ (zao hb)
 ·have key:∀ (l:List Int),l.Pairwise (·<=·)->l.Nodup->(∀ x∈l,0<=x)->(l.map Int.toNat).Pairwise (· < ·):=by
   intro l
   induction l with
  |nil=>intros;exact .nil
  |cons x r ih =>
    intro h1 h2 h3;obtain ⟨a1,a2⟩:=j6.mp h1;obtain ⟨b1,b2⟩:=vX.mp h2;refine j6.mpr ⟨λ y hy=>?_,ih a2 b2 λ z hz=>h3 z (by simp [hz])⟩;obtain ⟨z,hz,rfl⟩:=vQ.mp hy;have c1:=a1 z hz;have c2:x≠z:=λ e=>b1 (e ▸ hz);have c3:=h3 x (by simp);lia
  exact key ns hs nd λ x hx=>by obtain ⟨p,_,rfl⟩:=hmem x hx;lia
def sm (m:Nat) (g:Nat->Int):Int:=((u3 m).map g).sum
theorem zea (m:Nat) (g:Nat->Int):sm (m+1) g=sm m g+g m:=by
 unfold sm;rw [w9,vY,yK];simp
theorem zi5 {g h:Nat->Int} (e:∀ k,k < m->g k=h k):sm m g=sm m h:=by
 unfold sm;rw [wZ λ k hk=>e k (u9.mp hk)]
theorem zb11 (g h:Nat->Int):∀ m,sm m (λ k=>g k+h k)=sm m g+sm m h
|0=>rfl
|m+1=>by rw [zea,zea,zea,zb11 g h m];lia
theorem zic:∀ m,sm m (λ _=>0)=0
|0=>rfl
|m+1=>by rw [zea,zic m];rfl
theorem zvc1 {g h:Nat->Int}:∀ {m:Nat},(∀ k,k < m->g k<=h k)->sm m g<=sm m h
|0,_=>wQ _
|m+1,e=>by
  rw [zea,zea];have:=zvc1 (m:=m) λ k hk=>e k (by lia);have:=e m (by lia);lia
theorem zf11 {j:Nat} (d:Int):∀ {m:Nat},j < m->sm m (λ k=>if k=j then d else 0)=d
|0,h=>by lia
|m+1,h=>by
  rw [zea];by_cases z:m=j
  ·subst z;rw [if_pos rfl,zi5 (h:=λ _=>0) λ k hk=>if_neg (by lia),zic];lia
  ·rw [zf11 d (m:=m) (by lia),if_neg z];lia
def trm (u v:Nat) (x:Int) (w:Nat):Int:=(if v=w then x else 0) - (if u=w then x else 0)
def bl (m:Nat) (eu ev:Nat->Nat) (x:Nat->Int) (w:Nat):Int:=sm m λ k=>trm (eu k) (ev k) (x k) w
def flux (m:Nat) (eu ev:Nat->Nat) (x:Nat->Int) (side:List Nat):Int:=sm m λ k=>(if ev k∈side then x k else 0) - (if eu k∈side then x k else 0)
theorem zsd (m:Nat) (eu ev:Nat->Nat) (x:Nat->Int):∀ {side:List Nat},side.Nodup->flux m eu ev x side=(side.map (bl m eu ev x)).sum
|[],_=>by
  unfold flux;rw [zi5 (h:=λ _=>0) λ k _=>by simp,zic];rfl
|w :: r,h=>by
  obtain ⟨h1,h2⟩:=vX.mp h;rw [vW,zP,<- zsd m eu ev x h2];unfold bl flux;rw [<- zb11];refine zi5 λ k _=>?_;unfold trm;have a:∀ z:Nat,(if z∈w :: r then x k else 0)=(if z=w then x k else 0)+(if z∈r then x k else 0):=λ z=>by
   by_cases e:z=w
   ·subst e;simp [h1]
   ·simp [e]
  rw [a,a];lia
theorem zgm {g:Nat->Int} {s:Nat}:∀ {side:List Nat},side.Nodup->s∈side->(∀ w∈side,w≠s->g w=0)->(side.map g).sum=g s
|[],_,h,_=>by simp at h
|w :: r,nd,h,z=>by
  obtain ⟨h1,h2⟩:=vX.mp nd;rw [vW,zP];by_cases e:w=s
  ·subst e;have:∀ l:List Nat,(∀ y∈l,g y=0)->(l.map g).sum=0:=by
    intro l
    induction l with
   |nil=>intro _;rfl
   |cons y t ih=>intro k;rw [vW,zP,k y (by simp),ih λ u hu=>k u (by simp [hu])];rfl
   rw [this r λ y hy=>z y (by simp [hy]) λ q=>h1 (q ▸ hy)];lia
  ·have hs:s∈r:=by
    rcases vL.mp h with q|q
    ·exact absurd q.symm e
    ·exact q
   rw [zgm h2 hs λ y hy=>z y (by simp [hy]),z w (by simp) e];lia
noncomputable def tight (m:Nat) (eu ev:Nat->Nat) (cap x:Nat->Int) (side:List Nat):Prop:=∀ k,k < m->(eu k∈side->ev k ∉ side->x k=cap k)/\(ev k∈side->eu k ∉ side->x k=0)
def within (m:Nat) (cap x:Nat->Int):Prop:=∀ k,k < m->0<=x k/\x k<=cap k
theorem zir {eu ev:Nat->Nat} {cap x y:Nat->Int} {side:List Nat} (hx:tight m eu ev cap x side) (hy:within m cap y):flux m eu ev x side<=flux m eu ev y side:=by
 refine zvc1 λ k hk=>?_;obtain ⟨a,b⟩:=hx k hk;obtain ⟨c,d⟩:=hy k hk;by_cases h1:ev k∈side
 ·by_cases h2:eu k∈side
  ·simp only [if_pos h1,if_pos h2];lia
  ·simp only [if_pos h1,if_neg h2,b h1 h2];lia
 ·by_cases h2:eu k∈side
  ·simp only [if_neg h1,if_pos h2,a h2 h1];lia
  ·simp only [if_neg h1,if_neg h2];lia
def aU (A:List Ar) (k:Nat):Nat:=((A[k]?).map λ a=>a.1).getD 0
def aV (A:List Ar) (k:Nat):Nat:=((A[k]?).map λ a=>a.2.1).getD 0
theorem ziv {A:List Ar} (w:Nat):bal A.length (zi6 A) L w=bl A.length (aU A) (aV A) (λ k=>lf L (2 * k+1)) w:=by
 show sm _ _=sm _ _;refine zi5 λ k hk=>?_;have ga:A[k]?=some A[k]:=u7 hk;obtain ⟨e1,e2⟩:=zpd ga;unfold term trm aU aV;rw [e1,e2,ga];rfl
theorem znd {l:List Nat} (h:l.Pairwise (· < ·)):l.Nodup:=h.imp λ h=>by lia
theorem Best.tight {n:Nat} {A:List Ar} {f L:List Int} {src snk:Nat} {side:List Nat} (b:Best n A f src snk L side):tight A.length (aU A) (aV A) (zfb A) (λ k=>lf L (2 * k+1)) side:=λ k hk=>by
 have ga:A[k]?=some A[k]:=u7 hk;obtain ⟨e1,e2⟩:=zpd ga;have s1:=b.up.cap.sm k hk;have n1:=b.up.cap.nn (2 * k) (by lia);have n2:=b.up.cap.nn (2 * k+1) (by lia);have x1:xr (2 * k)=2 * k+1:=by unfold xr;rw [if_pos (by lia)]
 have x2:xr (2 * k+1)=2 * k:=by unfold xr;rw [if_neg (by lia)];lia
 have u1:aU A k=A[k].1:=by unfold aU;rw [ga];rfl
 have v1:aV A k=A[k].2.1:=by unfold aV;rw [ga];rfl
 rw [u1,v1];refine ⟨λ h1 h2=>?_,λ h1 h2=>?_⟩
 ·by_cases z:0 < lf L (2 * k)
  ·have:=b.cl (2 * k) (by lia) z (by unfold tl;rw [x1,e2];exact h1);rw [e1] at this;exact absurd this h2
  ·show lf L (2 * k+1)=_;lia
 ·by_cases z:0 < lf L (2 * k+1)
  ·have:=b.cl (2 * k+1) (by lia) z (by unfold tl;rw [x2,e1];exact h1);rw [e2] at this;exact absurd this h2
  ·show lf L (2 * k+1)=_;lia
theorem Best.within {n:Nat} {A:List Ar} {f L:List Int} {src snk:Nat} {side:List Nat} (b:Best n A f src snk L side):within A.length (zfb A) (λ k=>lf L (2 * k+1)):=λ k hk=>by
 have s1:=b.up.cap.sm k hk;have n1:=b.up.cap.nn (2 * k) (by lia);have n2:=b.up.cap.nn (2 * k+1) (by lia);show 0<=lf L (2 * k+1)/\lf L (2 * k+1)<=_;lia
abbrev Pr:=Nat×Nat
def pU (P:List Pr) (k:Nat):Nat:=((P[k]?).map λ a=>a.1).getD 0
def pV (P:List Pr) (k:Nat):Nat:=((P[k]?).map λ a=>a.2).getD 0
def fx (f:List Int) (k:Nat):Int:=(f[k]?).getD 0
def nb (P:List Pr) (f:List Int) (w:Nat):Int:=bl P.length (pU P) (pV P) (fx f) w
theorem zax (u v w:Nat):trm u v 0 w=0:=by unfold trm;simp
theorem zcr {A:List Ar} (h:f.length=A.length):A.zip f=(u3 A.length).map λ k=>((aU A k,aV A k,zfb A k),fx f k):=by
 refine y4 (by rw [List.length_zip,u5,vV];lia) λ j h1 h2=>?_;rw [List.length_zip] at h1;have ja:j < A.length:=by lia
 have jf:j < f.length:=by lia
 rw [List.getElem_zip,y6,xK];unfold aU aV zfb fx;rw [u7 ja,u7 jf];rfl
theorem zit {A:List Ar} (v:Nat):bal A.length (zi6 A) (zs9 A (vP A.length 0)) v=0:=by
 rw [ziv];unfold bl;rw [zi5 (h:=λ _=>0) λ k hk=>?_,zic];have e:=(zf9 (A:=A) (f:=vP A.length 0) (k:=k) (a:=A[k]) (x:=0) (u7 hk) (by rw [xI,if_pos hk])).2;show trm _ _ (lf (zs9 A (vP A.length 0)) (2 * k+1)) v=0;rw [e,zax]
theorem Best.bal {n:Nat} {A:List Ar} {f L:List Int} {src snk:Nat} {side:List Nat} (b:Best n A f src snk L side) (hf:f.length=A.length) (h:∀ w,w≠src->w≠snk->_5.bl A.length (aU A) (aV A) (fx f) w=0):∀ v,v≠src->v≠snk->_5.bal A.length (zi6 A) L v=0:=λ v h1 h2=>by
 rw [b.up.eqb v h1 h2,ziv];rw [show _5.bl A.length (aU A) (aV A) (λ k=>lf (zs9 A f) (2 * k+1)) v=_5.bl A.length (aU A) (aV A) (fx f) v from zi5 λ k hk=>?_]
 ·exact h v h1 h2
 ·have ga:A[k]?=some A[k]:=u7 hk;have gf:f[k]?=some f[k]:=u7 (by lia);have e:=(zf9 ga gf).2;show trm _ _ (lf (zs9 A f) (2 * k+1)) v=_;rw [e];unfold fx;rw [gf];rfl
theorem zh31 {A:List Ar} (hf:f.length=A.length) {k:Nat} (hk:k < A.length):lf (zs9 A f) (2 * k+1)=fx f k:=by
 have ga:A[k]?=some A[k]:=u7 hk;have gf:f[k]?=some f[k]:=u7 (by lia);rw [(zf9 ga gf).2];unfold fx;rw [gf];rfl
open PySem.W
structure Lts (lt:Nat->Nat->Bool):Prop where
 asym:∀ {i j},lt i j=true->lt j i=false
 tr:∀ {i j k},lt j i=false->lt k j=false->lt k i=false
theorem Lts.irr {lt:Nat->Nat->Bool} (o:Lts lt) (i:Nat):lt i i=false:=by
 cases h:lt i i with
|false=>rfl
|true=>rw [o.asym h] at h;cases h
noncomputable def Ans (n:Nat) (lt:Nat->Nat->Bool) (cmp:Nat->Nat->(Bool->Shared->Prop)->Shared->Prop) (s:Shared):Prop:=∀ i j,i < n->j < n->∀ C:Bool->Shared->Prop,C (lt i j) s->cmp i j C s
def Whole (n:Nat) (p:Array Nat):Prop:=p.toList.Perm (u3 n)
def Rise (lt:Nat->Nat->Bool) (p:Array Nat) (m:Nat):Prop:=∀ i j,i<=j->j < m->lt (p.getD j 0) (p.getD i 0)=false
def Sink (lt:Nat->Nat->Bool) (p:Array Nat) (m:Nat):Prop:=∀ i j,i<=j->j < m->lt (p.getD i 0) (p.getD j 0)=false
noncomputable def zd51 (lt:Nat->Nat->Bool) (p:Array Nat) (m q:Nat):Prop:=∀ i,m<=i+q+1->i < m->lt (p.getD i 0) (p.getD (m - 1) 0)=false/\lt (p.getD (m - 1) 0) (p.getD i 0)=false
section
variable {n:Nat} {lt:Nat->Nat->Bool} {cmp:Nat->Nat->(Bool->Shared->Prop)->Shared->Prop} {s:Shared} {p:Array Nat}
theorem Whole.size (h:Whole n p):p.size=n:=by have:=h.length_eq;simpa using this
theorem Whole.bnd (h:Whole n p) (hn:0 < n) (k:Nat):p.getD k 0 < n:=by
 by_cases hk:k < p.size
 ·have:p[k]∈p.toList:=by simp
  have:=h.mem_iff.mp this;simp only [Array.getD,hk,dite_true];exact u9.mp this
 ·simp only [Array.getD,hk,dite_false];exact hn
theorem Whole.rev (h:Whole n p) (i j:Nat):Whole n (kas_rev p i j):=(uaR.mp (mirror_perm p i j _)).trans h
theorem Whole.bub (h:Whole n p) (i j:Nat):Whole n (bubble p i j):=(uaR.mp (bubble_perm p i j)).trans h
theorem zwh (p:Array Nat) (k:Nat):p.getD k 0=(p[k]?).getD 0:=by simp
theorem zvg (hj:j<=p.size) (k:Nat):(kas_rev p i j).getD k 0=if i<=k/\k < j then p.getD (i+j - 1 - k) 0 else p.getD k 0:=by
 rw [zwh,zwh,zwh,kas_rev,getElem?_mirror_all hj];split <;> simp_all
theorem zk11 (hs:src < p.size) (hd:d<=src) (k:Nat):(bubble p src d).getD k 0=if k=src - d then p.getD src 0 else if src - d < k/\k<=src then p.getD (k - 1) 0 else p.getD k 0:=by
 rw [zwh,zwh,zwh,zwh,getElem?_bubble hs d hd];split
 ·rfl
 ·split <;> rfl
theorem Rise.more (o:Lts lt) (h:Rise lt p m) (h1:1<=m) (c:lt (p.getD m 0) (p.getD (m - 1) 0)=false):Rise lt p (m+1):=by
 intro i j hij hj;by_cases e:j=m
 ·subst e;by_cases e2:i=j
  ·subst e2;exact o.irr _
  ·exact o.tr (h i (j - 1) (by lia) (by lia)) c
 ·exact h i j hij (by lia)
theorem Sink.more (o:Lts lt) (h:Sink lt p m) (h1:1<=m) (c:lt (p.getD (m - 1) 0) (p.getD m 0)=false):Sink lt p (m+1):=by
 intro i j hij hj;by_cases e:j=m
 ·subst e;by_cases e2:i=j
  ·subst e2;exact o.irr _
  ·exact o.tr c (h i (j - 1) (by lia) (by lia))
 ·exact h i j hij (by lia)
theorem kw_t {α:Type} {T₁ T₂:KasT α} {Q:α->Shared->Prop} (h:T₁.kasWp cmp Q s):(if true=true then T₁ else T₂).kasWp cmp Q s:=by rw [if_pos rfl];exact h
theorem kw_f {α:Type} {T₁ T₂:KasT α} {Q:α->Shared->Prop} (h:T₂.kasWp cmp Q s):(if false=true then T₁ else T₂).kasWp cmp Q s:=by rw [if_neg (by simp)];exact h
theorem zgv (a:Ans n lt cmp s) (o:Lts lt) (hn:0 < n) (w:Whole n p) {Q:Nat->Shared->Prop}:∀ (f m:Nat),1<=m->Rise lt p m ->
  (∀ m',m<=m'->m'<=m+f->Rise lt p m'->(m'=m+f \/ lt (p.getD m' 0) (p.getD (m' - 1) 0)=true)->Q m' s)->(kas_asc p f m).kasWp cmp Q s
|0,m,h1,r,q=>q m (u6 _) (u6 _) r (.inl rfl)
|f+1,m,h1,r,q=>by
  refine a _ _ (w.bnd hn _) (w.bnd hn _) _ ?_;cases c:lt (p.getD m 0) (p.getD (m - 1) 0) with
 |true=>refine kw_t ?_;exact q m (u6 _) (by lia) r (.inr c)
 |false =>
   refine kw_f ?_;exact zgv a o hn w f (m+1) (by lia) (r.more o h1 c) λ m' h2 h3 h4 h5=>q m' (by lia) (by lia) h4 (by rcases h5 with h5|h5;exact .inl (by lia);exact .inr h5)
theorem zqj (o:Lts lt) (w:Whole n p) (hm:m<=n) (hq:q < m) (e:zd51 lt p m q) (k:Nat):lt ((kas_rev p (m - (q+1)) m).getD k 0) (p.getD k 0)=false/\lt (p.getD k 0) ((kas_rev p (m - (q+1)) m).getD k 0)=false:=by
 rw [zvg (by rw [w.size];exact hm)];split
 ·rename_i hk
  have e1:=e k (by lia) hk.2;have e2:=e (m - (q+1)+m - 1 - k) (by lia) (by lia);exact ⟨o.tr e1.2 e2.1,o.tr e2.2 e1.1⟩
 ·exact ⟨o.irr _,o.irr _⟩
theorem Sink.alike (o:Lts lt) {p':Array Nat} (h:Sink lt p m) (e:∀ k,lt (p'.getD k 0) (p.getD k 0)=false/\lt (p.getD k 0) (p'.getD k 0)=false):Sink lt p' m:=λ i j hij hj =>
 o.tr (o.tr (e j).2 (h i j hij hj)) (e i).1
theorem zjj (a:Ans n lt cmp s) (o:Lts lt) (hn:0 < n) {Q:Array Nat×Nat×Nat->Shared->Prop}:∀ (f:Nat) (p:Array Nat) (m q:Nat),Whole n p->1<=m->m+f<=n->q < m->Sink lt p m->zd51 lt p m q ->
  (∀ p' m' q',Whole n p'->m<=m'->m'<=m+f->q' < m'->Sink lt p' m'->zd51 lt p' m' q'->Q (p',m',q') s)->(kas_desc f p m q).kasWp cmp Q s
|0,p,m,q,w,h1,hf,hq,d,e,k=>k p m q w (u6 _) (u6 _) hq d e
|f+1,p,m,q,w,h1,hf,hq,d,e,k=>by
  refine a _ _ (w.bnd hn _) (w.bnd hn _) _ ?_;cases c:lt (p.getD m 0) (p.getD (m - 1) 0) with
 |true =>
   refine kw_t ?_;have al:∀ p',zd51 lt p' (m+1) 0:=λ p' i h2 h3=>by
    have:i=m:=by lia
    subst this;exact ⟨o.irr _,o.irr _⟩
   by_cases hq0:q > 0
   ·rw [if_pos hq0];have ek:=zqj o w (by lia) hq e;refine zjj a o hn f _ (m+1) 0 (w.rev _ _) (by lia) (by lia) (by lia) ?_ (al _) λ p' m' q' a1 a2 a3 a4 a5 a6=>k p' m' q' a1 (by lia) (by lia) a4 a5 a6;exact (d.more o h1 (o.asym c)).alike o ek
   ·rw [if_neg hq0];exact zjj a o hn f _ (m+1) 0 w (by lia) (by lia) (by lia) (d.more o h1 (o.asym c)) (al _) λ p' m' q' a1 a2 a3 a4 a5 a6=>k p' m' q' a1 (by lia) (by lia) a4 a5 a6
 |false =>
   refine kw_f ?_;refine a _ _ (w.bnd hn _) (w.bnd hn _) _ ?_;cases c2:lt (p.getD (m - 1) 0) (p.getD m 0) with
  |true=>refine kw_t ?_;exact k p m q w (u6 _) (by lia) hq d e
  |false =>
    refine kw_f ?_;refine zjj a o hn f p (m+1) (q+1) w (by lia) (by lia) (by lia) (d.more o h1 c2) (λ i h2 h3=>?_) λ p' m' q' a1 a2 a3 a4 a5 a6=>k p' m' q' a1 (by lia) (by lia) a4 a5 a6;rw [show m+1 - 1=m by lia];by_cases e2:i=m
    ·subst e2;exact ⟨o.irr _,o.irr _⟩
    ·have e1:=e i (by lia) (by lia);exact ⟨o.tr c2 e1.1,o.tr e1.2 c⟩
theorem zyh (w:Whole n p) (hm:m<=n) (h:Sink lt p m):Rise lt (kas_rev p 0 m) m:=by
 intro i j hij hj;rw [zvg (by rw [w.size];exact hm),zvg (by rw [w.size];exact hm),if_pos ⟨wE _,by lia⟩,if_pos ⟨wE _,by lia⟩];exact h _ _ (by lia) (by lia)
theorem zvm (a:Ans n lt cmp s) (o:Lts lt) (hn:0 < n) (w:Whole n p) (h1:1<=m) (hm:m<=n) (d:Sink lt p m) {Q:Nat×Array Nat->Shared->Prop}
  (k:∀ p' m',Whole n p'->1<=m'->m'<=n->Rise lt p' m'->Q (m',p') s):(kas_tail3 m n p).kasWp cmp Q s:=by
 unfold kas_tail3;rw [KasT.kasWp_bind];exact zgv a o hn (w.rev _ _) _ m h1 (zyh w hm d) λ m' h2 h3 h4 _=>k _ m' (w.rev _ _) (by lia) (by lia) h4
theorem zuc (a:Ans n lt cmp s) (o:Lts lt) (hn:0 < n) (w:Whole n p) (h1:1<=m) (hm:m+1<=n) (d:Sink lt p (m+1)) {Q:Nat×Array Nat->Shared->Prop}
  (k:∀ p' m',Whole n p'->1<=m'->m'<=n->Rise lt p' m'->Q (m',p') s):(kas_descPart m n p).kasWp cmp Q s:=by
 unfold kas_descPart;rw [KasT.kasWp_bind];refine zjj a o hn _ p (m+1) 0 w (by lia) (by lia) (by lia) d (λ i h2 h3=>?_) λ p' m' q' a1 a2 a3 a4 a5 a6=>?_
 ·have:i=m:=by lia
  subst this;exact ⟨o.irr _,o.irr _⟩
 ·show (if q' > 0 then kas_tail3 m' n (kas_rev p' (m' - (q'+1)) m') else kas_tail3 m' n p').kasWp cmp Q s;split
  ·exact zvm a o hn (a1.rev _ _) (by lia) (by lia) (a5.alike o (zqj o a1 (by lia) a4 a6)) k
  ·exact zvm a o hn a1 (by lia) (by lia) a5 k
theorem zfx (a:Ans n lt cmp s) (o:Lts lt) (hn:0 < n) (w:Whole n p) {Q:Nat×Array Nat->Shared->Prop}
  (k:∀ p' m',Whole n p'->1<=m'->m'<=n->Rise lt p' m'->Q (m',p') s):(kas_count n p).kasWp cmp Q s:=by
 unfold kas_count;rw [KasT.kasWp_bind];refine zgv a o hn w _ 1 (u6 _) (λ i j h1 h2=>?_) λ m h2 h3 h4 h5=>?_
 ·have:i=j:=by lia
  subst this;exact o.irr _
 ·by_cases e:m=n
  ·rw [if_pos (by simp [e])];exact k p m w h2 (by lia) h4
  ·rw [if_neg (by simp [e])];have c:lt (p.getD m 0) (p.getD (m - 1) 0)=true:=by rcases h5 with h5|h5;lia;exact h5
   by_cases e1:m > 1
   ·rw [if_pos e1];refine a _ _ (w.bnd hn _) (w.bnd hn _) _ ?_;cases c2:lt (p.getD 0 0) (p.getD (m - 1) 0) with
   |true=>refine kw_t ?_;exact k p m w h2 (by lia) h4
   |false =>
     refine kw_f ?_;have al:∀ i j,i < m->j < m->lt (p.getD i 0) (p.getD j 0)=false:=λ i j hi hj =>
      o.tr (h4 j (m - 1) (by lia) (by lia)) (o.tr c2 (h4 0 i (by lia) hi))
     have sk:Sink lt (kas_rev p 0 m) m:=λ i j hij hj=>by
      rw [zvg (by rw [w.size];lia),zvg (by rw [w.size];lia),if_pos ⟨wE _,by lia⟩,if_pos ⟨wE _,by lia⟩];exact al _ _ (by lia) (by lia)
     refine zuc a o hn (w.rev _ _) h2 (by lia) (sk.more o h2 ?_) k;rw [zvg (by rw [w.size];lia),zvg (by rw [w.size];lia),if_pos ⟨wE _,by lia⟩,if_neg (by lia)];exact o.tr (o.asym c) (al _ _ (by lia) (by lia))
   ·rw [if_neg e1];have:m=1:=by lia
    subst this;refine zuc a o hn w (u6 _) (by lia) (Sink.more o (λ i j h1 h2=>?_) (u6 _) (o.asym c)) k;have:i=j:=by lia
    subst this;exact o.irr _
theorem zeh (a:Ans n lt cmp s) (o:Lts lt) (hn:0 < n) (w:Whole n p) {j:Nat} (r:Rise lt p j) {Q:Nat->Shared->Prop}:∀ (f l u:Nat),l<=u->u<=j->u - l<=f ->
  (∀ i,i < l->lt (p.getD j 0) (p.getD i 0)=false)->(∀ i,u<=i->i < j->lt (p.getD j 0) (p.getD i 0)=true) ->
  (∀ l',l'<=j->(∀ i,i < l'->lt (p.getD j 0) (p.getD i 0)=false)->(∀ i,l'<=i->i < j->lt (p.getD j 0) (p.getD i 0)=true)->Q l' s)->(kas_place p j f l u).kasWp cmp Q s
|0,l,u,h1,h2,h3,a1,a2,q=>q l (by lia) a1 λ i hi=>a2 i (by lia)
|f+1,l,u,h1,h2,h3,a1,a2,q=>by
  unfold kas_place;by_cases e:l ≥ u
  ·rw [if_pos e];exact q l (by lia) a1 λ i hi=>a2 i (by lia)
  ·rw [if_neg e];refine a _ _ (w.bnd hn _) (w.bnd hn _) _ ?_;cases c:lt (p.getD j 0) (p.getD ((l+u) / 2) 0) with
  |true =>
    refine kw_t (zeh a o hn w r f l ((l+u) / 2) (by lia) (by lia) (by lia) a1 (λ i hi hj=>?_) q);cases c3:lt (p.getD j 0) (p.getD i 0) with
   |true=>rfl
   |false=>rw [o.tr (r ((l+u) / 2) i hi hj) c3] at c;cases c
  |false =>
    refine kw_f (zeh a o hn w r f ((l+u) / 2+1) u (by lia) h2 (by lia) (λ i hi=>?_) a2 q);exact o.tr (r i ((l+u) / 2) (by lia) (by lia)) c
theorem zez (a : Ans n lt cmp s) (o : Lts lt) (hn : 0 < n) {Q : Array Nat → Shared → Prop} : ∀ (f : Nat) (p : Array Nat) (j : Nat), Whole n p → j + f = n → Rise lt p j → (∀ p', Whole n p' → Rise lt p' n → Q p' s) → (kas_bin f p j).kasWp cmp Q s
  | 0, p, j, w, h, r, q => q p w (by have : j = n := by lia
                                     rw [← this]; exact r)
  | f + 1, p, j, w, h, r, q => by
    unfold kas_bin;rw [KasT.kasWp_bind];refine zeh a o hn w r j 0 j (wE _) (u6 _) (by lia) (fun i hi => absurd hi (by lia)) (fun i h1 h2 => absurd h1 (by lia)) fun l hl b1 b2 => ?_;refine zez a o hn f _ (j + 1) (w.bub _ _) (by lia) (fun i k hik hk => ?_) q;have hs : j < p.size := by rw [w.size]; lia
    rw [zk11 hs (by lia), zk11 hs (by lia)];have e : j - (j - l) = l := by lia
    rw [e];by_cases k1 : k = l
    · rw [if_pos k1];by_cases i1 : i = l
      · rw [if_pos i1]; exact o.irr _
      · rw [if_neg i1, if_neg (by lia)]; exact b1 i (by lia)
    · rw [if_neg k1];by_cases k2 : l < k ∧ k ≤ j
      · rw [if_pos k2];by_cases i1 : i = l
        · rw [if_pos i1]; exact o.asym (b2 (k - 1) (by lia) (by lia))
        · rw [if_neg i1];by_cases i2 : l < i ∧ i ≤ j
          · rw [if_pos i2]; exact r _ _ (by lia) (by lia)
          · rw [if_neg i2]; exact r _ _ (by lia) (by lia)
      · rw [if_neg k2, if_neg (by lia), if_neg (by lia)]; exact r _ _ (by lia) (by lia)
theorem zb41 (a:Ans n lt cmp s) (o:Lts lt) (hn:0 < n) {Q:Array Nat->Shared->Prop} (q:∀ p,Whole n p->Rise lt p n->Q p s):(kas_sort n).kasWp cmp Q s:=by
 unfold kas_sort;rw [KasT.kasWp_bind];refine zfx a o hn (by unfold Whole;exact List.Perm.refl _) λ p m w h1 h2 r=>?_;show (if m < n then kas_bin (n - max m 1) p (max m 1) else .ret p).kasWp cmp Q s;split
 ·exact zez a o hn _ p _ w (by lia) (by rw [Nat.max_eq_left h1];exact r) q
 ·have:m=n:=by lia
  subst this;exact q p w r
end
end _5
namespace _3
open PySem PySem.W PySem.Spec PyProof.Rows _2 _5
variable {rows:List (List Int)} {vs:List Value}
def lexB:List Int->List Int->Bool
|[],[]=>false
|[],_ :: _=>true
|_ :: _,[]=>false
|a :: r,b :: t=>if a=b then lexB r t else decide (a < b)
theorem zwc (a b:Int) (r t:List Int):lexB (a :: r) (b :: t)=if a=b then lexB r t else decide (a < b):=by rw [lexB]
theorem zgj:∀ {x y:List Int},lexB x y=true->lexB y x=false
|[],[],h=>by simp [lexB] at h
|[],_ :: _,h=>by simp [lexB]
|_ :: _,[],h=>by simp [lexB] at h
|a :: r,b :: t,h=>by
  rw [zwc] at h ⊢;by_cases e:a=b
  ·subst e;rw [if_pos rfl] at h ⊢;exact zgj h
  ·rw [if_neg e] at h;rw [if_neg (Ne.symm e)];simp at h ⊢;lia
theorem zos:∀ {x y z:List Int},lexB y x=false->lexB z y=false->lexB z x=false
|[],[],z,_,h=>h
|[],_ :: _,[],_,_=>by simp [lexB]
|[],_ :: _,_ :: _,_,_=>by simp [lexB]
|_ :: _,[],_,h,_=>by simp [lexB] at h
|_ :: _,_ :: _,[],_,h=>by simp [lexB] at h
|a :: r,b :: t,c :: u,h,k=>by
  rw [zwc] at h k ⊢;by_cases e:b=a
  ·subst e;rw [if_pos rfl] at h;by_cases e2:c=b
   ·subst e2;rw [if_pos rfl] at k ⊢;exact zos h k
   ·rw [if_neg e2] at k ⊢;exact k
  ·rw [if_neg e] at h;by_cases e2:c=b
   ·subst e2;rw [if_neg e];exact h
   ·rw [if_neg e2] at k;simp at h k;rw [if_neg (by lia)];simp;lia
theorem zg01 (rows:List (List Int)):Lts λ i j=>lexB (rows.getD i []) (rows.getD j []):=⟨zgj,zos⟩
section
variable {s:Shared} {w:World} {prog:Program} {E:Value->Shared->Prop} {A:Around}
theorem zi21 {Q:Bool->Shared->Prop} {fin:Bool}:∀ (xs ys:List Int) (vs ws:List Value) (i:Nat),IntsAre vs xs->IntsAre ws ys->fin=decide (xs.length < ys.length)->Q (lexB xs ys) s->KatLex prog w A true fin Q (vs.zip ws) i s
|[],[],_,_,i,.nil,.nil,e,q=>by subst e;exact q
|[],_ :: _,_,_,i,.nil,.cons _ _ _,e,q=>by
  have:fin=true:=by rw [e];simp
  subst this;exact kat_nil q
|_ :: _,[],_,_,i,.cons _ _ _,.nil,e,q=>by
  have:fin=false:=by rw [e];simp
  subst this;exact kat_nil q
|a :: r,b :: t,_,_,i,.cons _ u h,.cons _ u2 k,e,q=>by
  rw [zQ];rw [zwc] at q;refine kat_cons (wpAny_eqBool_int (kat_go (λ e1=>kat_yes ?_) λ e1=>kat_no ?_))
  ·have:a=b:=by simpa using e1
   subst this;rw [if_pos rfl] at q;exact zi21 r t _ _ (i+1) h k (by rw [e];simp) q
  ·have:a≠b:=by simpa using e1
   rw [if_neg this] at q;cases (true && i == 0) with
  |true=>exact oneLt_int q
  |false=>exact kat_one _ _ (PyProof.Rows.lt_int q)
inductive TupRows (h:Heap):List Value->List (List Int)->Prop
|nil:TupRows h [] []
|cons {v:Value} {r:List Int} {vs:List Value} {rows:List (List Int)}:(∃ b o its k,v=.ref b/\h.get? b=some o/\o.cls=.type "tuple"/\o.data=.seq its k/\IntsAre its.toList r/\r≠[])->TupRows h vs rows->TupRows h (v :: vs) (r :: rows)
theorem TupRows.mono {h h':Heap} (t:TupRows h vs rows) (k:∀ b o,h.get? b=some o->o.cls=.type "tuple"->h'.get? b=some o):TupRows h' vs rows:=by
 induction t with
|nil=>exact .nil
|cons a t ih =>
  obtain ⟨b,o,its,n,e1,e2,e3,e4,e5,e6⟩:=a;exact .cons ⟨b,o,its,n,e1,k b o e2 e3,e3,e4,e5,e6⟩ ih
theorem TupRows.at {h:Heap}:∀ {vs:List Value} {rows:List (List Int)},TupRows h vs rows->∀ {i:Nat},i < vs.length->∃ b o its k,vs.getD i .none=.ref b/\h.get? b=some o/\o.cls=.type "tuple"/\o.data=.seq its k/\IntsAre its.toList (rows.getD i [])/\rows.getD i []≠[]
|_,_,.nil,i,hi=>by simp at hi
|_,_,.cons a t,0,_=>a
|_,_,.cons a t,i+1,hi=>by simpa using TupRows.at t (i:=i) (by simpa using hi)
theorem TupRows.firsts {h:Heap}:∀ {vs:List Value} {rows:List (List Int)},TupRows h vs rows->∃ fs:List Value,KatTups h vs fs/\fs.length=vs.length/\∀ v∈fs,∃ n t,v=yF n t
|_,_,.nil=>⟨[],.nil,rfl,by simp⟩
|_,_,.cons ⟨b,o,its,n,e1,e2,e3,e4,e5,e6⟩ t=>by
  obtain ⟨fs,k1,k2,k3⟩:=TupRows.firsts t;subst e1;obtain ⟨l,hl⟩:∃ l,its.toList=l:=⟨_,rfl⟩
  rw [hl] at e5;cases e5 with
 |nil=>exact absurd rfl e6
 |cons x u r =>
   refine ⟨.int x u :: fs,KatTups.cons e2 e3 e4 ?_ k1,by simp [k2],?_⟩
   ·rw [<- yA,hl];rfl
   ·intro v hv;rcases vL.mp hv with rfl|hv
    ·exact ⟨_,_,rfl⟩
    ·exact k3 v hv
theorem zcp {a:Addr} {n:Nat} {P:Fin->Shared->Prop} (go:s.heap.get? a=some (seqObj "list" vs.toArray n)) (t:TupRows s.heap vs rows) (h2:2<=vs.length) (h64:vs.length < 64)
  (h:∀ p:Array Nat,Whole vs.length p->Rise (λ i j=>lexB (rows.getD i []) (rows.getD j [])) p vs.length->P (.done (.ret .none)) { s with heap:=sortedHeap s.heap a vs (List.toArray (p.toList.map λ i=>vs.getD i .none)) }) :
  wpAny (model prog w) A (Builtin.«list.sort» ⟨[.ref a],[]⟩) P E s:=by
 have al:a < s.heap.objs.size:=vO go;obtain ⟨e1,g1⟩:∃ e1,(s.heap.update a (Obj.mapSeq λ _=>#[])).get? a=some (seqObj "list" #[] e1):=⟨_,get?_update_seq go λ _=>#[]⟩
 rw [list_sort_plain];refine wpAny_bind (listItems_at go rfl (wpAny_bind (listUpdate_at go rfl (wpAny_bind (seqEpoch_at g1 rfl (wpAny_bind (wpAny_newTuple (wpAny_bind (wpAny_newList (wpAny_holding ?_))))))))));have g6:(((s.heap.update a (Obj.mapSeq λ _=>#[])).push (seqObj "tuple" vs.toArray 0)).push (seqObj "list" #[] 0)).get? a=some (seqObj "list" #[] e1):=vM _ (vM _ g1);have t6:TupRows (((s.heap.update a (Obj.mapSeq λ _=>#[])).push (seqObj "tuple" vs.toArray 0)).push (seqObj "list" #[] 0)) vs rows:=t.mono λ b o ho hc=>by
  have hb:b≠a:=by
   rintro rfl;rw [go] at ho;cases ho;simp at hc
  exact vM _ (vM _ (by rw [Heap.get?_update_ne _ _ _ _ hb];exact ho))
 refine (show wpAny (model prog w) A _ P E { s with heap:=((s.heap.update a (Obj.mapSeq λ _=>#[])).push (seqObj "tuple" vs.toArray 0)).push (seqObj "list" #[] 0) } from ?_);dsimp only;have hn2:¬ vs.toArray.size < 2:=by rw [vT];lia
 rw [if_neg hn2,if_neg hn2];obtain ⟨fs,k1,k2,k3⟩:=t6.firsts;refine wpAny_bind (kat_kind (T:=.type "int") k1 (by lia) (λ v hv=>?_) rfl ?_)
 ·obtain ⟨x,u,rfl⟩:=k3 v hv;exact .now
 have ask:Ans vs.length (λ i j=>lexB (rows.getD i []) (rows.getD j [])) (kas_ask prog w A (tuples' (y9 "int" != y9 "tuple")) vs) { s with heap:=((s.heap.update a (Obj.mapSeq λ _=>#[])).push (seqObj "tuple" vs.toArray 0)).push (seqObj "list" #[] 0) }:=by
  intro i j hi hj C hc;obtain ⟨b,o,its,n,a1,a2,a3,a4,a5,a6⟩:=t6.at hi;obtain ⟨b',o',its',n',c1,c2,c3,c4,c5,c6⟩:=t6.at hj;unfold kas_ask;rw [a1,c1];refine kat_lt a2 a4 c2 c4 (zi21 _ _ _ _ 0 a5 c5 ?_ hc);rw [<- wT,<- wT,a5.length,c5.length]
 refine wpAny_bind (wpAny_mono (kat_run (Q:=λ st' s'=>s'={ s with heap:=((s.heap.update a (Obj.mapSeq λ _=>#[])).push (seqObj "tuple" vs.toArray 0)).push (seqObj "list" #[] 0) }/\∃ p:Array Nat,arrOf st'=p.map (kas_item (vs.toArray.zip vs.toArray))/\failedOf st'=none/\Whole vs.length p/\Rise (λ i j=>lexB (rows.getD i []) (rows.getD j [])) p vs.length)
  (G:=λ p s'=>s'={ s with heap:=((s.heap.update a (Obj.mapSeq λ _=>#[])).push (seqObj "tuple" vs.toArray 0)).push (seqObj "list" #[] 0) }/\Whole vs.length p/\Rise (λ i j=>lexB (rows.getD i []) (rows.getD j [])) p vs.length)
  rfl h2 h64 (λ p st' s' b1 b2 b3 b4=>⟨b4.1,p,b2,b3,b4.2⟩) (zb41 ask (zg01 rows) (by lia) λ p w r=>⟨rfl,w,r⟩)) ?_ λ _ _ e=>e)
 rintro ⟨⟨⟩,st'⟩ s' ⟨rfl,p,har,hf,hw,hr⟩;dsimp only;have hout:=kat_snds rfl har;rw [hout];refine wpAny_bind (seqEpoch_at g6 rfl (wpAny_bind (listUpdate_at (hsz2:=?_) g6 rfl ?_)))
 ·rw [hf];rw [if_neg (by simp)];exact wpAny_pure (h p hw hr)
 ·rw [vT,u5,wT,hw.size,sizeLine_eq];lia
end
def zk81 (rows:List (List Int)) (p:List Nat):Prop:=p.Perm (u3 rows.length)/\p.Pairwise λ i j=>lexB (rows.getD j []) (rows.getD i [])=false
theorem znp (h:rows.length < 2):zk81 rows (u3 rows.length):=by
 refine ⟨List.Perm.refl _,?_⟩;rcases rows with _|⟨r,_|⟨r2,t⟩⟩
 ·simp
 ·simp [w9]
 ·simp at h;lia
theorem zpv {p:Array Nat} (w:Whole rows.length p) (r:Rise (λ i j=>lexB (rows.getD i []) (rows.getD j [])) p rows.length):zk81 rows p.toList:=by
 refine ⟨w,?_⟩;rw [List.pairwise_iff_getElem];intro i j hi hj hij;have hz:=w.size;have hi':i < p.size:=by simpa using hi
 have hj':j < p.size:=by simpa using hj
 have:=r i j (xR hij) (by lia)
 simpa [Array.getD,hi',hj'] using this
end _3
namespace _4
open PySem PySem.Spec PyProof.Rows _2 _3
section
variable {K:Fg}
def rowD (r:List Int):D:=.tuple (r.map .int)
end
end _4
namespace _3
open PySem PySem.Spec PyProof.Rows _2
variable {ep:Nat} {es:Array DictEntry} {od:Obj}
section
variable {s:Shared} {w:World} {prog:Program} {E:Value->Shared->Prop} {A:Around}
theorem zmp {d:Addr} {Q:Value->Shared->Prop} (go:s.heap.get? d=some od) (gc:od.cls=.type "dict") (gd:od.data=.dict es ep) (gs:(d == sysModules)=false)
  (q:Q (.ref s.heap.objs.size) { s with heap:=s.heap.push { cls:=.type "dict_keyiterator",data:=.fields #[.ref d,.int 0 0,.int es.size 0,.int ep 0] } }):wpAny (model prog w) A (pyIter (.ref d)) Q E s:=by
 have ty:s.TypeIs (.ref d) "dict":=⟨od,go,gc⟩
 refine wpAny_pyIter_slot ty F.slot_dict_iter (wpAny_call_entry F.slot_dict_iter ty F.entry_dict_iter ?_ (F.args_dict_iter_1 _));unfold Builtin.«dict.__iter__» Builtin.Dict.dictSlotNone;refine wpAny_bind (wpAny_bind (wpAny_notOrdered_dict ty (show wpAny _ _ (pure (vN d)) _ _ s from wpAny_pure (show wpAny _ _ (Builtin.Dict.showsAll d >>= _) _ _ s from ?_))));unfold Builtin.Dict.showsAll;rw [gs,if_neg vU];refine wpAny_bind (wpAny_pure (wpAny_bind (wpAny_dictEntries go gd (wpAny_bind (wpAny_dictEpoch go gd (wpAny_bind (wpAny_newObj_type (wpAny_pure ⟨_,rfl, "dict_keyiterator",_,⟨_,v4 _ rfl,rfl⟩,F.slot_dict_keyiterator_next.lookup,?_⟩))))))))
 simpa [rawInt] using q
theorem ownk:Builtin.Dict_items.ownsTuple "dict_keyiterator"=false:=by decide
theorem zoi {it d:Addr} {i:Nat} {Q:Option Value->Shared->Prop} (calm:A.handled=none) (gi:s.heap.IsKeyIter it d i es.size ep) (go:s.heap.get? d=some od) (gd:od.data=.dict es ep)
  (q1:∀ (lt:i < es.size) (h':Heap),h'.IsKeyIter it d (i+1) es.size ep->Heap.SameBut it s.heap h'->Q (some es[i].key) { s with heap:=h' })
  (q2:es.size<=i->∀ h':Heap,Heap.ExtBut it s.heap h'->Q none { s with heap:=h' }):wpAny (model prog w) A (pyNext (.ref it)) Q E s:=by
 have ty:=gi.typeIs;obtain ⟨io,g1,g2,g3⟩:=id gi;unfold pyNext;refine wpAny_bind (wpAny_attempt (wpAny_callSpecial?_slot (name:=xJ "__next__") ty F.slot_dict_keyiterator_next (wpAny_call_entry F.slot_dict_keyiterator_next ty F.entry_dict_keyiterator_next ?_ (F.args_dict_keyiterator_next_1 _))));refine wpAny_bind (wpAny_pure (wpAny_bind (wpAny_bind (wpAny_bind (wpAny_typeNameOfWhole_keyiter ty (wpAny_pure (wpAny_bind (wpAny_fieldsOf g1 g3 ?_))))))));simp only [ownk,xO,if_false];refine (show wpAny _ _ (if (vN d == xB)=true then _ else _) _ _ _ from ?_);rw [if_neg (show ¬ (vN d == xB)=true from nofun)];refine wpAny_bind (wpAny_pure (wpAny_bind (wpAny_dictEntries go gd ?_)));rw [if_neg (by simp)];refine wpAny_bind (wpAny_pure (wpAny_bind (wpAny_dictEpoch go gd ?_)));rw [if_neg (by simp)];refine wpAny_pure ?_;rcases wP i es.size with lt|ge
 ·simp only [zJ lt,vR,if_neg (zK.mpr (zL i))];refine wpAny_bind (wpAny_bind (wpAny_typeNameOfWhole_keyiter ty (wpAny_pure (wpAny_bind (wpAny_isOneOf_keyiter ty ?_)))));refine wpAny_bind (show wpAny _ _ (setField (.ref it) 1 (rawInt ((i:Int)+1))) _ _ _ from wpAny_setField g1 g3 (by simp) ?_);have gi':(s.heap.update it (Obj.mapFields (·.setIfInBounds 1 (rawInt ((i:Int)+1))))).IsKeyIter it d (i+1) es.size ep:=by
   refine ⟨_,uaI _ g1 (Obj.isFreed_of_fields (Obj.data_mapFields g3 _)),(Obj.cls_mapFields ..).trans g2,?_⟩;rw [Obj.data_mapFields g3];simp [rawInt]
  refine wpAny_bind (wpAny_holding (wpAny_bind (wpAny_isOneOf_keyiter (s:={ s with heap:=s.heap.update it (Obj.mapFields (·.setIfInBounds 1 (rawInt ((i:Int)+1)))) }) gi'.typeIs (show wpAny _ _ (pure es[i].key) _ _ _ from wpAny_pure (wpAny_pure ⟨_,rfl,wpAny_pure (q1 lt _ gi' (Heap.SameBut.update ..))⟩)))))
 ·simp only [uaQ ge,vR,if_neg (zK.mpr (zL i))];refine wpAny_bind (wpAny_bind (wpAny_typeNameOfWhole_keyiter ty (wpAny_pure (wpAny_bind (show wpAny _ _ (setField (.ref it) 0 .none) _ _ _ from wpAny_setField g1 g3 (by simp) ?_)))));refine wpAny_bind (show wpAny _ _ (newExc (.type "StopIteration") []) _ _ _ from ?_);simp only [newExc,newTuple];refine wpAny_bind (wpAny_newObj_type (hd:=by size_fits) (wpAny_bind (m:=firstArgMember _ _) (wpAny_of_eq (a:=xB) (by rfl) (wpAny_newObj_type (hd:=by size_fits) ?_))));simp only [raiseNew];refine wpAny_bind (wpAny_handled ?_);rw [show A.in1.handled=none from calm];refine wpAny_bind (wpAny_pure (wpAny_throw ?_));refine wpAny_bind (wpAny_isInstance (b:=true) (T := "StopIteration") ⟨_,v4 _ rfl,rfl⟩ isSubtype_stop (wpAny_pure (q2 ge _ ?_)));exact ((Heap.SameBut.update ..).extBut.push _).push _
end
end _3
namespace _4
open PySem PySem.Spec PyProof.Rows _2 _3
section
variable {K:Fg} {w:World}
theorem KvIs.keysT {κ:Type} {F:Hp} {r:List (κ×V)} {t:List (κ×D)} (h:KvIs K F r t):r.map (·.1)=t.map (·.1):=by
 induction h with
|nil=>rfl
|cons a r ih=>simp_all
end
section
variable {K:Fg} {g:TG} {dg:DG} {tb:TS} {db:DS} {n:Nat} {B:Bs} {F H:Hp} {Y:_2.St} {U:DSt} {fps:Nat->List Addr}
def ioF (U:DSt) (fps:Nat->List Addr):List Addr:=(u3 U.length).flatMap λ i=>match (U[i]?:Option Sl) with
|some (.io _ _)=>fps i
|_=>[]
theorem znm {a:Addr}:a∈ioF U fps ↔ ∃ (i:Nat) (b:Addr) (t:T),U[i]?=some (.io b t)/\a∈fps i:=by
 unfold ioF;rw [xW];constructor
 ·rintro ⟨i,_,h⟩;split at h
  ·rename_i b t e;exact ⟨i,b,t,e,h⟩
  ·simp at h
 ·rintro ⟨i,b,t,e,h⟩;refine ⟨i,u9.mpr (vZ.mp e).1,?_⟩;rw [e];exact h
theorem RS.rebase (r:RS K B F H Y U fps):∃ B':Bs,RS K B' F H Y U fps/\B'.F0=F/\(∀ a o,H a=some o->(∀ (i:Nat) s,U[i]?=some s->s.own=true->a ∉ fps i)->B'.H0 a=some o/\a ∉ B'.G) /\
  (∀ {F2 H2:Hp} {Y2:_2.St} {U2:DSt} {fps2:Nat->List Addr},RS K B' F2 H2 Y2 U2 fps2->RS K B F2 H2 Y2 U2 fps2)/\∀ a,B'.H0 a=none->B.H0 a=none:=by
 classical
 have ow:∀ a,(∃ (i:Nat) (t:T),U[i]?=some (.ow t)/\a∈fps i)->B.H0 a=none:=λ a ⟨i,t,e,h⟩=>by
  rcases r.fr i _ e rfl a h with z|⟨_,z⟩
  ·exact z
  ·exact absurd rfl (z t)
 have io:∀ a,a∈ioF U fps->B.H0 a=none \/ a∈B.G:=λ a h=>by
  obtain ⟨i,b,t,e,h⟩:=znm.mp h;rcases r.fr i _ e rfl a h with z|⟨z,_⟩
  ·exact .inl z
  ·exact .inr z
 let B':Bs:=⟨F,λ a=>if ∃ (i:Nat) (t:T),U[i]?=some (.ow t)/\a∈fps i then none else H a,ioF U fps⟩
 have hn:∀ a,B'.H0 a=none->B.H0 a=none:=λ a h=>by
  by_cases z:∃ (i:Nat) (t:T),U[i]?=some (.ow t)/\a∈fps i
  ·exact ow a z
  ·have h:(if ∃ (i:Nat) (t:T),U[i]?=some (.ow t)/\a∈fps i then none else H a)=none:=h;rw [if_neg z] at h;cases q:B.H0 a with
  |none=>rfl
  |some o=>exact absurd h ((r.al a).1 (by rw [q];simp))
 have hs:∀ a o,B'.H0 a=some o->H a=some o:=λ a o h=>by
  have h:(if ∃ (i:Nat) (t:T),U[i]?=some (.ow t)/\a∈fps i then none else H a)=some o:=h;split at h
  ·cases h
  ·exact h
 have hp:∀ a o,H a=some o->B.H0 a≠none->B'.H0 a=some o:=λ a o h q=>by
  show (if ∃ (i:Nat) (t:T),U[i]?=some (.ow t)/\a∈fps i then none else H a)=some o;rw [if_neg (λ z=>q (ow a z))];exact h
 refine ⟨B',⟨λ b o _ e=>hs b o e,λ _ _ e=>e,r.fh,λ b _ e=>e,λ b=>⟨λ e q=>?_,λ e=>HD.mono (H:=B'.H0) e λ b' o z=>hs b' o z⟩,r.len,r.sh,r.rt,λ i s e o a ha=>?_,r.dj⟩,rfl,λ a o h q=>⟨?_,λ z=>?_⟩,λ {F2 H2 Y2 U2 fps2} r2=>⟨λ b o hb e=>?_,r.ff.trans r2.ff,r2.fh,λ b h1 h2=>?_,λ b=>?_,r2.len,r2.sh,r2.rt,λ i s e o a ha=>?_,r2.dj⟩,hn⟩
 ·cases z:B'.H0 b with
 |none=>exact e z
 |some o=>rw [hs b o z] at q;cases q
 ·cases s with
 |ow t =>
   refine .inl ?_;show (if ∃ (i:Nat) (t:T),U[i]?=some (.ow t)/\a∈fps i then none else H a)=none;rw [if_pos ⟨i,t,e,ha⟩]
 |io b t=>exact .inr ⟨znm.mpr ⟨i,b,t,e,ha⟩,λ t z=>by cases z⟩
 |un=>cases o
 |sh d=>cases o
 |bo t=>cases o
 ·show (if ∃ (i:Nat) (t:T),U[i]?=some (.ow t)/\a∈fps i then none else H a)=some o;rw [if_neg (λ ⟨i,t,e,ha⟩=>q i _ e rfl ha)];exact h
 ·obtain ⟨i,b,t,e,ha⟩:=znm.mp z;exact q i _ e rfl ha
 ·have h1:=r.hh b o hb e;refine r2.hh b o (λ z=>?_) (hp b o h1 (by rw [e];simp));rcases io b z with y|y
  ·rw [e] at y;cases y
  ·exact hb y
 ·have h3:=r.nw b h1 h2;refine r2.nw b ?_ h3;have h4:=(r.al b).2 h1;cases z:H b with
 |none=>exact absurd z h4.1
 |some o=>rw [hp b o z h1.1,<- z];exact h4
 ·refine ⟨λ h1=>(r2.al b).1 ?_,λ h1=>(r2.al b).2 ?_⟩
  ·cases z:H b with
  |none=>exact absurd z ((r.al b).1 h1)
  |some o=>rw [hp b o z h1];simp
  ·have h4:=(r.al b).2 h1;cases z:H b with
  |none=>exact absurd z h4.1
  |some o=>rw [hp b o z h1.1,<- z];exact h4
 ·rcases r2.fr i s e o a ha with z|⟨z,y⟩
  ·exact .inl (hn a z)
  ·rcases io a z with q|q
   ·exact .inl q
   ·exact .inr ⟨q,y⟩
end
abbrev DX:=Addr->DSt->Prop
section
variable {X:Cx} {x:Str} {pos pos':Pos} {e a b:Expr} {te ta tb:TE} {k j:Nat} {K:Fg}
theorem pset (i:Nat) (hN:X.N.Nodup) (he:PE X e te) (hi:X.N[i]?=some x:=by rfl) (hx:Loc X.env.scope x:=by walk_at "vi") (hs:swapsWith e (some (.Name x pos')) pos.line X.env=pure false:=by rfl) (hf:X.fn x=true \/ X.env.scope.names.lookup x=some .local:=by walk_at "vi"):PS X (.Assign [.Name x pos'] e pos) (tAsg te (zqp i)):=zz51 hN hi hx he hs hf
theorem pgn (i:Nat) (hN:X.N.Nodup) (hi:X.N[i]?=some x:=by rfl) (hx:Loc X.env.scope x:=by walk_at "vi") (hf:X.fn x=true \/ X.env.scope.names.lookup x=some .local:=by walk_at "vi"):PG X (.Name x pos) (zqp i):=zd21 hN hi hx hf
theorem pix (w:World) (K:Fg) (hr:Room k X.A) (ha:PE X a ta) (hb:PE X b tb) (hw:X.w=w:=by rfl) (hK:X.K=K:=by rfl) (hs:zwr b:=by exact λ _ _=>rfl):PE X (.Subscript a b pos) (tOp (rIxV w K) ta tb):=zhd1 (ix_V (Room.units hr) hw hK) ha hb hs
theorem nds (l:List Str) (h:l.Nodup:=by decide +kernel):l.Nodup:=h
theorem rvi {i:Int}:RfV K (tC (.int i)) (dC (.int i)):=RfE.v zv0
theorem rgn (i:Nat) (hi:i < 100:=by decide):RfG K 100 (zqp i) (gN i):=zg2 hi
theorem rmn {A:Around} (hr:Room k A) (h:j<=k:=by decide):Room j A:=Room.mono hr h
end
end _4
namespace _5
open PySem PySem.Spec PyProof.Rows _2 _3 _4
variable {n:Nat} {s:Shared}
theorem zn21:bootBuiltins "dict"=some (.type "dict"):=by decide +kernel
theorem zjg:typeLookup (.type "list") "keys"=pure none:=by rw [typeLookup_type,builtinLookup_eq_fast];kernel_rfl
theorem zec:entryFor table "dict.update.loop"=some Builtin.«dict.update.loop»:=entryFor_of_fast (by kernel_rfl)
theorem zl7:plainId "dict.update.loop"=true:=by decide +kernel
section
variable {prog:Program} {w:World} {A:Around} {E:Value->Shared->Prop}
theorem zaz {l:Addr} {ob:Obj} {ys:Array Value} {Q:Option Value->Shared->Prop} (h1:s.heap.get? l=some ob) (h2:ob.cls=.type "list") (h3:ob.data=.seq ys n) (h4:ob.dict=none) (hA:A.handled=none)
  (k:∀ g tk e,Heap.NewExcOf s.heap g e "AttributeError"->Q none { s with heap:=g,toks:=tk }):wpAny (model prog w) A (getAttr? (.ref l) "keys") Q E s:=by
 obtain ⟨c,dct,dat,sl⟩:=ob;simp only at h2 h3 h4;subst h2;subst h3;subst h4;obtain ⟨hp,g,d,tk,os⟩:=s;have tyL:∀ t',(⟨hp,g,d,t',os⟩:Shared).TypeIs (.ref l) "list":=λ _=>⟨_,h1,rfl⟩
 have g1:=sub_AttributeError;have g3:=F.slot_list_getattribute.lookup;have g4:=F.slot_list_getattribute.bind (.ref l);have g5:=am_list_getattr_none;unfold getAttr? getAttrBy? getAttrBy
 repeat (any_goals (first|assumption|exact tyL _|((with_reducible show wpAny _ _ (call (Value.builtin "list.__getattribute__") _ _) _ _ _);refine call_meets F.slot_list_getattribute (tyL _) am_entry_list_getattribute (F.args_list_getattribute_2 _ _) (meets_getattribute_miss_list l ys n sl "keys" _ zjg (by decide +kernel)) ⟨h1,hA,λ g' tk' e ne=>?_⟩)|wp_step))
 obtain ⟨t',u',he⟩:=ne.there;show wpAny _ _ (getattributeRaised _ _ _ _ _ _ _) _ _ _;unfold getattributeRaised
 repeat (any_goals (first|assumption|wp_step))
 exact k _ _ _ ne.of
end
section
variable {X:Cx} {pins:List (Addr×Obj)} {Y:_2.St} {A:Around} {E:Value->Shared->Prop}
theorem zyq {H H':Hp} {a:Addr} {y v:V} {u r:Value} {Q:Unit->Shared->Prop} (hu:A.units+1 < cLine) (I:_2.Inv X pins Y H s) (g:DPut H a y v H') (ry:RelV y u) (rv:RelV v r)
  (k:∀ g t,Heap.SameBut a s.heap g->_2.Inv X pins Y H' { s with heap:=g,toks:=t }->Q () { s with heap:=g,toks:=t }):wpAny (model X.prog X.w) A.in1 (dictSet a u r) Q E s:=by
 rcases g with ⟨kvs,c,e,ey,l,eH⟩|⟨kvs,c,b,e,ey,eb,l,eH⟩
 ·subst ey;subst eH;obtain ⟨z,hd,vs,rel,dd⟩:=zs51 I.hok e;refine wpAny_dictSet_pairs (hsz:=by rw [<- rel.length];exact z) (zks ry) dd λ g dd' hs=>k g _ hs ?_;refine zcf I (by rw [e];exact True.intro) hs ?_ (zlx (by have:=zz2 kvs c v;lia) hd (rel.put c rv) dd');obtain ⟨q,_,_,hq,_⟩:=dd';exact ⟨q,hq⟩
 ·subst ey;subst eH;cases (show u=vN b from ry);obtain ⟨z,hd,xs,rel,dd⟩:=zzb1 I.hok e;refine wpAny_dictSet_heap (hsz:=by rw [<- Paired.length rel];exact z) (tupleKind_room_in1 hu) (zlh I.hok eb) dd λ g dd' hs=>k g _ hs ?_;obtain ⟨q,es,ep,hq,p2,p3,p4,_,p5⟩:=dd';refine zcf I (by rw [e];exact True.intro) hs ⟨q,hq⟩ ⟨by have:=zz2 kvs c v;lia,hd,_,(rel.put c eb rv).keeps λ f ys ec=>?_,q,es,ep,hq,p2,p3,p4,p5⟩;rw [zr0 (zkb1 ec e (λ z=>nomatch z))];exact ec
theorem zsq (hA:A.handled=none) (hu:A.units+1 < cLine) {R:Result->Shared->Prop} {p l it:Addr} {ys:List V} {H:Hp} {G:Nat->HO} (hq:SqL X.K H p ys) (hl:H l=none) (nl:it≠l) (fo:FpOk X pins H it)
  (hG:∀ (i:Nat) y,ys[i]?=some y->∃ q k v,y=.ref q/\SqT X.K H q [k,v]/\DPut (upd H l (G i)) l k v (upd H l (G (i+1)))) (hR:∀ s',_2.Inv X pins Y (upd H l (G ys.length)) s'->R (.ok (.ret .none)) s') :
  ∀ (n i:Nat) (s:Shared) (z:Int) (t:Tok),ys.length - i=n->i<=ys.length->_2.Inv X pins Y (upd H l (G i)) s->s.heap.IsListIter it p i->codeAny (model X.prog X.w) A (.builtin "dict.update.loop" ⟨[.ref l,.ref it,.int z t,.none],[]⟩) R s:=by
 have hit:∀ o,upd H l o it=none:=λ o=>by rw [zr0 nl];exact fo.1
 have turn:∀ {i:Nat} {s:Shared} {g:Heap},_2.Inv X pins Y (upd H l (G i)) s->(∀ b o,b≠it->s.heap.get? b=some o->g.get? b=some o)->_2.Inv X pins Y (upd H l (G i)) { s with heap:=g }:=λ I kp=>I.turned (t':=_) kp (hit _) fo.2.1 fo.2.2.2.1 fo.2.2.2.2.1 fo.2.2.2.2.2;intro n
 induction n with
|zero =>
  intro i s z t hn hi I hI;have ei:i=ys.length:=by lia
  subst ei;obtain ⟨its,rv,pl,_⟩:=I.list ((zt1 hl (G ys.length)).seq hq);have hlen:=rv.length;refine codeAny_builtin zec ?_;rw [Around.under_plainId zl7 _];show wpAny _ A.in1 (pyNext (.ref it) >>= _) _ _ s;refine wpAny_bind (wpAny_pyNext_list_end hA hI pl.isList (by simp [hlen]) λ g hx=>?_);show wpAny _ _ (Builtin.Dict.addKeywords l [] >>= _) _ _ _;exact wpAny_bind (wpAny_pure (wpAny_pure (hR _ (turn I λ b o hb e=>hx b o hb e))))
|succ n ih =>
  intro i s z t hn hi I hI;have hlt:i < ys.length:=by lia
  obtain ⟨q,kk,v,ey,sq,dp⟩:=hG i ys[i] (u7 hlt);obtain ⟨its,rv,pl,_⟩:=I.list ((zt1 hl (G i)).seq hq);have hlen:=rv.length;have hlt2:i < its.length:=by lia
  obtain ⟨uq,gq,rq⟩:=rv.get (u7 hlt);rw [ey] at rq;cases (show uq=vN q from rq);refine codeAny_builtin zec ?_;rw [Around.under_plainId zl7 _];show wpAny _ A.in1 (pyNext (.ref it) >>= _) _ _ s;refine wpAny_bind (wpAny_pyNext_list_item hI pl.isList (x:=.ref q) (by simpa using gq) λ g hI2 hs=>?_);have I2:=turn I λ b o hb e=>(hs.2 b hb).trans e;obtain ⟨tis,rt,tp,tz⟩:=I2.tuple (zto (zt1 hl (G i)) sq);obtain ⟨u1,u2,rfl,r1,r2⟩:=zs41 rt;obtain ⟨ob,o1,o2,o3,o4⟩:=tp;refine wpAny_bind (wpAny_holding ?_);refine wpAny_bind (wpAny_tryCatch ?_);unfold Builtin.Dict.pairItems;refine wpAny_bind (wpAny_typeOf (T := "tuple") ⟨ob,o1,o2⟩ ?_);rw [if_pos (by decide)];refine wpAny_bind (wpAny_seqItems o1 o4 (wpAny_pure ?_));refine wpAny_holding (zyq hu I2 dp r1 r2 λ g2 t2 hs2 I3=>?_);refine wpAny_pure ⟨plainId_quiet zl7 _,ih (i+1) _ _ _ (by lia) hlt I3 ?_⟩;obtain ⟨oi,j1,j2⟩:=hI2;exact ⟨oi,(hs2.2 it nl).trans j1,j2⟩
end
noncomputable def zpc1 (K:Fg):List V->Hp->VK->Prop:=λ xs H Q=>∃ p ys,∃ G:Nat->HO,xs=[.ref p]/\SqL K H p ys/\(G 0=.dK [] \/ G 0=.dT []) /\
 (∀ l,H l=none->∀ (i:Nat) y,ys[i]?=some y->∃ q k v,y=.ref q/\SqT K H q [k,v]/\DPut (upd H l (G i)) l k v (upd H l (G (i+1))))/\∀ l,H l=none->Q (.ref l) (upd H l (G ys.length))
theorem zqk {X:Cx} {K:Fg} (hK:X.K=K) (hc:X.calm=true) (hu:X.A.units+64 < cLine):CallR X (.type "dict") (zpc1 K):=by
 subst hK;intro pins s Y H xs us Q I r hw;obtain ⟨p,ys,G,rfl,hq,h0,hG,q⟩:=hw;obtain ⟨u,rfl,rx⟩:=zup r;cases rx;have hl:H s.heap.objs.size=none:=I.hok.fresh (u6 _);have hA:=I.ok.hd hc;refine callType_codes (Q₁:=λ ob s'=>ob=.ref s.heap.objs.size/\s'={ s with heap:=s.heap.push { cls:=.type "dict",data:=.dict #[] } }) F.kt_called_dict (F.kt_typeCall_dict_1 _) F.entry_dict_init (kt_code_dict_new _ ⟨rfl,rfl⟩) ?_;rintro ob s' ⟨rfl,rfl⟩;have I1:_2.Inv X pins Y (upd H s.heap.objs.size (G 0)) { s with heap:=s.heap.push { cls:=.type "dict",data:=.dict #[] } }:=by
  rcases h0 with e|e
  ·rw [e];exact I.laid (t':=s.toks) (λ _ _ z=>vM _ z) (u6 _) (zxm s.heap I.big)
  ·rw [e];exact I.laid (t':=s.toks) (λ _ _ z=>vM _ z) (u6 _) (zdn s.heap I.big)
 have tyD:Shared.TypeIs { s with heap:=s.heap.push { cls:=.type "dict",data:=.dict #[] } } (.ref s.heap.objs.size) "dict":=⟨_,v4 _ rfl,rfl⟩
 refine ⟨tyD,F.args_dict_init_2 _ _,?_⟩;unfold Builtin.«dict.__init__»;refine wpAny_bind ?_;unfold Builtin.Dict.selfAndRest;refine wpAny_bind (wpAny_notOrdered_dict tyD ?_);show wpAny _ _ (pure (s.heap.objs.size,[vN p])) _ _ _;refine wpAny_pure ?_;show wpAny _ _ (Builtin.Dict.updateFrom "dict.__init__" s.heap.objs.size (.ref p) [] .none) _ _ _;obtain ⟨its,rv,pl,_⟩:=I1.list ((zt1 hl (G 0)).seq hq);obtain ⟨o,n,o1,o2,o3,o4⟩:=pl;unfold Builtin.Dict.updateFrom;refine wpAny_bind (wpAny_typeOf (T := "list") ⟨o,o1,o2⟩ ?_);rw [if_pos (by decide)];refine wpAny_bind (zaz o1 o2 o4 o3 hA λ g tk e ne=>?_);rw [if_pos (show (none:Option Value).isNone=true from rfl)];refine wpAny_bind (wpAny_rule ?_);have I2:_2.Inv X pins Y (upd H s.heap.objs.size (G 0)) { s with heap:=g,toks:=tk }:=I1.kept ne.keeps;refine wpAny_bind (wpAny_pyIter_list ⟨o,ne.keeps _ _ o1,o2,n,o4⟩ ?_);have lt:s.heap.objs.size < g.objs.size:=vO (ne.keeps _ _ (v4 _ rfl));have fo:FpOk X pins H g.objs.size:=I2.fpOk (u6 _) (by have:=I2.hok.fresh (a:=g.objs.size) (u6 _);rw [zr0 (yU lt)] at this;exact this);exact wpAny_pure ⟨plainId_quiet zl7 _,zsq (A:=X.A.in1) (R:=wants (λ r s₂=>r=xB/\EP X pins Y Q (vN s.heap.objs.size) s₂) X.xe) (X:=X) (l:=s.heap.objs.size) (it:=g.objs.size) hA (by show X.A.units+1+1 < cLine;lia) hq hl (yU lt) fo (hG _ hl) (λ s' I'=>⟨rfl,.ref _,_,I',rfl,q _ hl⟩) ys.length 0 _ _ _ (by lia) (wE _)
  (I2.kept (t':=tk) λ b u z=>vM _ z) ⟨_,v4 _ rfl,rfl,rfl⟩⟩
theorem zi41 {H:Hp} {l:Addr} {a b:HO}:upd (upd H l a) l b=upd H l b:=by funext x;unfold upd;split <;> rfl
section
variable {K:Fg} {te:TE} {de:DE}
theorem zsz (k:Key):keyD (kD k)=some k:=by cases k <;> rfl
def mG {κ:Type} [DecidableEq κ] (l:List (κ×V)):List (κ×V):=l.foldl (λ a x=>putK a x.1 x.2) []
def mD {κ:Type} [DecidableEq κ] (l:List (κ×D)):List (κ×D):=l.foldl (λ a x=>putD a x.1 x.2) []
theorem zb01 {κ:Type} [DecidableEq κ] {l:List (κ×V)} {i:Nat} {k:κ} {v:V} (h:l[i]?=some (k,v)):mG (l.take (i+1))=putK (mG (l.take i)) k v:=by
 unfold mG;rw [xL,h,List.foldl_append];rfl
theorem zm71 {κ:Type} [DecidableEq κ] (l:List (κ×V)):(mG l).length<=l.length:=by
 have:∀ (l:List (κ×V)) (a:List (κ×V)),(l.foldl (λ a x=>putK a x.1 x.2) a).length<=a.length+l.length:=by
  intro l
  induction l with
 |nil=>intro a;simp
 |cons x r ih=>intro a;have:=ih (putK a x.1 x.2);have:=zz2 a x.1 x.2;simp only [z7,wY];lia
 simpa [mG] using this l []
theorem zrd1 {κ:Type} [DecidableEq κ] {F:Hp} {r:List (κ×V)} {t:List (κ×D)} (h:KvIs K F r t):KvIs K F (mG r) (mD t):=by
 have:∀ {r:List (κ×V)} {t:List (κ×D)},KvIs K F r t->∀ {a:List (κ×V)} {b:List (κ×D)},KvIs K F a b->KvIs K F (r.foldl (λ a x=>putK a x.1 x.2) a) (t.foldl (λ a x=>putD a x.1 x.2) b):=by
  intro r t h
  induction h with
 |nil=>intro a b h;exact h
 |cons hv _ ih=>intro a b h;exact ih (h.put hv)
 exact this h .nil
theorem zo31 {F:Hp} {v:V} {d1 d2:D} (h:Is K F v (.tuple [d1,d2])):∃ q v1 v2,v=.ref q/\SqT K F q [v1,v2]/\Is K F v1 d1/\Is K F v2 d2:=by
 obtain ⟨a,xs,rfl,h1,h2⟩:=h.tuple_inv;cases h2 with
|cons i1 r =>
  cases r with
 |cons i2 r=>cases r;exact ⟨a,_,_,rfl,h1,i1,i2⟩
theorem zhz {F:Hp}:∀ {ys:List V} {ps:List (Key×D)},IsAll K F ys (ps.map λ p=>.tuple [kD p.1,p.2])->∃ vp:List (Key×V),KvIs K F vp ps/\vp.length=ys.length/\∀ (i:Nat) y,ys[i]?=some y->∃ q k v,y=.ref q/\SqT K F q [kV k,v]/\vp[i]?=some (k,v)
|_,[],.nil=>⟨[],.nil,rfl,λ i y h=>by simp at h⟩
|_,p :: ps,.cons h r=>by
  obtain ⟨vp,h1,h2,h3⟩:=zhz r;obtain ⟨q,v1,v2,rfl,s1,i1,i2⟩:=zo31 h;have:=zlg i1 (zsz p.1);subst this;refine ⟨(p.1,v2) :: vp,.cons i2 h1,by simp [h2],λ i y e=>?_⟩;cases i with
 |zero=>simp at e;subst e;exact ⟨q,p.1,v2,rfl,s1,rfl⟩
 |succ i=>exact h3 i y (by simpa using e)
def zd41 (de:DE):DN:=λ U Q=>de U λ d=>∃ ps:List (Key×D),d=.list (ps.map λ p=>.tuple [kD p.1,p.2])/\ps.length < sizeLine/\Q (.dk (mD ps))
theorem zzf (de:DE) (U:DSt) (Q:T->Prop):zd41 de U Q=(de U λ d=>∃ ps:List (Key×D),d=.list (ps.map λ p=>.tuple [kD p.1,p.2])/\ps.length < sizeLine/\Q (.dk (mD ps))):=rfl
theorem zf91 {F H:Hp} {l:Addr} (s:Same F H) (h:H l=none):F l=none:=by
 cases e:F l with
|none=>rfl
|some o=>rw [s l o e] at h;cases h
theorem zzt (h:RfE K te de):RfN K (tCB (zpc1 K) (zrc te tNil)) (zd41 de):=by
 intro F H Y U Qd Q s rv hd k;refine h s rv hd λ d q v F1 H1 e1 i1=>?_;obtain ⟨ps,rfl,hz,q⟩:=q;obtain ⟨p,ys,rfl,h1,h2⟩:=i1.list_inv;obtain ⟨vp,k1,k2,k3⟩:=zhz h2;have hl:=k1.len;refine ⟨p,ys,λ i=>.dK (mG (vp.take i)),rfl,e1.fh.seq h1,.inl rfl,λ l hn i y ey=>?_,λ l hn=>?_⟩
 ·obtain ⟨q,kk,vv,rfl,s1,g1⟩:=k3 i y ey;have hi:=(vZ.mp g1).1;refine ⟨q,kV kk,vv,rfl,zto e1.fh s1,.inl ⟨mG (vp.take i),kk,zn0,rfl,?_,?_⟩⟩
  ·have:=zm71 (vp.take i);rw [wM] at this;lia
  ·show upd H1 l (.dK (mG (vp.take (i+1))))=upd (upd H1 l (.dK (mG (vp.take i)))) l _;rw [zb01 g1,zi41]
 ·have fl:=zf91 e1.fh hn;have e2:Ext F1 H1 F1 (upd H1 l (.dK (mG vp))):=zrj e1.fh hn;show Q (.ref l) (upd H1 l (.dK (mG (vp.take ys.length))));rw [<- k2,xA];refine k _ q (.ref l) F1 _ [l] (e1.trans e2) (.dk zn0 fl (zrd1 k1)) (by simp) λ a ha=>?_;simp at ha;subst ha;cases z:H a with
 |none=>rfl
 |some o=>rw [e1.h a o z] at hn;cases hn
end
section
variable {K:Fg}
noncomputable def zln:List D->(D->Prop)->Prop
|[.int i,.int j],Q=>0 < j/\j < 1606938044258990275541962092341162602522202993782792835301376/\Q (.tuple [.int (i / j),.int (i % j)])
|_,_=>False
theorem zxc (i j:Int) (Q:D->Prop):zln [.int i,.int j] Q=(0 < j/\j < 1606938044258990275541962092341162602522202993782792835301376/\Q (.tuple [.int (i / j),.int (i % j)])):=rfl
theorem zxv:CB K ztr zln:=by
 intro F H vs ds Qd Q s hv h k;unfold zln at h;split at h
 ·obtain ⟨v,u,rfl,h1,h2⟩:=vw2 hv;rw [h1.int,h2.int];refine ⟨_,_,rfl,h.1,h.2.1,λ p hp=>?_⟩;obtain ⟨e,i⟩:=zmc (K:=K) s hp (.cons (.int _) (.cons (.int _) .nil));exact k _ h.2.2 _ _ _ e i
 ·exact h.elim
end
theorem zs81 {α β:Type} {xs:List α} {enc:α->D} (ok:β->Prop) (en:β->D) {ix:List Nat} {dg:DG} {de:DE} {U:DSt} {Q:List D->Prop} (hz:xs.length<=sizeLine)
  (h:∀ x∈xs,dg (enc x) (cST n ix U) λ U'=>de U' λ r=>∃ b,ok b/\r=en b) (q:∀ bs:List β,bs.length=xs.length->(∀ b∈bs,ok b)->Q (bs.map en)):zn51 (xs.map enc) n ix dg zo51 de U Q:=by
 refine ⟨by rw [u5];exact hz,λ _ o=>∃ b,ok b/\o=some (en b),λ i d e=>?_,λ os hl hR=>?_⟩
 ·rw [u8] at e;obtain ⟨x,hx,rfl⟩:=wO.mp e;have:=h x (wF hx);have e1:(λ r=>∃ b,ok b/\some r=some (en b))=λ r=>∃ b,ok b/\r=en b:=by funext r;simp
  show dg (enc x) (cST n ix U) λ U'=>if true=true then de U' λ r=>∃ b,ok b/\some r=some (en b) else ∃ b,ok b/\none=some (en b)
  rw [e1];simp only [if_true];exact this
 ·have key:∀ os:List (Option D),(∀ o∈os,∃ b,ok b/\o=some (en b))->∃ bs:List β,bs.length=os.length/\(∀ b∈bs,ok b)/\os.filterMap id=bs.map en:=by
   intro os
   induction os with
  |nil=>intro _;exact ⟨[],rfl,(λ b hb=>by simp at hb),rfl⟩
  |cons o r ih =>
    intro k;obtain ⟨b,h1,rfl⟩:=k o (by simp);obtain ⟨bs,k1,k2,k3⟩:=ih λ o ho=>k o (by simp [ho]);refine ⟨b :: bs,by simp [k1],λ c hc=>?_,by simp [k3]⟩;rcases vL.mp hc with z|z
    ·rw [z];exact h1
    ·exact k2 c z
  obtain ⟨bs,b1,b2,b3⟩:=key os λ o ho=>by
   obtain ⟨j,hj⟩:=List.mem_iff_getElem?.mp ho;exact hR j o hj
  rw [b3];exact q bs (by rw [b1,hl,u5]) b2
variable {A:List Ar} {L f0:List Int} {eu ev:Nat->Nat} {k' m m':Nat} {side:List Nat} {x:Nat->Int}
def su {α:Type} (l:List α) (f:α->Int):Int:=(l.map f).sum
section
variable {α β:Type}
theorem zl6 (f:α->Int):su [] f=0:=rfl
theorem zd1 (x:α) (l:List α) (f:α->Int):su (x :: l) f=f x+su l f:=by unfold su;simp
theorem zf7 (l m:List α) (f:α->Int):su (l++m) f=su l f+su m f:=by unfold su;simp
theorem zc8 (l:List β) (p:β->α) (f:α->Int):su (l.map p) f=su l λ x=>f (p x):=by unfold su;rw [wL];rfl
theorem zx0 {l:List α} {f g:α->Int} (h:∀ x∈l,f x=g x):su l f=su l g:=by unfold su;rw [wZ h]
theorem zwb (l:List β) (p:β->List α) (f:α->Int):su (l.flatMap p) f=su l λ x=>su (p x) f:=by
 induction l with
|nil=>rfl
|cons x r ih=>rw [wB,zf7,ih,zd1]
theorem zqc (l:List α):su l (λ _=>0)=0:=by
 induction l with
|nil=>rfl
|cons x r ih=>rw [zd1,ih];rfl
theorem su_zero' {l:List α} {f:α->Int} (h:∀ x∈l,f x=0):su l f=0:=by rw [zx0 h,zqc]
theorem zfh (l:List α) (f g:α->Int):su l (λ x=>f x+g x)=su l f+su l g:=by
 induction l with
|nil=>rfl
|cons x r ih=>rw [zd1,zd1,zd1,ih];lia
theorem zph (l:List α) (f g:α->Int):su l (λ x=>f x - g x)=su l f - su l g:=by
 induction l with
|nil=>rfl
|cons x r ih=>rw [zd1,zd1,zd1,ih];lia
theorem zf51 {l:List α} {f g:α->Int} (h:∀ x∈l,f x<=g x):su l f<=su l g:=by
 induction l with
|nil=>exact wQ _
|cons x r ih =>
  have a:=h x wR;have b:=ih λ y hy=>h y (v8 _ hy);rw [zd1,zd1];lia
theorem zud {n k:Nat} (d:Nat->Int) (h:k < n):su (u3 n) (λ j=>if j=k then d j else 0)=d k:=by
 have:=zf11 (j:=k) (d k) h;unfold sm at this;refine Eq.trans (zx0 λ j _=>?_) this;by_cases e:j=k
 ·subst e;simp
 ·simp [e]
end
theorem zvi {F:List Int} (h:F.length=A.length) (Φ:Nat->Nat->Int->Int->Prop):(∀ k,k < A.length->Φ (aU A k) (aV A k) (zfb A k) (fx F k)) ↔ ∀ p∈A.zip F,Φ p.1.1 p.1.2.1 p.1.2.2 p.2:=by
 rw [zcr h];constructor
 ·intro q p hp;obtain ⟨k,hk,rfl⟩:=vQ.mp hp;exact q k (u9.mp hk)
 ·intro q k hk;exact q _ (vQ.mpr ⟨k,u9.mpr hk,rfl⟩)
theorem znx {F:List Int} (h:F.length=A.length) (φ:Nat->Nat->Int->Int):(sm A.length λ k=>φ (aU A k) (aV A k) (fx F k))=su (A.zip F) λ p=>φ p.1.1 p.1.2.1 p.2:=by
 rw [zcr h,zc8];rfl
structure Nt where
 N:Nat
 n:Nat
 fl:Nat->Int
 rm:Nat->Int
 P:Nat->List Nat
 U:Nat->Nat
 V:Nat->Nat
 Ln:Nat->Nat
 W:Nat->Nat->Int
structure Fm where
 a:Nat->Int
 r:Nat->Nat->Int
 g:Nat->Nat->Int
 t:List (Nat->Int)
def Nt.nd (T:Nt) (m k:Nat):Nat:=2+m * T.N+k
noncomputable def Nt.arcs (T:Nt) (cs:List (Nat->Int)):List Ar :=
 (u3 T.N).map (λ k=>(0,T.nd 0 k,T.fl k))++((u3 T.n).flatMap λ m=>(u3 T.N).map (λ k=>(T.nd m k,T.nd (m+1) k,T.rm k))++(T.P m).map λ i=>(T.nd m (T.U i),T.nd (m+T.Ln i) (T.V i),T.W i m)) ++
  cs.flatMap λ c=>(u3 T.N).map λ k=>(T.nd T.n k,1,c k)
noncomputable def Nt.flow (T:Nt) (f:Fm):List Int :=
 (u3 T.N).map f.a++((u3 T.n).flatMap λ m=>(u3 T.N).map (f.r m)++(T.P m).map (f.g m))++f.t.flatMap λ t=>(u3 T.N).map t
noncomputable def Nt.both (T:Nt) (cs:List (Nat->Int)) (f:Fm):List (Ar×Int) :=
 (u3 T.N).map (λ k=>((0,T.nd 0 k,T.fl k),f.a k))++((u3 T.n).flatMap λ m=>(u3 T.N).map (λ k=>((T.nd m k,T.nd (m+1) k,T.rm k),f.r m k))++(T.P m).map λ i=>((T.nd m (T.U i),T.nd (m+T.Ln i) (T.V i),T.W i m),f.g m i)) ++
  (cs.zip f.t).flatMap λ c=>(u3 T.N).map λ k=>((T.nd T.n k,1,c.1 k),c.2 k)
section
variable {T:Nt} {cs:List (Nat->Int)} {f:Fm}
theorem zrn {α β γ:Type} {p:γ->List α} {q:γ->List β} (l:List γ) (h:∀ x,(p x).length=(q x).length):(l.flatMap p).length=(l.flatMap q).length:=by
 induction l with
|nil=>rfl
|cons x r ih=>simp only [wB,vK,ih,h]
theorem zxw {α β γ:Type} {p:γ->List α} {q:γ->List β} (l:List γ) (h:∀ x,(p x).length=(q x).length):(l.flatMap p).zip (l.flatMap q)=l.flatMap λ x=>(p x).zip (q x):=by
 induction l with
|nil=>rfl
|cons x r ih=>rw [wB,wB,wB,yL (h x),ih]
theorem zer (n:Nat) (e:(Nat->Int)->Nat->Ar):∀ (cs ts:List (Nat->Int)),cs.length=ts.length->(cs.flatMap λ c=>(u3 n).map (e c)).zip (ts.flatMap λ t=>(u3 n).map t)=(cs.zip ts).flatMap λ c=>(u3 n).map λ k=>(e c.1 k,c.2 k)
|[],[],_=>rfl
|c :: cs,t :: ts,h=>by
  rw [wB,wB,yL (by simp),zQ,wB,zer n e cs ts (by simpa using h),zR]
theorem zat (n:Nat) (e:(Nat->Int)->Nat->Ar):∀ (cs ts:List (Nat->Int)),cs.length=ts.length->(cs.flatMap λ c=>(u3 n).map (e c)).length=(ts.flatMap λ t=>(u3 n).map t).length
|[],[],_=>rfl
|c :: cs,t :: ts,h=>by
  rw [wB,wB,vK,vK,zat n e cs ts (by simpa using h)];simp
theorem Nt.len (h:cs.length=f.t.length):(T.flow f).length=(T.arcs cs).length:=by
 unfold Nt.flow Nt.arcs;rw [vK,vK,vK,vK,zat T.N _ cs f.t h];congr 1;congr 1
 ·simp
 ·exact zrn _ λ m=>by simp
theorem Nt.zip (h:cs.length=f.t.length):(T.arcs cs).zip (T.flow f)=T.both cs f:=by
 unfold Nt.flow Nt.arcs Nt.both;have l1:((u3 T.N).map λ k=>((0,T.nd 0 k,T.fl k):Ar)).length=((u3 T.N).map f.a).length:=by simp
 have l2:=zrn (p:=λ m=>(u3 T.N).map (λ k=>((T.nd m k,T.nd (m+1) k,T.rm k):Ar))++(T.P m).map λ i=>(T.nd m (T.U i),T.nd (m+T.Ln i) (T.V i),T.W i m)) (q:=λ m=>(u3 T.N).map (f.r m)++(T.P m).map (f.g m)) (u3 T.n) λ m=>by simp
 rw [yL (by rw [vK,vK,l1,l2]),yL l1,zer T.N _ cs f.t h,zR,zxw _ λ m=>by simp];congr 1;congr 1;refine congrArg (λ z=>List.flatMap z (u3 T.n)) (funext λ m=>?_);rw [yL (by simp),zR,zR]
theorem zzk {α:Type} [DecidableEq α] (d:Int):∀ (l:List α) (xs:List Int),l.Nodup->xs.length=l.length->∃ g:α->Int,l.map g=xs
|[],[],_,_=>⟨λ _=>d,rfl⟩
|a :: l,x :: xs,nd,h=>by
  obtain ⟨h1,h2⟩:=vX.mp nd;obtain ⟨g,e⟩:=zzk d l xs h2 (by simpa using h);refine ⟨λ b=>if b=a then x else g b,?_⟩;rw [vW,if_pos rfl,<- e];congr 1;exact wZ λ b hb=>if_neg λ (z:b=a)=>h1 (by rw [<- z];exact hb)
theorem zqf {β:Type} {q:β->Nat} (mk:Nat->List Int->β):∀ (n:Nat) (ln:Nat->Nat) (F:List Int),F.length=((u3 n).map ln).sum->∃ B:Nat->List Int,(∀ m,m < n->(B m).length=ln m)/\F=(u3 n).flatMap B
|0,ln,F,h=>⟨λ _=>[],λ m hm=>by lia,zI (by simpa using h)⟩
|n+1,ln,F,h=>by
  rw [w9,vY,yK] at h;simp at h;obtain ⟨B,h1,h2⟩:=zqf (q:=q) mk n ln (F.take ((u3 n).map ln).sum) (by rw [wM];lia);refine ⟨λ m=>if m=n then F.drop ((u3 n).map ln).sum else B m,λ m hm=>?_,?_⟩
  ·by_cases e:m=n
   ·subst e;simp only [if_true,xS];lia
   ·simp only [if_neg e];exact h1 m (by lia)
  ·rw [w9,zO];simp only [wB,xX,wJ,if_pos rfl,if_true];have:((u3 n).flatMap λ m=>if m=n then F.drop ((u3 n).map ln).sum else B m)=(u3 n).flatMap B:=by
    have:∀ l:List Nat,(∀ m∈l,m≠n)->(l.flatMap λ m=>if m=n then F.drop ((u3 n).map ln).sum else B m)=l.flatMap B:=by
     intro l
     induction l with
    |nil=>intro _;rfl
    |cons x r ih=>intro k;rw [wB,wB,ih λ m hm=>k m (by simp [hm]),if_neg (k x (by simp))]
    exact this _ λ m hm=>by have:=u9.mp hm;lia
   rw [this,<- h2,yM]
theorem zvj (n:Nat):∀ (c:Nat) (F:List Int),F.length=c * n->∃ ts:List (Nat->Int),ts.length=c/\F=ts.flatMap λ t=>(u3 n).map t
|0,F,h=>⟨[],rfl,zI (by simpa using h)⟩
|c+1,F,h=>by
  rw [yN] at h;obtain ⟨ts,h1,h2⟩:=zvj n c (F.drop n) (by rw [xS];lia);obtain ⟨g,hg⟩:=zzk 0 (u3 n) (F.take n) zS (by rw [wM,vV];lia);exact ⟨g :: ts,by simp [h1],by rw [wB,hg,<- h2,yM]⟩
theorem zwu {α β:Type} (p:β->List α) (l:List β):(l.flatMap p).length=(l.map λ x=>(p x).length).sum:=by
 induction l with
|nil=>rfl
|cons x r ih=>rw [wB,vK,ih,vW,zP]
theorem Nt.split (nd:∀ m,(T.P m).Nodup) {F:List Int} (h:F.length=(T.arcs cs).length):∃ f:Fm,cs.length=f.t.length/\F=T.flow f:=by
 unfold Nt.arcs at h;rw [vK,vK,u5,vV] at h;have e3:(cs.flatMap λ c=>(u3 T.N).map λ k=>((T.nd T.n k,1,c k):Ar)).length=cs.length * T.N:=by
  have:∀ l:List (Nat->Int),(l.flatMap λ c=>(u3 T.N).map λ k=>((T.nd T.n k,1,c k):Ar)).length=l.length * T.N:=by
   intro l
   induction l with
  |nil=>simp
  |cons c r ih=>rw [wB,vK,ih,wY,yN];simp;lia
  exact this cs
 rw [e3,zwu] at h;generalize hM:((u3 T.n).map λ m=>((u3 T.N).map (λ k=>((T.nd m k,T.nd (m+1) k,T.rm k):Ar))++(T.P m).map λ i=>(T.nd m (T.U i),T.nd (m+T.Ln i) (T.V i),T.W i m)).length).sum=M at h;obtain ⟨a,ha⟩:=zzk 0 (u3 T.N) (F.take T.N) zS (by rw [wM,vV];lia);obtain ⟨B,b1,b2⟩:=zqf (β:=Nat) (q:=id) (λ _ _=>0) T.n (λ m=>T.N+(T.P m).length) ((F.drop T.N).take M) (by
  rw [wM,xS,<- hM];have:((u3 T.n).map λ m=>((u3 T.N).map (λ k=>((T.nd m k,T.nd (m+1) k,T.rm k):Ar))++(T.P m).map λ i=>(T.nd m (T.U i),T.nd (m+T.Ln i) (T.V i),T.W i m)).length)=(u3 T.n).map λ m=>T.N+(T.P m).length:=wZ λ m _=>by simp
  rw [this] at hM ⊢;lia)
 obtain ⟨ts,t1,t2⟩:=zvj T.N cs.length (F.drop (T.N+M)) (by rw [xS];lia);have hr:∀ m,∃ g:Nat->Int,m < T.n->(u3 T.N).map g=(B m).take T.N:=λ m=>by
  by_cases e:m < T.n
  ·obtain ⟨g,hg⟩:=zzk 0 (u3 T.N) ((B m).take T.N) zS (by rw [wM,b1 m e,vV];lia);exact ⟨g,λ _=>hg⟩
  ·exact ⟨λ _=>0,λ z=>absurd z e⟩
 have hg:∀ m,∃ g:Nat->Int,m < T.n->(T.P m).map g=(B m).drop T.N:=λ m=>by
  by_cases e:m < T.n
  ·obtain ⟨g,hg⟩:=zzk 0 (T.P m) ((B m).drop T.N) (nd m) (by rw [xS,b1 m e];lia);exact ⟨g,λ _=>hg⟩
  ·exact ⟨λ _=>0,λ z=>absurd z e⟩
 obtain ⟨r,hr⟩:=Classical.axiomOfChoice hr;obtain ⟨g,hg⟩:=Classical.axiomOfChoice hg;refine ⟨⟨a,r,g,ts⟩,t1.symm,?_⟩;unfold Nt.flow;show F=(u3 T.N).map a++((u3 T.n).flatMap λ m=>(u3 T.N).map (r m)++(T.P m).map (g m))++ts.flatMap λ t=>(u3 T.N).map t;have e2:((u3 T.n).flatMap λ m=>(u3 T.N).map (r m)++(T.P m).map (g m))=(u3 T.n).flatMap B:=by
  have:∀ l:List Nat,(∀ m∈l,m < T.n)->(l.flatMap λ m=>(u3 T.N).map (r m)++(T.P m).map (g m))=l.flatMap B:=by
   intro l
   induction l with
  |nil=>intro _;rfl
  |cons x y ih=>intro k;rw [wB,wB,ih λ m hm=>k m (by simp [hm]),hr x (k x (by simp)),hg x (k x (by simp)),yM]
  exact this _ λ m hm=>u9.mp hm
 rw [e2,ha,<- b2,<- t2,wG,<- List.drop_drop];rw [yM,yM]
end
def Nt.inn (T:Nt) (f:Fm) (m k:Nat):Int:=su (u3 T.n) λ m'=>su (T.P m') λ i=>if m'+T.Ln i=m/\T.V i=k then f.g m' i else 0
def Nt.out (T:Nt) (f:Fm) (m k:Nat):Int:=if m < T.n then su (T.P m) λ i=>if T.U i=k then f.g m i else 0 else 0
structure Nt.Ok (T:Nt):Prop where
 nd:∀ m,(T.P m).Nodup
 ub:∀ m,∀ i∈T.P m,T.U i < T.N
 vb:∀ m,∀ i∈T.P m,T.V i < T.N
 ln:∀ m,∀ i∈T.P m,1<=T.Ln i/\m+T.Ln i<=T.n
section
variable {T:Nt} {cs:List (Nat->Int)} {f:Fm}
theorem Nt.nd_inj {k:Nat} (h:k < T.N) (h':k' < T.N) (e:T.nd m k=T.nd m' k'):m=m'/\k=k':=by
 unfold Nt.nd at e;rcases k7 m m' with z|z|z
 ·have:=yO T.N (show m+1<=m' from z);rw [yN] at this;lia
 ·subst z;exact ⟨rfl,by lia⟩
 ·have:=yO T.N (show m'+1<=m from z);rw [yN] at this;lia
theorem Nt.nd2 (m k:Nat):2<=T.nd m k:=by unfold Nt.nd;lia
theorem Nt.is_nd {w:Nat} (h2:2<=w) (hw:w < T.nd (T.n+1) 0):∃ m k,m<=T.n/\k < T.N/\w=T.nd m k:=by
 unfold Nt.nd at hw ⊢;have hN:0 < T.N:=by
  rcases j5 T.N with z|z
  ·rw [z] at hw;simp at hw;lia
  ·exact z
 refine ⟨(w - 2) / T.N,(w - 2) % T.N,?_,Nat.mod_lt _ hN,?_⟩
 ·exact Nat.le_of_lt_succ (Nat.div_lt_of_lt_mul (by rw [z8,Nat.succ_eq_add_one];lia))
 ·have:=Nat.div_add_mod (w - 2) T.N;rw [z8] at this;lia
theorem zxz {m'' k k'':Nat} (h:k < T.N) (h':k' < T.N) (h'':k'' < T.N) (x:Int):trm (T.nd m k) (T.nd m' k') x (T.nd m'' k'')=(if m'=m''/\k'=k'' then x else 0) - (if m=m''/\k=k'' then x else 0):=by
 unfold trm;congr 1
 ·by_cases e:m'=m''/\k'=k''
  ·obtain ⟨rfl,rfl⟩:=e;simp
  ·rw [if_neg e,if_neg λ z=>e (Nt.nd_inj h' h'' z)]
 ·by_cases e:m=m''/\k=k''
  ·obtain ⟨rfl,rfl⟩:=e;simp
  ·rw [if_neg e,if_neg λ z=>e (Nt.nd_inj h h'' z)]
theorem zri {N k:Nat} {c:Prop} [Decidable c] (d:Nat->Int) (h:k < N):su (u3 N) (λ j=>if c/\j=k then d j else 0)=if c then d k else 0:=by
 by_cases e:c
 ·rw [if_pos e,<- zud d h];exact zx0 λ j _=>by simp [e]
 ·rw [if_neg e];exact su_zero' λ j _=>by simp [e]
theorem Nt.bal (ok:T.Ok) (hl:cs.length=f.t.length) {k:Nat} (hm:m<=T.n) (hk:k < T.N):bl (T.arcs cs).length (aU (T.arcs cs)) (aV (T.arcs cs)) (fx (T.flow f)) (T.nd m k) =
  (if m=0 then f.a k else f.r (m - 1) k)+T.inn f m k - T.out f m k - (if m < T.n then f.r m k else su f.t λ t=>t k):=by
 unfold bl;rw [znx (Nt.len hl) λ u v x=>trm u v x (T.nd m k),Nt.zip hl];unfold Nt.both;rw [zf7,zf7,zc8,zwb,zwb];have p1:(su (u3 T.N) λ j=>trm 0 (T.nd 0 j) (f.a j) (T.nd m k))=if m=0 then f.a k else 0:=by
  rw [<- zri (c:=m=0) f.a hk];refine zx0 λ j hj=>?_;have hj:=u9.mp hj;unfold trm;have h2:=Nt.nd2 (T:=T) m k;rw [if_neg (show (0:Nat)≠T.nd m k by lia)];by_cases e:m=0/\j=k
  ·obtain ⟨rfl,rfl⟩:=e;simp
  ·rw [if_neg e,if_neg λ z=>e (by have:=Nt.nd_inj hj hk z;exact ⟨this.1.symm,this.2⟩)];rfl
 have p3:(su (cs.zip f.t) λ x=>su ((u3 T.N).map λ j=>(((T.nd T.n j,1,x.1 j):Ar),x.2 j)) λ p=>trm p.1.1 p.1.2.1 p.2 (T.nd m k))=- if m=T.n then su f.t (λ t=>t k) else 0:=by
  have e1:∀ x∈cs.zip f.t,(su ((u3 T.N).map λ j=>(((T.nd T.n j,1,x.1 j):Ar),x.2 j)) λ p=>trm p.1.1 p.1.2.1 p.2 (T.nd m k))=0 - if m=T.n then x.2 k else 0:=λ x _=>by
   rw [zc8,<- zri (c:=m=T.n) x.2 hk];refine Eq.trans (zx0 (g:=λ j=>0 - if m=T.n/\j=k then x.2 j else 0) λ j hj=>?_) (by rw [zph,zqc]);have hj:=u9.mp hj;unfold trm;have h2:=Nt.nd2 (T:=T) m k;show (if 1=T.nd m k then x.2 j else 0) - (if T.nd T.n j=T.nd m k then x.2 j else 0)=_;rw [if_neg (show (1:Nat)≠T.nd m k by lia)];by_cases e:m=T.n/\j=k
   ·obtain ⟨rfl,rfl⟩:=e;simp
   ·rw [if_neg e,if_neg λ z=>e (by have:=Nt.nd_inj hj hk z;exact ⟨this.1.symm,this.2⟩)]
  rw [zx0 e1,zph,zqc];have e2:(su (cs.zip f.t) λ x=>if m=T.n then x.2 k else 0)=if m=T.n then su f.t (λ t=>t k) else 0:=by
   by_cases e:m=T.n
   ·simp only [if_pos e];have:f.t=(cs.zip f.t).map (·.2):=by rw [j7 (by lia)]
    conv=>rhs;rw [this]
    rw [zc8]
   ·simp only [if_neg e];exact zqc _
  rw [e2];lia
 have p2:(su (u3 T.n) λ m'=>su ((u3 T.N).map (λ j=>(((T.nd m' j,T.nd (m'+1) j,T.rm j):Ar),f.r m' j))++(T.P m').map λ i=>((T.nd m' (T.U i),T.nd (m'+T.Ln i) (T.V i),T.W i m'),f.g m' i)) λ p=>trm p.1.1 p.1.2.1 p.2 (T.nd m k)) =
   (if m=0 then 0 else f.r (m - 1) k) - (if m < T.n then f.r m k else 0)+(T.inn f m k - T.out f m k):=by
  have e1:∀ m'∈u3 T.n,(su ((u3 T.N).map (λ j=>(((T.nd m' j,T.nd (m'+1) j,T.rm j):Ar),f.r m' j))++(T.P m').map λ i=>((T.nd m' (T.U i),T.nd (m'+T.Ln i) (T.V i),T.W i m'),f.g m' i)) λ p=>trm p.1.1 p.1.2.1 p.2 (T.nd m k)) =
    ((if m'+1=m then f.r m' k else 0) - (if m'=m then f.r m' k else 0))+((su (T.P m') λ i=>if m'+T.Ln i=m/\T.V i=k then f.g m' i else 0) - (if m'=m then su (T.P m') λ i=>if T.U i=k then f.g m' i else 0 else 0)):=λ m' _=>by
   rw [zf7,zc8,zc8];congr 1
   ·rw [<- zri (c:=m'+1=m) (f.r m') hk,<- zri (c:=m'=m) (f.r m') hk,<- zph];exact zx0 λ j hj=>zxz (u9.mp hj) (u9.mp hj) hk _
   ·have:(if m'=m then su (T.P m') λ i=>if T.U i=k then f.g m' i else 0 else 0)=su (T.P m') λ i=>if m'=m/\T.U i=k then f.g m' i else 0:=by
     by_cases e:m'=m
     ·rw [if_pos e];exact zx0 λ i _=>by simp [e]
     ·rw [if_neg e];exact (su_zero' λ i _=>by simp [e]).symm
    rw [this,<- zph];exact zx0 λ i hi=>zxz (ok.ub m' i hi) (ok.vb m' i hi) hk _
  rw [zx0 e1,zfh,zph,zph];congr 1
  ·congr 1
   ·by_cases e:m=0
    ·rw [if_pos e];exact su_zero' λ j _=>if_neg (by lia)
    ·rw [if_neg e,<- zud (λ j=>f.r j k) (show m - 1 < T.n by lia)];refine zx0 λ j _=>?_;by_cases z:j=m - 1
     ·rw [if_pos z,if_pos (by lia)]
     ·rw [if_neg z,if_neg (by lia)]
   ·by_cases e:m < T.n
    ·rw [if_pos e,<- zud (λ j=>f.r j k) e]
    ·rw [if_neg e];exact su_zero' λ j hj=>if_neg (by have:=u9.mp hj;lia)
  ·congr 1;unfold Nt.out;by_cases e:m < T.n
   ·rw [if_pos e,<- zud (λ j=>su (T.P j) λ i=>if T.U i=k then f.g j i else 0) e]
   ·rw [if_neg e];exact su_zero' λ j hj=>if_neg (by have:=u9.mp hj;lia)
 rw [p1,p2,p3];have h3:¬ m < T.n ↔ m=T.n:=by lia
 by_cases e:m=0
 ·rw [if_pos e,if_pos e,if_pos e];by_cases z:m < T.n
  ·rw [if_pos z,if_pos z,if_neg (by lia)];lia
  ·rw [if_neg z,if_neg z,if_pos (by lia)];lia
 ·rw [if_neg e,if_neg e,if_neg e];by_cases z:m < T.n
  ·rw [if_pos z,if_pos z,if_neg (by lia)];lia
  ·rw [if_neg z,if_neg z,if_pos (by lia)];lia
theorem Nt.worth (hl:cs.length=f.t.length):bl (T.arcs cs).length (aU (T.arcs cs)) (aV (T.arcs cs)) (fx (T.flow f)) 0=- su (u3 T.N) f.a:=by
 unfold bl;rw [znx (Nt.len hl) λ u v x=>trm u v x 0,Nt.zip hl];unfold Nt.both;rw [zf7,zf7,zc8,zwb,zwb];have z:∀ u v x,2<=u->1<=v->trm u v x 0=0:=λ u v x h1 h2=>by
  unfold trm;rw [if_neg (by lia),if_neg (by lia)];rfl
 rw [su_zero' (l:=u3 T.n) λ m _=>?_,su_zero' (l:=cs.zip f.t) λ x _=>?_,zx0 (g:=λ k=>0 - f.a k) λ k _=>?_,zph,zqc]
 ·lia
 ·have h2:=Nt.nd2 (T:=T) 0 k;unfold trm;show (if T.nd 0 k=0 then f.a k else 0) - (if 0=0 then f.a k else 0)=_;rw [if_neg (by lia),if_pos rfl]
 ·rw [zc8];exact su_zero' λ k _=>z _ _ _ (Nt.nd2 _ _) (by show 1<=1;lia)
 ·rw [zf7,zc8,zc8,su_zero' λ k _=>z _ _ _ (Nt.nd2 _ _) (by have:=Nt.nd2 (T:=T) (m+1) k;show 1<=T.nd (m+1) k;lia),su_zero' λ i _=>z _ _ _ (Nt.nd2 _ _) (by have:=Nt.nd2 (T:=T) (m+T.Ln i) (T.V i);show 1<=T.nd (m+T.Ln i) (T.V i);lia)];rfl
structure Nt.Fl (T:Nt) (cs:List (Nat->Int)) (f:Fm):Prop where
 t:cs.length=f.t.length
 a:∀ k,k < T.N->0<=f.a k/\f.a k<=T.fl k
 r:∀ m k,m < T.n->k < T.N->0<=f.r m k/\f.r m k<=T.rm k
 g:∀ m i,m < T.n->i∈T.P m->0<=f.g m i/\f.g m i<=T.W i m
 s:∀ c∈cs.zip f.t,∀ k,k < T.N->0<=c.2 k/\c.2 k<=c.1 k
 b:∀ m k,m<=T.n->k < T.N->(if m=0 then f.a k else f.r (m - 1) k)+T.inn f m k=T.out f m k+(if m < T.n then f.r m k else su f.t λ t=>t k)
theorem Nt.both_iff (hl:cs.length=f.t.length) (Φ:Nat->Nat->Int->Int->Prop):(∀ p∈T.both cs f,Φ p.1.1 p.1.2.1 p.1.2.2 p.2) ↔ (∀ k,k < T.N->Φ 0 (T.nd 0 k) (T.fl k) (f.a k))/\(∀ m k,m < T.n->k < T.N->Φ (T.nd m k) (T.nd (m+1) k) (T.rm k) (f.r m k)) /\
  (∀ m i,m < T.n->i∈T.P m->Φ (T.nd m (T.U i)) (T.nd (m+T.Ln i) (T.V i)) (T.W i m) (f.g m i))/\∀ c∈cs.zip f.t,∀ k,k < T.N->Φ (T.nd T.n k) 1 (c.1 k) (c.2 k):=by
 constructor
 ·intro h;unfold Nt.both at h;refine ⟨λ k hk=>?_,λ m k hm hk=>?_,λ m i hm hi=>?_,λ c hc k hk=>?_⟩
  ·exact h _ (xG _ (xG _ (vQ.mpr ⟨k,u9.mpr hk,rfl⟩)))
  ·exact h _ (xG _ (wX _ (xW.mpr ⟨m,u9.mpr hm,xG _ (vQ.mpr ⟨k,u9.mpr hk,rfl⟩)⟩)))
  ·exact h _ (xG _ (wX _ (xW.mpr ⟨m,u9.mpr hm,wX _ (vQ.mpr ⟨i,hi,rfl⟩)⟩)))
  ·exact h _ (wX _ (xW.mpr ⟨c,hc,vQ.mpr ⟨k,u9.mpr hk,rfl⟩⟩))
 ·rintro ⟨h1,h2,h3,h4⟩ p hp;unfold Nt.both at hp;rcases vJ.mp hp with hp|hp
  ·rcases vJ.mp hp with hp|hp
   ·obtain ⟨k,hk,rfl⟩:=vQ.mp hp;exact h1 k (u9.mp hk)
   ·obtain ⟨m,hm,hp⟩:=xW.mp hp;have hm:=u9.mp hm;rcases vJ.mp hp with hp|hp
    ·obtain ⟨k,hk,rfl⟩:=vQ.mp hp;exact h2 m k hm (u9.mp hk)
    ·obtain ⟨i,hi,rfl⟩:=vQ.mp hp;exact h3 m i hm hi
  ·obtain ⟨c,hc,hp⟩:=xW.mp hp;obtain ⟨k,hk,rfl⟩:=vQ.mp hp;exact h4 c hc k (u9.mp hk)
theorem Nt.Fl.within (h:T.Fl cs f):within (T.arcs cs).length (zfb (T.arcs cs)) (fx (T.flow f)):=by
 refine (zvi (Nt.len h.t) λ _ _ c x=>0<=x/\x<=c).mpr ?_;rw [Nt.zip h.t];exact (Nt.both_iff h.t λ _ _ c x=>0<=x/\x<=c).mpr ⟨h.a,h.r,h.g,h.s⟩
theorem Nt.Fl.bal (ok:T.Ok) (h:T.Fl cs f) {w:Nat} (h2:2<=w) (hw:w < T.nd (T.n+1) 0):bl (T.arcs cs).length (aU (T.arcs cs)) (aV (T.arcs cs)) (fx (T.flow f)) w=0:=by
 obtain ⟨m,k,hm,hk,rfl⟩:=Nt.is_nd h2 hw;have:=h.b m k hm hk;rw [Nt.bal ok h.t hm hk];lia
theorem Nt.Fl.of (ok:T.Ok) (ht:cs.length=f.t.length) (hw:_5.within (T.arcs cs).length (zfb (T.arcs cs)) (fx (T.flow f))) (hb:∀ w,w≠0->w≠1->bl (T.arcs cs).length (aU (T.arcs cs)) (aV (T.arcs cs)) (fx (T.flow f)) w=0):T.Fl cs f:=by
 have:=(zvi (Nt.len ht) λ _ _ c x=>0<=x/\x<=c).mp hw;rw [Nt.zip ht] at this;obtain ⟨h1,h2,h3,h4⟩:=(Nt.both_iff ht λ _ _ c x=>0<=x/\x<=c).mp this;refine ⟨ht,h1,h2,h3,h4,λ m k hm hk=>?_⟩;have h2:=Nt.nd2 (T:=T) m k;have:=hb (T.nd m k) (by lia) (by lia);rw [Nt.bal ok ht hm hk] at this;lia
theorem bl_flux' {s:Nat} (nd:side.Nodup) (hs:s∈side) (h:∀ w∈side,w≠s->bl m eu ev x w=0):bl m eu ev x s=flux m eu ev x side:=by
 rw [zsd m eu ev x nd,zgm nd hs h]
theorem zg81 {y:Nat->Int} (h:∀ k,k < m->x k=y k) (w:Nat):bl m eu ev x w=bl m eu ev y w:=zi5 λ k hk=>by show trm _ _ (x k) w=trm _ _ (y k) w;rw [h k hk]
theorem zsk {k:Nat} (h:k < m):fx ((u3 m).map x) k=x k:=by
 unfold fx;rw [u8,xM h];rfl
theorem Nt.best (ok:T.Ok) {c:Nat} (b:Best c (T.arcs cs) f0 0 1 L side) (hb:∀ v,v≠0->v≠1->_5.bal (T.arcs cs).length (zi6 (T.arcs cs)) L v=0) :
  ∃ f,T.Fl cs f/\(u3 (T.arcs cs).length).map (λ k=>lf L (2 * k+1))=T.flow f:=by
 obtain ⟨f,ht,e⟩:=Nt.split (cs:=cs) ok.nd (F:=(u3 (T.arcs cs).length).map (λ k=>lf L (2 * k+1))) (by simp);have ex:∀ k,k < (T.arcs cs).length->fx (T.flow f) k=lf L (2 * k+1):=λ k hk=>by rw [<- e,zsk hk]
 refine ⟨f,Nt.Fl.of ok ht (λ k hk=>by rw [ex k hk];exact b.within k hk) λ w h1 h2=>?_,e⟩;rw [zg81 ex];have:=hb w h1 h2;rw [ziv] at this;exact this
theorem Nt.most (ok:T.Ok) (b:Best (T.nd (T.n+1) 0) (T.arcs cs) f0 0 1 L side) (h:T.Fl cs f) (e:(u3 (T.arcs cs).length).map (λ k=>lf L (2 * k+1))=T.flow f) {f':Fm} (h':T.Fl cs f'):su (u3 T.N) f'.a<=su (u3 T.N) f.a:=by
 have ex:∀ k,k < (T.arcs cs).length->lf L (2 * k+1)=fx (T.flow f) k:=λ k hk=>by rw [<- e,zsk hk]
 have tg:tight (T.arcs cs).length (aU (T.arcs cs)) (aV (T.arcs cs)) (zfb (T.arcs cs)) (fx (T.flow f)) side:=λ k hk=>by rw [<- ex k hk];exact b.tight k hk
 have l:=zir tg h'.within;have go:∀ {g:Fm},T.Fl cs g->bl (T.arcs cs).length (aU (T.arcs cs)) (aV (T.arcs cs)) (fx (T.flow g)) 0=flux (T.arcs cs).length (aU (T.arcs cs)) (aV (T.arcs cs)) (fx (T.flow g)) side:=λ {g} hg =>
  bl_flux' (znd b.ris) b.inn λ w hw hn=>hg.bal ok (by
   rcases wP w 2 with z|z
   ·have:w=1:=by lia
    exact absurd (this ▸ hw) b.out
   ·exact z) (b.bd w hw)
 rw [<- go h,<- go h',Nt.worth h.t,Nt.worth h'.t] at l;lia
end
theorem zpt {c:Nat} (g:Nat->Int):∀ {l:List Nat},l.Nodup->(∀ x∈l,x < c)->su (u3 c) (λ i=>if i∈l then g i else 0)=su l g
|[],_,_=>by rw [zl6];exact su_zero' λ i _=>by simp
|x :: l,nd,h=>by
  obtain ⟨h1,h2⟩:=vX.mp nd;rw [zd1,<- zpt g h2 λ y hy=>h y (v8 _ hy),<- zud g (h x wR),<- zfh];refine zx0 λ i _=>?_;by_cases e:i=x
  ·subst e;simp [h1]
  ·simp [e]
theorem su_sub' {c:Nat} {g:Nat->Int} (hg:∀ i,i < c->0<=g i) {l:List Nat} (nd:l.Nodup) (h:∀ x∈l,x < c):su l g<=su (u3 c) g:=by
 rw [<- zpt g nd h];refine zf51 λ i hi=>?_;have:=hg i (u9.mp hi);split <;> lia
structure Nt.Lk (T:Nt) (cs:List (Nat->Int)) (f:Fm):Prop where
 t:cs.length=f.t.length
 a:∀ k,k < T.N->0<=f.a k/\f.a k<=T.fl k
 r:∀ m k,m < T.n->k < T.N->0<=f.r m k/\f.r m k<=T.rm k
 g:∀ m i,m < T.n->i∈T.P m->0<=f.g m i/\f.g m i<=T.W i m
 s:∀ c∈cs.zip f.t,∀ k,k < T.N->0<=c.2 k/\c.2 k<=c.1 k
 b:∀ m k,m<=T.n->k < T.N->T.out f m k+(if m < T.n then f.r m k else su f.t λ t=>t k)<=(if m=0 then f.a k else f.r (m - 1) k)+T.inn f m k
section
variable {T:Nt} {cs:List (Nat->Int)} {f:Fm}
theorem Nt.Lk.within (h:T.Lk cs f):within (T.arcs cs).length (zfb (T.arcs cs)) (fx (T.flow f)):=by
 refine (zvi (Nt.len h.t) λ _ _ c x=>0<=x/\x<=c).mpr ?_;rw [Nt.zip h.t];exact (Nt.both_iff h.t λ _ _ c x=>0<=x/\x<=c).mpr ⟨h.a,h.r,h.g,h.s⟩
theorem Nt.Lk.bal (ok:T.Ok) (h:T.Lk cs f) {w:Nat} (h2:2<=w) (hw:w < T.nd (T.n+1) 0):0<=bl (T.arcs cs).length (aU (T.arcs cs)) (aV (T.arcs cs)) (fx (T.flow f)) w:=by
 obtain ⟨m,k,hm,hk,rfl⟩:=Nt.is_nd h2 hw;have:=h.b m k hm hk;rw [Nt.bal ok h.t hm hk];lia
theorem Nt.nd_lt {k:Nat} (hm:m<=T.n) (hk:k < T.N):T.nd m k < T.nd (T.n+1) 0:=by
 unfold Nt.nd;have:=yO T.N (show m+1<=T.n+1 by lia);rw [yN] at this;lia
theorem Nt.sink (hl:cs.length=f.t.length):bl (T.arcs cs).length (aU (T.arcs cs)) (aV (T.arcs cs)) (fx (T.flow f)) 1=su (u3 T.N) λ k=>su f.t λ t=>t k:=by
 unfold bl;rw [znx (Nt.len hl) λ u v x=>trm u v x 1,Nt.zip hl];unfold Nt.both;rw [zf7,zf7,zc8,zwb,zwb];have z:∀ u v x,u≠1->v≠1->trm u v x 1=0:=λ u v x h1 h2=>by
  unfold trm;rw [if_neg h2,if_neg h1];rfl
 have n1:∀ m k,T.nd m k≠1:=λ m k=>by have:=Nt.nd2 (T:=T) m k;lia
 rw [su_zero' (l:=u3 T.N) λ k _=>z _ _ _ (by show (0:Nat)≠1;lia) (n1 _ _),su_zero' (l:=u3 T.n) λ m _=>?_]
 ·have e:∀ c∈cs.zip f.t,(su ((u3 T.N).map λ k=>(((T.nd T.n k,1,c.1 k):Ar),c.2 k)) λ p=>trm p.1.1 p.1.2.1 p.2 1)=su (u3 T.N) c.2:=λ c _=>by
   rw [zc8];refine zx0 λ k _=>?_;show (if 1=1 then c.2 k else 0) - (if T.nd T.n k=1 then c.2 k else 0)=_;rw [if_pos rfl,if_neg (n1 _ _)];lia
  rw [zx0 e];have e2:(su (cs.zip f.t) λ c=>su (u3 T.N) c.2)=su f.t λ t=>su (u3 T.N) t:=by
   have:f.t=(cs.zip f.t).map (·.2):=by rw [j7 (by lia)]
   conv=>rhs;rw [this]
   rw [zc8]
  rw [e2];have sw:∀ l:List (Nat->Int),(su l λ t=>su (u3 T.N) t)=su (u3 T.N) λ k=>su l λ t=>t k:=by
   intro l
   induction l with
  |nil=>rw [zl6];exact (su_zero' λ _ _=>rfl).symm
  |cons t r ih=>rw [zd1,ih,<- zfh];exact zx0 λ k _=>(zd1 t r λ t=>t k).symm
  rw [sw];lia
 ·rw [zf7,zc8,zc8,su_zero' λ k _=>z _ _ _ (n1 _ _) (n1 _ _),su_zero' λ i _=>z _ _ _ (n1 _ _) (n1 _ _)];rfl
theorem Nt.ends (ok:T.Ok) (hl:cs.length=f.t.length):∀ k,k < (T.arcs cs).length->aU (T.arcs cs) k < T.nd (T.n+1) 0/\aV (T.arcs cs) k < T.nd (T.n+1) 0:=by
 have h2:=Nt.nd2 (T:=T) (T.n+1) 0;refine (zvi (Nt.len hl) λ u v _ _=>u < T.nd (T.n+1) 0/\v < T.nd (T.n+1) 0).mpr ?_;rw [Nt.zip hl];exact (Nt.both_iff hl λ u v _ _=>u < T.nd (T.n+1) 0/\v < T.nd (T.n+1) 0).mpr ⟨λ k hk=>⟨by lia,Nt.nd_lt (by lia) hk⟩,λ m k hm hk=>⟨Nt.nd_lt (by lia) hk,Nt.nd_lt (by lia) hk⟩,λ m i hm hi=>⟨Nt.nd_lt (by lia) (ok.ub m i hi),Nt.nd_lt (ok.ln m i hi).2 (ok.vb m i hi)⟩,λ c _ k hk=>⟨Nt.nd_lt (u6 _) hk,by lia⟩⟩
theorem Nt.total (ok:T.Ok) (hl:cs.length=f.t.length):su ((u3 (T.nd (T.n+1) 0)).filter λ w=>decide (2<=w)) (bl (T.arcs cs).length (aU (T.arcs cs)) (aV (T.arcs cs)) (fx (T.flow f)))=su (u3 T.N) f.a - su (u3 T.N) λ k=>su f.t λ t=>t k:=by
 have h2:=Nt.nd2 (T:=T) (T.n+1) 0;have z:flux (T.arcs cs).length (aU (T.arcs cs)) (aV (T.arcs cs)) (fx (T.flow f)) (u3 (T.nd (T.n+1) 0))=0:=by
  unfold flux;rw [zi5 (h:=λ _=>0) λ k hk=>?_,zic];obtain ⟨e1,e2⟩:=Nt.ends ok hl k hk;rw [if_pos (u9.mpr e1),if_pos (u9.mpr e2)];lia
 rw [zsd _ _ _ _ zS] at z;have z:su (u3 (T.nd (T.n+1) 0)) (bl (T.arcs cs).length (aU (T.arcs cs)) (aV (T.arcs cs)) (fx (T.flow f)))=0:=z;have e:u3 (T.nd (T.n+1) 0)=0 :: 1 :: (u3 (T.nd (T.n+1) 0)).filter λ w=>decide (2<=w):=by
  obtain ⟨d,hd⟩:=Nat.exists_eq_add_of_le' h2;rw [hd,uaS,uaS];simp;rw [List.filter_map];congr 1;rw [List.filter_eq_self.mpr λ x _=>by simp]
 rw [e,zd1,zd1,Nt.worth hl,Nt.sink hl] at z;lia
theorem Nt.Fl.total (ok:T.Ok) (h:T.Fl cs f):su (u3 T.N) f.a=su (u3 T.N) λ k=>su f.t λ t=>t k:=by
 have:=Nt.total (cs:=cs) (f:=f) ok h.t;rw [su_zero' λ w hw=>?_] at this
 ·lia
 obtain ⟨h1,h2⟩:=zW.mp hw;exact h.bal ok (of_decide_eq_true h2) (u9.mp h1)
theorem Nt.leak (ok:T.Ok) (h:T.Fl cs f) (tg:tight (T.arcs cs).length (aU (T.arcs cs)) (aV (T.arcs cs)) (zfb (T.arcs cs)) (fx (T.flow f)) side) (h0:0∈side) (h1:1 ∉ side) (hb:∀ v∈side,v < T.nd (T.n+1) 0) (nd:side.Nodup) {f':Fm} (h':T.Lk cs f') :
  (su (u3 T.N) λ k=>su f'.t λ t=>t k)<=su (u3 T.N) f.a:=by
 have l:=zir tg h'.within;have two:∀ w∈side,w≠0->2<=w:=λ w hw hn=>by
  rcases wP w 2 with z|z
  ·have:w=1:=by lia
   exact absurd (this ▸ hw) h1
  ·exact z
 rw [<- bl_flux' nd h0 λ w hw hn=>h.bal ok (two w hw hn) (hb w hw),Nt.worth h.t,zsd _ _ _ _ nd] at l;have tot:=Nt.total (cs:=cs) (f:=f') ok h'.t;have w0:=Nt.worth (T:=T) (cs:=cs) (f:=f') h'.t;have sp:(side.map (bl (T.arcs cs).length (aU (T.arcs cs)) (aV (T.arcs cs)) (fx (T.flow f')))).sum<=- su (u3 T.N) f'.a+su ((u3 (T.nd (T.n+1) 0)).filter λ w=>decide (2<=w)) (bl (T.arcs cs).length (aU (T.arcs cs)) (aV (T.arcs cs)) (fx (T.flow f'))):=by
  have e1:(side.map (bl (T.arcs cs).length (aU (T.arcs cs)) (aV (T.arcs cs)) (fx (T.flow f')))).sum=su side (λ w=>(if w=0 then bl (T.arcs cs).length (aU (T.arcs cs)) (aV (T.arcs cs)) (fx (T.flow f')) 0 else 0))+su side λ w=>if 2<=w then bl (T.arcs cs).length (aU (T.arcs cs)) (aV (T.arcs cs)) (fx (T.flow f')) w else 0:=by
   rw [<- zfh];refine zx0 λ w hw=>?_;by_cases z:w=0
   ·subst z;simp
   ·rw [if_neg z,if_pos (two w hw z)];lia
  have e2:su side (λ w=>(if w=0 then bl (T.arcs cs).length (aU (T.arcs cs)) (aV (T.arcs cs)) (fx (T.flow f')) 0 else 0))=- su (u3 T.N) f'.a:=by
   have:=zgm (g:=λ w=>(if w=0 then bl (T.arcs cs).length (aU (T.arcs cs)) (aV (T.arcs cs)) (fx (T.flow f')) 0 else 0)) nd h0 λ w _ hn=>if_neg hn;unfold su;rw [this,if_pos rfl];exact w0
  have e3:(su side λ w=>if 2<=w then bl (T.arcs cs).length (aU (T.arcs cs)) (aV (T.arcs cs)) (fx (T.flow f')) w else 0)<=su (u3 (T.nd (T.n+1) 0)) λ w=>if 2<=w then bl (T.arcs cs).length (aU (T.arcs cs)) (aV (T.arcs cs)) (fx (T.flow f')) w else 0:=su_sub' (λ w hw=>by
   by_cases z:2<=w
   ·rw [if_pos z];exact h'.bal ok z hw
   ·rw [if_neg z];exact wQ _) nd hb
  have e4:(su (u3 (T.nd (T.n+1) 0)) λ w=>if 2<=w then bl (T.arcs cs).length (aU (T.arcs cs)) (aV (T.arcs cs)) (fx (T.flow f')) w else 0)=su ((u3 (T.nd (T.n+1) 0)).filter λ w=>decide (2<=w)) (bl (T.arcs cs).length (aU (T.arcs cs)) (aV (T.arcs cs)) (fx (T.flow f'))):=by
   have:∀ l:List Nat,(su l λ w=>if 2<=w then bl (T.arcs cs).length (aU (T.arcs cs)) (aV (T.arcs cs)) (fx (T.flow f')) w else 0)=su (l.filter λ w=>decide (2<=w)) (bl (T.arcs cs).length (aU (T.arcs cs)) (aV (T.arcs cs)) (fx (T.flow f'))):=by
    intro l
    induction l with
   |nil=>rfl
   |cons x r ih =>
     rw [zd1,List.filter_cons,ih];by_cases z:2<=x
     ·rw [if_pos z,if_pos (decide_eq_true z),zd1]
     ·rw [if_neg z,if_neg (by simpa using z)];lia
   exact this _
  rw [e1,e2];lia
 lia
end
structure Nt.Val (T:Nt) (c:Nat->Int) (M:Int):Prop where
 ex:∃ f t,T.Fl [c] f/\f.t=[t]/\su (u3 T.N) t=M
 mx:∀ f t,T.Lk [c] f->f.t=[t]->su (u3 T.N) t<=M
section
variable {T:Nt} {c c':Nat->Int} {M M':Int}
theorem zgc1 {f:Fm} {t:Nat->Int} (h:f.t=[t]):(su (u3 T.N) λ k=>su f.t λ t=>t k)=su (u3 T.N) t:=by
 rw [h];exact zx0 λ k _=>by rw [zd1,zl6];lia
theorem Nt.val (ok:T.Ok) {f:Fm} {t:Nat->Int} (b:Best (T.nd (T.n+1) 0) (T.arcs [c]) f0 0 1 L side) (h:T.Fl [c] f) (e:(u3 (T.arcs [c]).length).map (λ k=>lf L (2 * k+1))=T.flow f) (ht:f.t=[t]):T.Val c (su (u3 T.N) t):=by
 have ex:∀ k,k < (T.arcs [c]).length->lf L (2 * k+1)=fx (T.flow f) k:=λ k hk=>by rw [<- e,zsk hk]
 have tg:tight (T.arcs [c]).length (aU (T.arcs [c])) (aV (T.arcs [c])) (zfb (T.arcs [c])) (fx (T.flow f)) side:=λ k hk=>by rw [<- ex k hk];exact b.tight k hk
 refine ⟨⟨f,t,h,ht,rfl⟩,λ f' t' h' ht'=>?_⟩;have l:=Nt.leak ok h tg b.inn b.out b.bd (znd b.ris) h';rw [h.total ok,zgc1 ht,zgc1 ht'] at l;exact l
theorem Nt.Val.le (v:T.Val c M):M<=su (u3 T.N) c:=by
 obtain ⟨f,t,h,ht,rfl⟩:=v.ex;refine zf51 λ k hk=>(h.s (c,t) (by rw [ht];simp) k (u9.mp hk)).2
end
end _5
namespace _3
open PySem PySem.W PySem.Spec PyProof.Rows _2 _5
variable {ep:Nat} {es:Array DictEntry} {od:Obj}
section
variable {w:World} {prog:Program}
theorem zvl {A:Around} {it d:Addr} (hh:A.handled=none) (ne:d≠it) (gd:od.data=.dict es ep) :
  PySem.Walks prog w A it [it,d] [it] es.size (λ i v=>∃ e,es[i]?=some e/\v=e.key) (λ i h=>h.IsKeyIter it d i es.size ep/\h.get? d=some od) where
 sub:=by simp
 frame:=λ i h h' ⟨⟨io,g1,g2,g3⟩,hd⟩ k=>⟨⟨io,k _ (by simp) _ g1,g2,g3⟩,k _ (by simp) _ hd⟩
 item:=λ i s Q E hi ⟨S,hm⟩ hQ=>zoi hh S hm gd (λ lt h' S' sb=>hQ _ h' s.toks ⟨_,zJ lt,rfl⟩ ⟨S',sb.extBut d od ne hm⟩ λ b o nb z=>sb.extBut b o (by simpa using nb) z) λ ge=>absurd hi (Nat.not_lt.mpr ge)
 done:=λ s Q E ⟨S,hm⟩ hQ=>zoi hh S hm gd (λ lt=>absurd lt (wW _)) λ _ h' eb=>hQ h' s.toks λ b o nb z=>eb b o (by simpa using nb) z
 self:=λ i s Q E S h=>wpAny_pyIter_keyiter S.1 h
theorem zmx {d:Addr} (gc:od.cls=.type "dict") (gd:od.data=.dict es ep) (lo:(d == sysModules)=false) :
  KdlSrc prog w "dict" d d es.size (λ i v=>∃ e,es[i]?=some e/\v=e.key) (λ h=>h.get? d=some od) where
 type:=λ _ hm=>⟨od,hm,gc⟩
 there:=λ _ hm=>⟨vO hm,vO hm⟩
 keep:=λ _ _ hm hk=>hk d (.inl rfl) _ hm
 notList:=by decide
 notTuple:=by decide
 hint:=λ _ _ _ _ hm hq=>kdl_hint_dict ⟨od,hm,gc⟩ hq
 iter:=λ A s hh hm=>⟨_,_,(λ _ _ hq=>zmp hm gc gd lo hq),zvl hh (wC (vO hm)) gd,⟨⟨_,v4 _ rfl,rfl,rfl⟩,vM _ hm⟩⟩
end
noncomputable def zuz (H:Hp) (rows:List (List Int)) (bs:List Addr):Prop:=bs.length=rows.length/\∀ (i:Nat) b r,bs[i]?=some b->rows[i]?=some r->H b=some (.tup (r.map V.int))
noncomputable def zy31 (K:Fg):List V->Hp->VK->Prop:=λ vs H Q=>∃ (a:Addr) (kvs:List (List Key×V)) (rows:List (List Int)),vs=[.ref a]/\H a=some (.dT kvs)/\kvs.map (·.1)=rows.map (v6 v7)/\(∀ r∈rows,r≠[])/\rows.length < 64 /\
 ∀ bs,zuz H rows bs->∀ p:List Nat,zk81 rows p->∀ l,H l=none->Q (.ref l) (upd H l (.lst (p.map λ i=>.ref (bs.getD i 0))))
theorem zs11 {H:Hp} {kvs:List (List Key×V)} {xs:List (List Key×Addr×Value)} (h:KT H kvs xs):kvs.length=xs.length:=h.length
theorem ziz (r:List Int):(r.map v7).map kV=r.map V.int:=by rw [wL];rfl
theorem zvf {h:Heap}:∀ {vs:List Value} {rows:List (List Int)},vs.length=rows.length->(∀ (i:Nat) v r,vs[i]?=some v->rows[i]?=some r->∃ b o its k,v=.ref b/\h.get? b=some o/\o.cls=.type "tuple"/\o.data=.seq its k/\IntsAre its.toList r/\r≠[])->TupRows h vs rows
|[],[],_,_=>.nil
|[],_ :: _,e,_=>by simp at e
|_ :: _,[],e,_=>by simp at e
|v :: vs,r :: rows,e,q=>.cons (q 0 v r rfl rfl) (zvf (by simpa using e) λ i v r a b=>q (i+1) v r (by simpa using a) (by simpa using b))
theorem zno {X:Cx} {K:Fg} (h:X.K=K) (hc:X.calm=true):CallR X (.builtin "sorted") (zy31 K):=by
 subst h;intro pins s Y H xs us Q I r h;obtain ⟨a,kvs,rows,rfl,hx,hk,hn,hz,q⟩:=h;obtain ⟨u,rfl,r1⟩:=zup r;cases r1;obtain ⟨z,lo,xs,r,od,es,ep,h1,h2,h3,h4,h5⟩:=(show ObjOk X.prog X.w H s.heap a (.dT kvs) from I.hok a _ hx)
 have hes:es.size=xs.length:=by rw [<- wT,h4,u5]
 have hkr:kvs.length=rows.length:=by simpa using congrArg zD hk
 have hlen:es.size=rows.length:=by rw [hes,<- hkr];exact (zs11 r).symm
 have hat:∀ (i:Nat) (rr:List Int),rows[i]?=some rr->∃ b u,xs[i]?=some (rr.map v7,b,u)/\H b=some (.tup (rr.map V.int)):=λ i rr e=>by
  have e1:(kvs.map (·.1))[i]?=some (rr.map v7):=by rw [hk,u8,e];rfl
  rw [u8] at e1;obtain ⟨⟨k,v⟩,e2,e3⟩:=wO.mp e1;dsimp only at e3;subst e3;obtain ⟨b,u,g1,g2,_⟩:=zxy r e2;exact ⟨b,u,g1,by rw [<- ziz];exact g2⟩
 refine Calls.call_function_entry kind_sorted plain_sorted entry_sorted (args_sorted1 _) ?_;unfold Builtin.«sorted»;refine wpAny_bind (m:=checkCount "sorted" 1 1 _) (wpAny_pure ?_);refine wpAny_bind (PySem.W.kdu_collect (A:=X.A.in1) (zmx h2.1 h3 lo) (I.ok.hd hc) h1 (by rw [sizeLine_eq];lia) λ h' tk acc hk' hacc=>?_);have hl:acc.toList.length=rows.length:=by rw [wT,<- hlen];exact hacc.1
 have I2:=I.kept (t':=tk) hk';have hkey:∀ (i:Nat) v rr,acc.toList[i]?=some v->rows[i]?=some rr->∃ b u,xs[i]?=some (rr.map v7,b,u)/\v=.ref b/\H b=some (.tup (rr.map V.int)):=λ i v rr e1 e2=>by
  obtain ⟨b,u,g1,g2⟩:=hat i rr e2;obtain ⟨e,e3,e4⟩:=hacc.2 i v (by rw [<- yA];exact e1);have e5:es.toList[i]?=some (entryOfKey (tupleKind (zq1 X.prog X.w)) (rr.map v7,b,u)):=by rw [h4,u8,g1];rfl
  rw [yA,e3] at e5;cases e5;exact ⟨b,u,g1,e4,g2⟩
 have hT:TupRows h' acc.toList rows:=zvf hl λ i v rr e1 e2=>by
  obtain ⟨b,u,_,e4,g2⟩:=hkey i v rr e1 e2;obtain ⟨_,its,rv,o,k1,k2,n,k3⟩:=(show ObjOk X.prog X.w H h' b (.tup (rr.map V.int)) from I2.hok b _ g2)
  exact ⟨b,o,its.toArray,n,e4,k1,k2,k3,by simpa using zj3 rv,hn rr (wF e2)⟩
 -- where the keys lie
 let bs:List Addr:=xs.map (·.2.1);have hbs:zuz H rows bs:=⟨by rw [u5,<- hes,hlen],λ i b rr e1 e2=>by
  obtain ⟨b',u,g1,g2⟩:=hat i rr e2;rw [u8,g1] at e1;cases e1;exact g2⟩
 have hv:∀ i,i < rows.length->acc.toList.getD i .none=.ref (bs.getD i 0):=λ i hi=>by
  have e1:acc.toList[i]?=some (acc.toList[i]'(by lia)):=u7 (by lia);obtain ⟨b,u,g1,e4,_⟩:=hkey i _ rows[i] e1 (u7 hi);have e2:bs[i]?=some b:=by rw [u8,g1];rfl
  rw [vS,vS,e1,e2];exact e4
 have vals:∀ p:List Nat,(∀ i∈p,i < rows.length)->Vals (p.map λ i=>V.ref (bs.getD i 0)) (p.map λ i=>acc.toList.getD i .none):=λ p=>by
  induction p with
 |nil=>intro _;exact .nil
 |cons i p ih=>intro hp;exact .cons (by show _2.RelV (V.ref (bs.getD i 0)) (acc.toList.getD i .none);rw [hv i (hp i (.head _))];rfl) (ih λ j hj=>hp j (.tail _ hj))
 refine wpAny_bind (wpAny_newList ?_ (by rw [hl,sizeLine_eq];lia));have hoL:(h'.push { cls:=.type "list",data:=.seq acc.toList.toArray }).get? h'.objs.size=some (seqObj "list" acc.toList.toArray 0):=v4 _ rfl;by_cases hf:acc.toList.length < 2
 ·have eo:(acc.toList.toArray.zip acc.toList.toArray).map (·.2)=acc.toList.toArray:=by
   apply kP.mp;rw [Array.toList_map,Array.toList_zip];exact j7 (u6 _)
  refine wpAny_bind (wpAny_holding (wpAny_call_entry slot_list_sort ⟨_,hoL,rfl⟩ entry_list_sort (zbv hoL (by simpa using hf) ⟨_,rfl,?_⟩) (args_list_sort _)));refine wpAny_pure ⟨_,rfl,?_⟩;rw [eo];obtain ⟨e,he⟩:=sortedHeap_at (out:=acc.toList.toArray) hoL;have hp:=znp (rows:=rows) (by lia);have ea:(u3 rows.length).map (λ i=>acc.toList.getD i .none)=acc.toList:=by
   apply y4
   ·rw [u5,vV,hl]
   ·intro i h1 h3;rw [y6,xK,vS,u7 h3];rfl
  refine ⟨.ref _,upd H h'.objs.size (.lst ((u3 rows.length).map λ i=>V.ref (bs.getD i 0))),I2.laid (a:=h'.objs.size) (t':=tk) (λ b o ho=>?_) (u6 _) ?_,rfl,q bs hbs _ hp _ (I2.hok.fresh (u6 _))⟩
  ·have hlt:=vO ho;rw [sortedHeap_old (wC hlt) (by rw [size_push'];exact yJ hlt)];exact vM _ ho
  ·refine ⟨by rw [u5,vV,sizeLine_eq];lia,acc.toList,e,?_,he⟩;have:=vals (u3 rows.length) λ i hi=>u9.mp hi;rw [ea] at this;exact this
 ·refine wpAny_bind (wpAny_holding (wpAny_call_entry slot_list_sort ⟨_,hoL,rfl⟩ entry_list_sort (zcp hoL (hT.mono λ b o ho _=>vM _ ho) (by lia) (by lia) λ pp w rs=>⟨_,rfl,?_⟩) (args_list_sort _)));refine wpAny_pure ⟨_,rfl,?_⟩;rw [hl] at w rs;obtain ⟨e,he⟩:=sortedHeap_at (out:=List.toArray (pp.toList.map λ i=>acc.toList.getD i .none)) hoL;refine ⟨.ref _,upd H h'.objs.size (.lst (pp.toList.map λ i=>V.ref (bs.getD i 0))),I2.laid (a:=h'.objs.size) (t':=tk) (λ b o ho=>?_) (u6 _) ?_,rfl,q bs hbs _ (zpv w rs) _ (I2.hok.fresh (u6 _))⟩
  ·have hlt:=vO ho;rw [sortedHeap_old (wC hlt) (by rw [size_push'];exact yJ hlt)];exact vM _ ho
  ·exact ⟨by rw [u5,wT,w.size,sizeLine_eq];lia,_,e,vals pp.toList λ i hi=>u9.mp (w.mem_iff.mp hi),he⟩
end _3
namespace _4
open PySem PySem.Spec PyProof.Rows _2 _3
section
variable {K:Fg} {ta:TE} {dp:DP}
theorem zbs {F H:Hp} (s:Same F H) (bs:List Addr) (hb:∀ b∈bs,∃ ks:List Key,H b=some (.tup (ks.map kV))):∃ F':Hp,Ext F H F' H/\∀ b∈bs,F' b=H b:=by
 classical
 refine ⟨λ a=>if a∈bs then H a else F a,⟨λ _ _ z=>z,λ a o z=>?_,λ a o z=>?_,λ a h f=>?_⟩,λ b h=>if_pos h⟩
 ·show (if a∈bs then H a else F a)=some o;split
  ·exact s a o z
  ·exact z
 ·have z:(if a∈bs then H a else F a)=some o:=z;split at z
  ·exact z
  ·exact s a o z
 ·show (if a∈bs then H a else F a)=none;split
  ·rename_i q
   obtain ⟨ks,e⟩:=hb a q;exact absurd e (h.2 ks)
  ·exact f
noncomputable def zmt (u:T) (Q:List D->Prop):Prop:=match u with
|.dt kvs=>∃ rows:List (List Int),kvs.map (·.1)=rows.map (v6 v7)/\(∀ r∈rows,r≠[])/\rows.length < 64/\∀ rows':List (List Int),rows'.Perm rows->rows'.Pairwise (λ a b=>lexB b a=false)->Q (rows'.map rowD)
|_=>False
def zf21 (dp:DP):DF:=λ U Q=>dp U λ _ _ u=>zmt u Q
theorem zeu (hp:RfP K ta dp):RfF K (tCB (zy31 K) (zrc ta tNil)) (zf21 dp):=by
 intro F H Y U Qd Q s rv h k;refine hp s rv h λ i p u hu v F2 H2 e2 at2=>?_;obtain ⟨fn,hr⟩:=at2.rt (rv.ext e2);cases hr with
|dt h1 h2 h3 =>
  obtain ⟨rows,ek,hne,hz,q⟩:=hu;refine ⟨_,_,rows,rfl,h1,by rw [<- ek];exact h3.keysT,hne,hz,λ bs hbs pp po l hl=>?_⟩;have hlt:∀ i∈pp,i < rows.length:=λ i hi=>u9.mp (po.1.mem_iff.mp hi);obtain ⟨F3,e3,f3⟩:=zbs e2.fh bs λ b hb=>by
   obtain ⟨i,hi,rfl⟩:=List.mem_iff_getElem.mp hb;exact ⟨(rows[i]'(by rw [<- hbs.1];exact hi)).map v7,by rw [ziz];exact hbs.2 i _ _ (u7 hi) (u7 (by rw [<- hbs.1];exact hi))⟩
  obtain ⟨ex,fn⟩:=ze7 (xs:=pp.map λ i=>V.ref (bs.getD i 0)) e3.fh hl;have hn:H l=none:=by
   cases z:H l with
  |none=>rfl
  |some o=>rw [e2.h l o z] at hl;cases hl
  have e4:(u3 rows.length).map (λ i=>rows.getD i [])=rows:=by
   apply y4
   ·simp
   ·intro i h1 h3;simp [u7 h3]
  refine k _ (q (pp.map λ i=>rows.getD i []) ?_ ?_) l _ F3 _ ((e2.trans e3).trans ex) hn zn0 fn ?_
  ·have:=po.1.map λ i=>rows.getD i [];rw [e4] at this;exact this
  ·exact List.pairwise_map.mpr po.2
  ·have all:∀ pp:List Nat,(∀ i∈pp,i < rows.length)->IsAll K F3 (pp.map λ i=>V.ref (bs.getD i 0)) ((pp.map λ i=>rows.getD i []).map rowD):=λ pp=>by
    induction pp with
   |nil=>intro _;exact .nil
   |cons i pp ih =>
     intro hp;have hi:=hp i (.head _);have hib:i < bs.length:=by rw [hbs.1];exact hi
     refine .cons ?_ (ih λ j hj=>hp j (.tail _ hj));have e5:bs.getD i 0=bs[i]:=by simp [hib]
     have e6:rows.getD i []=rows[i]:=by simp [hi]
     show Is K F3 (V.ref (bs.getD i 0)) (rowD (rows.getD i []));rw [e5,e6];refine .tup (xs:=rows[i].map V.int) ?_ (zfo _);rw [f3 _ (w6 _)];exact hbs.2 i _ _ (u7 hib) (u7 hi)
   exact all pp hlt
|fz _=>exact hu.elim
|li _ _ _=>exact hu.elim
|ls _ _ _=>exact hu.elim
|ob _ _ _ _ _=>exact hu.elim
|dk _ _ _=>exact hu.elim
|tp _ _ _ _=>exact hu.elim
|wh=>exact hu.elim
theorem zzg (dp:DP) (U:DSt) (Q:List D->Prop):zf21 dp U Q=(dp U λ _ _ u=>zmt u Q):=rfl
theorem ztg (kvs:List (List Key×D)) (Q:List D->Prop):zmt (.dt kvs) Q=∃ rows:List (List Int),kvs.map (·.1)=rows.map (v6 v7)/\(∀ r∈rows,r≠[])/\rows.length < 64/\∀ rows':List (List Int),rows'.Perm rows->rows'.Pairwise (λ a b=>lexB b a=false)->Q (rows'.map rowD):=rfl
end
end _4
namespace _5
open PySem PySem.Spec PyProof.Rows _2 _3 _4
theorem zmn {l:List Nat} {a b:Nat->Int} (h:∀ k∈l,a k<=b k) (e:su l b<=su l a):∀ k∈l,a k=b k:=by
 induction l with
|nil=>intro k hk;simp at hk
|cons x r ih =>
  rw [zd1,zd1] at e;have h1:=h x (by simp);have h2:=zf51 λ k hk=>h k (v8 x hk);intro k hk;rcases vL.mp hk with z|z
  ·subst z;lia
  ·exact ih (λ j hj=>h j (v8 x hj)) (by lia) k z
def Fm.pad (f:Fm):Fm:=⟨f.a,f.r,f.g,f.t++[λ _=>0]⟩
section
variable {T:Nt} {c d t:Nat->Int} {f:Fm}
theorem Nt.Fl.pad (h:T.Fl [c] f) (ht:f.t=[t]) (hd:∀ k,k < T.N->0<=d k):T.Fl [c,d] f.pad:=by
 refine ⟨by show 2=(f.t++[_]).length;rw [ht];rfl,h.a,h.r,h.g,λ x hx k hk=>?_,λ m k hm hk=>?_⟩
 ·have hx:x∈[c,d].zip (f.t++[λ _=>0]):=hx;rw [ht] at hx;rcases vL.mp hx with z|z
  ·subst z;exact h.s (c,t) (by rw [ht];simp) k hk
  ·have z:=yZ.mp z;subst z;exact ⟨wQ _,hd k hk⟩
 ·have:=h.b m k hm hk;have e:(su f.pad.t λ t=>t k)=su f.t λ t=>t k:=by
   show (su (f.t++[_]) λ t=>t k)=_;rw [zf7,zd1,zl6];show _+((0:Int)+0)=_;lia
  rw [e];exact this
theorem Nt.flow_pad:T.flow f.pad=T.flow f++vP T.N 0:=by
 unfold Nt.flow Fm.pad;rw [zO,wG,wG,wG];have:(u3 T.N).map (λ _=>(0:Int))=vP T.N 0:=by rw [List.map_const',vV]
 simp only [wB,xX,wJ,this,wG]
theorem zk91 {A:List Ar} {x:Nat->Int} {n w:Nat} (h:∀ k,k < A.length->aU A k < n/\aV A k < n) (hw:n<=w):bl A.length (aU A) (aV A) x w=0:=by
 unfold bl;rw [zi5 (h:=λ _=>0) λ k hk=>?_,zic];obtain ⟨h1,h2⟩:=h k hk;unfold trm;rw [if_neg (by lia),if_neg (by lia)];rfl
def Nt.stay (T:Nt) (c:Nat->Int):Fm:=⟨T.fl,λ _ k=>T.fl k,λ _ _=>0,[λ k=>min (T.fl k) (c k),λ k=>T.fl k - min (T.fl k) (c k)]⟩
theorem Nt.stay_fl (hf:∀ k,k < T.N->0<=T.fl k/\T.fl k<=T.rm k/\0<=c k/\0<=d k/\T.fl k<=c k+d k) (hw:∀ m i,m < T.n->i∈T.P m->0<=T.W i m):T.Fl [c,d] (T.stay c):=by
 refine ⟨rfl,λ k hk=>⟨(hf k hk).1,wQ _⟩,λ m k _ hk=>⟨(hf k hk).1,(hf k hk).2.1⟩,λ m i hm hi=>⟨wQ _,hw m i hm hi⟩,λ x hx k hk=>?_,λ m k hm hk=>?_⟩
 ·obtain ⟨h1,h2,h3,h4,h5⟩:=hf k hk;have hx:x∈[(c,λ k=>min (T.fl k) (c k)),(d,λ k=>T.fl k - min (T.fl k) (c k))]:=hx;rcases vL.mp hx with z|z
  ·subst z;show 0<=min (T.fl k) (c k)/\min (T.fl k) (c k)<=c k;lia
  ·have z:=yZ.mp z;subst z;show 0<=T.fl k - min (T.fl k) (c k)/\T.fl k - min (T.fl k) (c k)<=d k;lia
 ·have i0:T.inn (T.stay c) m k=0:=su_zero' λ m' _=>su_zero' λ i _=>by
   show (if m'+T.Ln i=m/\T.V i=k then (0:Int) else 0)=0;split <;> rfl
  have o0:T.out (T.stay c) m k=0:=by
   unfold Nt.out;split
   ·exact su_zero' λ i _=>by
     show (if T.U i=k then (0:Int) else 0)=0;split <;> rfl
   ·rfl
  rw [i0,o0];have e:(su (T.stay c).t λ t=>t k)=T.fl k:=by
   show su [_,_] _=_;rw [zd1,zd1,zl6];show min (T.fl k) (c k)+(T.fl k - min (T.fl k) (c k)+0)=_;lia
  rw [e];show (if m=0 then T.fl k else T.fl k)+0=0+if m < T.n then T.fl k else T.fl k
  split <;> split <;> lia
theorem zx01 {cs:List (Nat->Int)} {k:Nat} (hk:k < T.N):(T.arcs (c :: cs))[(T.arcs []).length+k]?=some (T.nd T.n k,1,c k):=by
 have e:T.arcs (c :: cs)=T.arcs []++((u3 T.N).map (λ k=>(T.nd T.n k,1,c k))++cs.flatMap λ c=>(u3 T.N).map λ k=>(T.nd T.n k,1,c k)):=by
  unfold Nt.arcs;simp only [wB,xX,wJ]
 rw [e,wK (by lia),uaT,wN (by simpa using hk),u8,xM hk];rfl
theorem zgb1 {f:Fm} {t:Nat->Int} {ts:List (Nat->Int)} (ht:f.t=t :: ts) {k:Nat} (hk:k < T.N):fx (T.flow f) ((T.arcs []).length+k)=t k:=by
 have e:T.flow f=T.flow ⟨f.a,f.r,f.g,[]⟩++((u3 T.N).map t++ts.flatMap λ t=>(u3 T.N).map t):=by
  unfold Nt.flow;rw [ht];simp only [wB,xX,wJ]
 have l:(T.flow ⟨f.a,f.r,f.g,[]⟩).length=(T.arcs []).length:=Nt.len (cs:=[]) (f:=⟨f.a,f.r,f.g,[]⟩) rfl;unfold fx;rw [e,<- l,wK (by lia),uaT,wN (by simpa using hk),u8,xM hk];rfl
theorem Nt.again (ok:T.Ok) (h:T.Fl [c] f) (ht:f.t=[t]) (hf:∀ k,k < T.N->0<=T.fl k/\T.fl k<=T.rm k/\0<=c k/\0<=d k/\T.fl k<=c k+d k) (hw:∀ m i,m < T.n->i∈T.P m->0<=T.W i m) {L:List Int} {side:List Nat}
  (b:Best (T.nd (T.n+1) 0) (T.arcs [c,d]) (T.flow f++vP T.N 0) 0 1 L side) :
  ∃ f2 t2 s2,T.Fl [c,d] f2/\(u3 (T.arcs [c,d]).length).map (λ k=>lf L (2 * k+1))=T.flow f2/\(∀ k,k < T.N->f2.a k=T.fl k)/\f2.t=[t2,s2]/\∀ k,k < T.N->t k<=t2 k:=by
 have hp:=h.pad (d:=d) ht λ k hk=>(hf k hk).2.2.2.1;rw [<- Nt.flow_pad] at b;have hl:=Nt.len (T:=T) (cs:=[c,d]) (f:=f.pad) hp.t;have hb:=b.bal hl λ w h1 h2=>by
  rcases wP w (T.nd (T.n+1) 0) with z|z
  ·exact hp.bal ok (by lia) z
  ·exact zk91 (Nt.ends ok hp.t) z
 obtain ⟨f2,fl2,e⟩:=Nt.best ok b hb;obtain ⟨t2,s2,ht2⟩:∃ t2 s2,f2.t=[t2,s2]:=by
  have:=fl2.t
  match hq:f2.t,this with
 |[x,y],_=>exact ⟨x,y,rfl⟩
 refine ⟨f2,t2,s2,fl2,e,λ k hk=>?_,ht2,λ k hk=>?_⟩
 ·have m:=Nt.most ok b fl2 e (Nt.stay_fl hf hw);exact zmn (λ k hk=>(fl2.a k (u9.mp hk)).2) m k (u9.mpr hk)
 ·have ga:=zx01 (T:=T) (c:=c) (cs:=[d]) hk;have hlt:=(vZ.mp ga).1;have:=b.up.inn _ hlt (zpd ga).1;rw [zh31 hl hlt,zgb1 (f:=f.pad) (ts:=[λ _=>0]) (by show f.t++_=_;rw [ht];rfl) hk] at this;rw [<- zgb1 (T:=T) ht2 hk,<- e,zsk hlt];exact this
end
end _5
namespace _3
open PySem PySem.Spec PyProof.Rows _2
noncomputable def zz01 (t:TS):TS:=λ D Y H=>t { nx:=λ Y' H'=>∃ a o u,(∀ ob y,H a≠some (.frz ob y))/\H' a=some (.frz o u)/\D.nx Y' (upd H' a u),rt:=λ _ _=>False } Y H
theorem zb21 {X:Cx} {st:Stmt} {t:TS} (h:PS X st t):PS X st (zz01 t):=by
 intro pins s Y H D I q;refine thn (h pins s Y H _ I q) λ f s1 hs=>?_;cases f with
|next =>
  obtain ⟨Y',H1,I1,a,o,u,e2,e3,q1⟩:=hs;exact ⟨Y',_,thaw I1 e3 λ ob y z=>e2 ob y (I.base.frzs a ob y z),q1⟩
|brk=>obtain ⟨Y',H1,I1,z⟩:=hs;exact z.elim
|cont=>obtain ⟨Y',H1,I1,z⟩:=hs;exact z.elim
|ret u=>obtain ⟨v,Y',H1,I1,r1,z⟩:=hs;exact z.elim
end _3
namespace _4
open PySem PySem.Spec PyProof.Rows _2 _3
variable {U:DSt} {i:Nat}
section
variable {K:Fg} {g:TG} {dg:DG} {tb:TS} {db:DS} {n:Nat}
def NoFz (H:Hp) (fp:List Addr):Prop:=∀ a∈fp,∀ o u,H a≠some (.frz o u)
theorem NoFz.nil {H:Hp}:NoFz H []:=λ _ h=>nomatch h
theorem NoFz.cons {H:Hp} {a:Addr} {o:HO} {fp:List Addr} (h:H a=some o) (n:∀ o' u,o≠.frz o' u) (r:NoFz H fp):NoFz H (a :: fp):=λ b hb o' u z=>by
 rcases vL.mp hb with e|e
 ·subst e;rw [h] at z;exact n o' u (wI.inj z)
 ·exact r b e o' u z
theorem NoFz.app {H:Hp} {fp fq:List Addr} (a:NoFz H fp) (b:NoFz H fq):NoFz H (fp++fq):=λ c hc=>(vJ.mp hc).elim (a c) (b c)
theorem zt41 {F H:Hp}:(∀ {v:V} {t:T} {fp:List Addr},Rt K F H v t fp->NoFz H fp)/\(∀ {v:List V} {t:List T} {fp:List Addr},RtAll K F H v t fp->NoFz H fp)/\(∀ {v:List (Str×V)} {t:List (Str×T)} {fp:List Addr},RtFs K F H v t fp->NoFz H fp) :=
 Rt.ind (P:=λ _ _ fp=>NoFz H fp) (Q:=λ _ _ fp=>NoFz H fp) (R:=λ _ _ fp=>NoFz H fp) (λ _=>.nil) (λ h _ _=>.cons h (λ _ _=>nofun) .nil) (λ h _ r=>.cons h (λ _ _=>nofun) r) (λ h h2 _ _ r=>.cons h (λ _ _=>nofun) (.cons h2 (λ _ _=>nofun) r))
  (λ h _ _=>.cons h (λ _ _=>nofun) .nil) (λ h _ _=>.cons h (λ _ _=>nofun) .nil) (λ h _ _ r=>.cons h (λ _ _=>nofun) r) .nil .nil .app .nil .app
theorem RS.repl {B:Bs} {F H:Hp} {Y:_2.St} {fps:Nat->List Addr} (r:RS K B F H Y U fps) {a:Addr} {o':HO} {s':Sl} {fp':List Addr} {x:V} {t:T} (h0:B.H0 a=none) (fa:F a=none)
  (oth:∀ (j:Nat) s,j≠i->U[j]?=some s->s.has=true->a ∉ fps j) (hs:s'.has=true) (gx:Y.getD i none=some x) (gt:s'.tree=some t) (gr:Rt K F (upd H a o') x t fp') (gi:∀ b u,s'=.io b u->x=.ref b) (gn:fp'.Nodup) (ga:∀ b∈fp',b=a) :
  RS K B F (upd H a o') Y (U.set i s') (λ j=>if j=i then fp' else fps j):=by
 have key:∀ (j:Nat) s,(U.set i s')[j]?=some s->(j=i/\s=s') \/ (j≠i/\U[j]?=some s):=λ j s e=>by
  rw [xE] at e;by_cases hij:i=j
  ·subst hij;by_cases hl:i < U.length
   ·simp [hl] at e;exact .inl ⟨rfl,e.symm⟩
   ·simp [hl] at e
  ·simp [hij] at e;exact .inr ⟨λ z=>hij z.symm,e⟩
 refine ⟨λ b o hb e=>?_,r.ff,λ b o e=>?_,r.nw,λ b=>?_,by rw [wD];exact r.len,λ j d e=>?_,λ j s e hs'=>?_,λ j s e ho b hb=>?_,λ j k s s2 hjk e1 e2 o1 o2 b hb=>?_⟩
 ·rw [zr0 (λ z=>by subst z;rw [h0] at e;cases e)];exact r.hh b o hb e
 ·rw [zr0 (λ z=>by subst z;rw [fa] at e;cases e)];exact r.fh b o e
 ·by_cases z:b=a
  ·subst z;exact ⟨λ e=>absurd h0 e,λ e=>absurd h0 e.1⟩
  ·rw [zr0 z];exact r.al b
 ·rcases key j _ e with ⟨_,z⟩|⟨_,z⟩
  ·subst z;cases hs
  ·exact r.sh j d z
 ·rcases key j _ e with ⟨z,z2⟩|⟨z,z2⟩
  ·subst z z2;simp only [if_true];exact ⟨x,t,gx,gt,gr,gi,gn⟩
  ·obtain ⟨x',t',a1,a2,a3,a4,a5⟩:=r.rt j s z2 hs';simp only [if_neg z];refine ⟨x',t',a1,a2,a3.frame (λ _ _ q=>q) λ b hb=>⟨zr0 λ y=>?_,(a3.dom b hb).2⟩,a4,a5⟩;subst y;exact oth j s z z2 hs' hb
 ·rcases key j _ e with ⟨z,z2⟩|⟨z,z2⟩
  ·simp only [if_pos z] at hb;rw [ga b hb];exact .inl h0
  ·simp only [if_neg z] at hb;exact r.fr j s z2 ho b hb
 ·rcases key j _ e1 with ⟨z,z2⟩|⟨z,z2⟩
  ·simp only [if_pos z] at hb;rcases key k _ e2 with ⟨y,_⟩|⟨y,y2⟩
   ·exact absurd (z.trans y.symm) hjk
   ·simp only [if_neg y];rw [ga b hb];exact oth k s2 y y2 o2
  ·simp only [if_neg z] at hb;rcases key k _ e2 with ⟨y,_⟩|⟨y,y2⟩
   ·simp only [if_pos y];intro q;rw [ga b q] at hb;exact oth j s z z2 (zr6 o1) hb
   ·simp only [if_neg y];exact r.dj j k s s2 hjk z2 y2 o1 o2 b hb
def itD (kv:List Key×D):D:=.tuple [.tuple (kv.1.map kD),kv.2]
noncomputable def znb1 (i:Nat) (dg:DG) (db:DS):DS:=λ E U=>∃ kvs,U[i]?=some (.ow (.dt kvs))/\∀ a,∃ W:Nat->DSt->Prop,W 0 (U.set i (.io a .wh))/\(∀ j U',W j U'->U'[i]?=some (.io a .wh)) /\
 (∀ j kv U',kvs[j]?=some kv->W j U'->dg (itD kv) U' λ U2=>db { nx:=W (j+1),rt:=λ _ _=>False,ct:=W (j+1),bk:=λ _=>False } U2)/\∀ U',W kvs.length U'->E.nx (U'.set i (.ow (.dt kvs)))
theorem zs21 (hg:RfG K n g dg) (hb:RfS K tb db):RfS K (zz01 (tFor (zt11 (tVar i)) g tb)) (znb1 i dg db):=by
 intro B F H Y U fps E Z r h k;obtain ⟨kvs,hi,h⟩:=h;obtain ⟨x,t,g1,g2,g3,g4,g5⟩:=r.rt i _ hi rfl;cases g2;generalize hf:fps i=fp at g3;cases g3 with
|dt a1 a2 a3 =>
  rename_i a kvs'
  have h0:B.H0 a=none:=by
   rcases r.fr i _ hi rfl a (by rw [hf];simp) with z|⟨_,z⟩
   ·exact z
   ·exact absurd rfl (z _)
  obtain ⟨W,w0,wi,ws,we⟩:=h a;refine ⟨.ref a,zt9 (F:=F) (H:=H) (U:=U) g1,a,kvs',rfl,a1,λ o=>?_⟩;have r0:RS K B F (upd H a (.frz o (.dT kvs'))) Y (U.set i (.io a .wh)) (λ j=>if j=i then [] else fps j) :=
   r.repl h0 a2 (λ j s ne e hs q=>r.dj i j _ s (Ne.symm ne) hi e rfl hs a (by rw [hf];simp) q) rfl g1 rfl .wh (λ b u z=>by cases z;rfl) .nil λ b hb=>nomatch hb
  obtain ⟨B',r1,eF,fr,bk,bn⟩:=r0.rebase;obtain ⟨b1,b2⟩:=fr a _ zn0 λ j s e ho ha=>by
   by_cases ji:j=i
   ·simp only [if_pos ji] at ha;exact nomatch ha
   ·simp only [if_neg ji] at ha;have e':U[j]?=some s:=by rw [xC (Ne.symm ji)] at e;exact e
    exact r.dj i j _ s (Ne.symm ji) hi e' rfl (zr6 ho) a (by rw [hf];simp) ha
  refine ⟨λ j m Y' H'=>m=kvs.length - j/\j<=kvs.length/\∃ F' U' fps',RS K B' F' H' Y' U' fps'/\W j U',⟨kvs.length,rfl,wE _,F,_,_,r1,w0⟩,?_⟩;rintro j m Y' H' ⟨rfl,hj',F',U',fps',r',w'⟩;have c1:H' a=some (.frz o (.dT kvs')):=r'.hh a _ b2 b1;have c2:KvIs K F' kvs' kvs:=a3.mono (by rw [<- eF];exact r'.ff);have el:=a3.len;by_cases hlt:j < kvs.length
  ·refine .inr ⟨⟨c1,by lia⟩,λ Y2 H2=>j+1<=kvs.length/\∃ F2 U2 fps2,RS K B' F2 H2 Y2 U2 fps2/\W (j+1) U2,λ Y2 H2 p=>⟨_,by lia,rfl,p⟩,λ y H2 hy=>?_⟩;obtain ⟨ky,v,b,p,d1,d2,d3,rfl,rfl⟩:=hy;obtain ⟨d,e1,e2⟩:=c2.at d1;obtain ⟨F3,x3,f3⟩:=zbs r'.fh [b] λ b' hb'=>by simp at hb';subst hb';exact ⟨ky,d2⟩
   have i3:IsAll K F3 [.ref b,v] [.tuple (ky.map kD),d]:=.cons (.tup (by rw [f3 b (by simp)];exact d2) (zbo ky)) (.cons (e2.mono x3.f) .nil);obtain ⟨x4,i4⟩:=zmc (p:=p) x3.fh d3 i3;have r2:=r'.grow (x3.trans x4);refine hg r2.fh i4 (ws j _ U' e1 w') λ Y2 U2 hd2 u2=>?_;exact hb (r2.byUpd u2) hd2 ⟨λ r3 q=>⟨hlt,_,_,_,r3,q⟩,λ r3 q=>q.elim,λ r3 q=>⟨hlt,_,_,_,r3,q⟩,λ res q=>q.elim⟩
  ·have e:j=kvs.length:=by lia
   subst e;refine .inl ⟨⟨c1,by lia⟩,a,o,.dT kvs',(λ ob y z=>by rw [a1] at z;cases z),c1,?_⟩;have hi':=wi _ U' w';obtain ⟨x',t',k1,k2,k3,k4,k5⟩:=r'.rt i _ hi' rfl;have ex:=k4 a _ rfl;subst ex;have fa':F' a=none:=r'.nw a (by rw [b1];exact ⟨by simp,λ ks=>by simp⟩) (by rw [eF];exact a2);refine k.nx ((bk r').repl (t:=.dt kvs) (fp':=[a]) h0 fa' (λ j' s ne e hs q=>?_) rfl k1 rfl (.dt zn0 fa' c2) (λ b u z=>by cases z) (by simp) λ b hb=>by simpa using hb) (we _ w');obtain ⟨x2,t2,m1,m2,m3,_⟩:=r'.rt j' s e hs;exact zt41.1 m3 a q _ _ c1
theorem zgt {E:DEnds} {kvs:List (List Key×D)} (hi:U[i]?=some (.ow (.dt kvs))) (W:Addr->Nat->DSt->Prop) (h0:∀ a,W a 0 (U.set i (.io a .wh))) (hs:∀ a j U',W a j U'->U'[i]?=some (.io a .wh))
  (hb:∀ a (j:Nat) kv U',kvs[j]?=some kv->W a j U'->dg (itD kv) U' λ U2=>db { nx:=W a (j+1),rt:=λ _ _=>False,ct:=W a (j+1),bk:=λ _=>False } U2) (he:∀ a U',W a kvs.length U'->E.nx (U'.set i (.ow (.dt kvs)))):znb1 i dg db E U :=
 ⟨_,hi,λ a=>⟨W a,h0 a,hs a,λ j kv U' e w=>hb a j kv U' e w,λ U' w=>he a U' w⟩⟩
end
end _4
namespace _3
open PySem PySem.Spec PyProof.Rows _2
variable {X:Cx} {a b:Int} {es:List Expr} {p q s:Pos}
theorem zsu (xs:List Expr) (k) (pos:Pos) (rest:List Expr) (env:Env):starEach (.Tuple xs k pos :: rest) env=(false,eval (.Tuple xs k pos) env) :: starEach rest env:=rfl
theorem zyc1 {c:Int} {i j l k} {r:Pos}:PE X (.Tuple [.Constant (.int a) i p,.Constant (.int b) j q,.Constant (.int c) l r] k s) (zr51 (zrc (tC (.int a)) (zrc (tC (.int b)) (zrc (tC (.int c)) tNil)))):=zl1 (za0 zf0 (za0 zf0 (za0 zf0 zg0)))
structure PAX (X:Cx) (es:List Expr) (t:TA):Prop where
 h:PA X es t
theorem zcs:PAX X [] tNil:=⟨zg0⟩
theorem zlb {c:Int} {i j l k} {r:Pos} {t:TA} (h:PAX X es t):PAX X (.Tuple [.Constant (.int a) i p,.Constant (.int b) j q,.Constant (.int c) l r] k s :: es) (zrc (zr51 (zrc (tC (.int a)) (zrc (tC (.int b)) (zrc (tC (.int c)) tNil)))) t):=⟨za0 zyc1 h.h (zsu _ _ _ _ _)⟩
@[irreducible] def hid (es:List Expr):List Expr:=es
theorem zuv (es:List Expr):hid es=es:=by unfold hid;rfl
theorem zns {t:TA} {pos:Pos} (h:PAX X es t):PE X (.List (hid es) pos) (zl51 t):=by rw [zuv];exact zr31 h.h
noncomputable def hidS:Stmt->Stmt
|.Assign ts (.List (.Tuple a k b :: es) p) q=>.Assign ts (.List (hid (.Tuple a k b :: es)) p) q
|.Assign ts (.Subscript (.BinOp a op (.List es p) p2) i p3) q=>.Assign ts (.Subscript (.BinOp a op (.List (hid es) p) p2) i p3) q
|s=>s
theorem zf31 (s:Stmt):hidS s=s:=by
 unfold hidS;split
 ·rw [zuv]
 ·rw [zuv]
 ·rfl
theorem zq21 {ss:List Stmt} {t:TS} (h:PSs X (ss.map hidS) t):PSs X ss t:=by
 have e:ss.map hidS=ss:=by
  conv=>rhs;rw [<- j8 ss]
  exact wZ λ s _=>zf31 s
 rw [e] at h;exact h
end _3
namespace _5
open PySem PySem.Spec PyProof.Rows _2 _3 _4
variable {E:DEnds} {U:DSt} {db:DS}
theorem zi3 {di:DF} {dg:DG} (h:∀ B:DS,(∀ E U,db E U->B E U)->dFor di dg B E U):dFor di dg db E U:=h db λ _ _ z=>z
theorem zj21 {dt:DT} {da:DS} (h:∀ A B:DS,(∀ E U,da E U->A E U)->(∀ E U,db E U->B E U)->dIf dt A B E U):dIf dt da db E U:=h da db (λ _ _ z=>z) λ _ _ z=>z
end _5
namespace _4
open PySem PySem.Spec PyProof.Rows _2 _3
theorem zst {α β:Type} (f:α->β) (a:α) (l:List α):v6 f (a :: l)=f a :: v6 f l:=rfl
theorem zpx {α β:Type} (f:α->β):v6 f []=[]:=rfl
theorem zev {α:Type} (a d:α) (l:List α):List.getD (a :: l) 0 d=a:=rfl
theorem zuu {α:Type} (a d:α) (l:List α) (n:Nat):List.getD (a :: l) (n+1) d=List.getD l n d:=rfl
theorem r_nt:(!true)=false:=rfl
theorem r_nf:(!false)=true:=rfl
theorem zy91 {α:Sort u} (a b:α):(if true=true then a else b)=a:=rfl
theorem zk71 {α:Sort u} (a b:α):(if false=true then a else b)=b:=rfl
theorem zw61 {α:Sort u} (a b:α):(if true=false then a else b)=b:=rfl
theorem zu71 {α:Sort u} (a b:α):(if false=false then a else b)=a:=rfl
end _4
namespace HT
open PySem PyProof.Rows
noncomputable def lexLe:List Int->List Int->Bool
|[],[]=>true
|[],_ :: _=>true
|_ :: _,[]=>false
|x :: xs,y :: ys=>if x=y then lexLe xs ys else decide (x<=y)
theorem zho (x y:Int) (xs ys:List Int):lexLe (x :: xs) (y :: ys)=if x=y then lexLe xs ys else decide (x<=y):=rfl
theorem zof:lexLe [] []=true:=rfl
theorem zce (y:Int) (ys:List Int):lexLe [] (y :: ys)=true:=rfl
theorem zbd (x:Int) (xs:List Int):lexLe (x :: xs) []=false:=rfl
theorem zox (A:Around) (s:Shared) (a:Int) (t:Tok) (c:Int) (u:Tok) (prog:Program) (w:World) (E:Value->Shared->Prop) (Q:Value->Shared->Prop) (h:Q (.bool (decide (a<=c))) s) :
  wpAny (model prog w) A (richCompare .LtE (.int a t) (.int c u)) Q E s :=
 (PyProof.Rows.le_int h:wpAny (model prog w) A (compareOp .LtE (.int a t) (.int c u)) Q E s)
section
open PySem.SeqAt
open PySem.AutoSeq1 (wpAny_loadPart')
open PySem.MeetsSeq PySem.MeetsSeq2 PySem.MeetsSeq3
theorem zje (l b:Addr) (items items2:Array Value) (n n2:Nat) (dd dd2:Option Addr) (sl sl2:Array (Option Value)) (ns ms:List Int) (hi:IntsAre items.toList ns) (hj:IntsAre items2.toList ms) :
  Meets (Builtin.«tuple.__le__» ⟨[.ref l,.ref b],[]⟩)
   (λ _ R s=>s.heap.get? l=some { cls:=.type "tuple",dict:=dd,data:=.seq items n,slots:=sl }/\s.heap.get? b=some { cls:=.type "tuple",dict:=dd2,data:=.seq items2 n2,slots:=sl2 } /\
    R (.ok (.ret (.bool (lexLe ns ms)))) s) :=
 .of_wp λ prog w A R s h=>by
  obtain ⟨hp,g,d,tk,os⟩:=s;obtain ⟨hl,hb,h⟩:=h;have f2:=AutoSeq1.sub_tuple_tuple;have z1:items.size=ns.length:=by rw [<- hi.length];simp
  have z2:items2.size=ms.length:=by rw [<- hj.length];simp
  wp_walk using wpAny_loadPart' hl,wpAny_loadPart' hb,wpAny_forIn_list _ (λ rest b s'=>b.1=none/\s'=⟨hp,g,d,tk,os⟩/\∃ (vs ws:List Value) (ns' ms':List Int),rest=vs.zip ws /\
   IntsAre vs ns'/\IntsAre ws ms'/\ns'.length+items2.size=ms'.length+items.size/\R (.ok (.ret (.bool (lexLe ns' ms')))) ⟨hp,g,d,tk,os⟩) _
  case turn =>
   rintro ⟨y,x⟩ rest b s' ⟨hb',rfl,vs,ws,ns',ms',hz,hvi,hwi,hlen,hR⟩;cases hvi with
  |nil=>rw [List.zip_nil_left] at hz;cases hz
  |cons a t hvi' =>
    cases hwi with
   |nil=>rw [List.zip_nil_right] at hz;cases hz
   |cons c u hwi' =>
     rw [zQ] at hz;injection hz with hyx hrest;injection hyx with hy hx;subst hy hx;rw [zho] at hR;simp only [wY] at hlen;obtain ⟨e,he,hiff⟩:=zay A.in1 ⟨hp,g,d,tk,os⟩ a t c u;refine wpAny_bind (he prog w _ _ ?_);cases e with
    |true =>
      rw [if_pos (hiff.mp rfl)] at hR
      wp_walk
      exact ⟨rfl,rfl,_,_,_,_,hrest,hvi',hwi',by lia,hR⟩
    |false =>
      rw [if_neg (λ q=>absurd (hiff.mpr q) vU)] at hR;have hri:=zox A.in1 ⟨hp,g,d,tk,os⟩ a t c u prog w
      wp_walk using hri
      exact ⟨_,rfl,by simpa using hR⟩
  case fin =>
   rintro ⟨b1,b2⟩ s' ⟨hb',rfl,vs,ws,ns',ms',hz,hvi,hwi,hlen,hR⟩;simp only at hb';subst hb';have hv:lexLe ns' ms'=decide (items.size<=items2.size):=by
    cases hvi with
   |nil =>
     cases hwi with
    |nil =>
      simp only [yX] at hlen;rw [zof];exact (decide_eq_true (by lia)).symm
    |cons c u hw =>
      simp only [yX,wY] at hlen;rw [zce];exact (decide_eq_true (by lia)).symm
   |cons a t hv =>
     cases hwi with
    |nil =>
      simp only [yX,wY] at hlen;rw [zbd];exact (decide_eq_false (by lia)).symm
    |cons c u hw =>
      rw [zQ] at hz;cases hz
   rw [hv] at hR
   wp_walk
   exact ⟨_,rfl,by simpa [Builtin.Tuple.tupleCompareSizes] using hR⟩
  case h =>
   exact ⟨rfl,rfl,items.toList,items2.toList,ns,ms,rfl,hi,hj,by lia,h⟩
end
section
variable {prog:Program} {w:World} {A:Around} {E:Value->Shared->Prop} {s:Shared}
theorem le_tupInts {l b:Addr} {items items2:Array Value} {ns ms:List Int} {Q:Value->Shared->Prop} (hl:IsTup s.heap l items) (hb:IsTup s.heap b items2) (hi:IntsAre items.toList ns) (hj:IntsAre items2.toList ms)
  (hu:A.units < cLine) (h:Q (.bool (lexLe ns ms)) s):wpAny (model prog w) A (compareOp .LtE (.ref l) (.ref b)) Q E s:=by
 obtain ⟨⟨cls,dd,data,sl⟩,ho,hc,n,hd⟩:=id hl;obtain ⟨⟨cls2,dd2,data2,sl2⟩,ho2,hc2,n2,hd2⟩:=id hb;simp only at hc hd hc2 hd2;subst hc hd hc2 hd2;exact richCompare_meets_room (op:=.LtE) ⟨_,ho,rfl⟩ ⟨_,ho2,rfl⟩ PySem.F.slot_tuple_le PySem.F.entry_tuple_le (PySem.F.args_tuple_le_2 _ _) (zje l b items items2 n n2 dd dd2 sl sl2 ns ms hi hj)
  ⟨ho,ho2,show yT (lexLe ns ms)≠Value.notImplemented/\Q (.bool (lexLe ns ms)) s from ⟨(λ x=>nomatch x),h⟩⟩ hu
end
end HT
namespace _2
open PySem PySem.Spec PyProof.Rows
section
variable {X:Cx}
def rLeT (K:Fg):R2:=λ x y H Q=>∃ a b ns ms,x=.ref a/\y=.ref b/\SqT K H a (ns.map V.int)/\SqT K H b (ms.map V.int)/\Q (.bl (HT.lexLe ns ms)) H
theorem zp61 (hu:X.A.units+64 < cLine):OpR X (compareOp .LtE) (rLeT X.K):=by
 intro pins s Y H x y v u Q I rx ry h;obtain ⟨a,b,ns,ms,rfl,rfl,ha,hb,q⟩:=h;cases rx;cases ry;obtain ⟨its,r1,p1,_⟩:=I.tuple ha;obtain ⟨its2,r2,p2,_⟩:=I.tuple hb;exact HT.le_tupInts p1 p2 (zj3 r1) (zj3 r2) (by lia) ⟨.bl (HT.lexLe ns ms),H,I,rfl,q⟩
end
end _2
namespace _4
open PySem PySem.Spec PyProof.Rows _2 _3
def fLeT:D->D->(D->Prop)->Prop
|.tuple [.int a,.int b],.tuple [.int c,.int d],Q=>Q (.bool (decide (a < c \/ (a=c/\b<=d))))
|_,_,_=>False
theorem zr91 (a b c d:Int):HT.lexLe [a,b] [c,d]=decide (a < c \/ (a=c/\b<=d)):=by
 simp only [HT.lexLe];by_cases h:a=c
 ·rw [if_pos h];by_cases k:b=d
  ·rw [if_pos k];exact (decide_eq_true (by lia)).symm
  ·rw [if_neg k];exact decide_eq_decide.mpr (by lia)
 ·rw [if_neg h];exact decide_eq_decide.mpr (by lia)
theorem zfd1 {K:Fg}:R2E K (rLeT K) fLeT:=by
 intro F H x y d e Qd Q s hx hy h k;unfold fLeT at h;split at h
 ·obtain ⟨a1,xs,rfl,h1,_,h2⟩:=hx.tuple s;obtain ⟨a2,ys,rfl,g1,_,g2⟩:=hy.tuple s;cases h2 with
 |cons i1 r1=>cases i1;cases r1 with|cons i2 r2=>cases i2;cases r2;cases g2 with|cons j1 s1=>cases j1;cases s1 with|cons j2 s2=>cases j2;cases s2;refine ⟨_,_,[_,_],[_,_],rfl,rfl,h1,g1,?_⟩;rw [zr91];exact k _ h _ F H (Ext.refl s) (.bl _)
 ·exact h.elim
end _4
open PySem PySem.Spec PyProof.Rows _2 _3 _4 _5
local macro_rules|`(tactic| walk_at "sc")=>`(tactic| exact ⟨rfl,rfl,rfl,by decide +kernel,rfl,by decide +kernel,by decide +kernel⟩)
local macro_rules|`(tactic| walk_at "csc")=>`(tactic| exact ⟨rfl,by decide +kernel,by decide +kernel,by decide +kernel,by decide +kernel⟩)
local macro_rules|`(tactic| walk_at "ds")=>do `(tactic| simp only [$(<- ("zyc zbk zd71 List.map_cons List.map_nil List.length_cons List.length_nil Nat.reduceAdd Nat.reduceSub List.replicate List.cons_append List.nil_append".splitOn " ").toArray.mapM λ s=>`(Lean.Parser.Tactic.simpLemma| $(Lean.mkIdent s.toName):ident)),*])
local macro_rules|`(tactic| walk_at "cs")=>do `(tactic| simp only [$(<- ("cST List.map_cons List.map_nil List.replicate List.cons_append List.nil_append List.getD_cons_zero List.getD_cons_succ".splitOn " ").toArray.mapM λ s=>`(Lean.Parser.Tactic.simpLemma| $(Lean.mkIdent s.toName):ident)),*])
local macro_rules|`(tactic| walk_at "dd")=>do let f:=λ t:String=>(t.splitOn " ").toArray.mapM λ s=>`(Lean.Parser.Tactic.simpLemma| $(Lean.mkIdent s.toName):ident);let A <- f "fLeT e_dF zzg ztg itD nI zgc zzf zxc e_dC zh61 ztw zo71 zom zzn zam zlv zjw zb91 zsx zov zzx zil zbu zfw zem zr81 zha1 zb61 zge zkn zg71 zau zia1 zbl zro zqo e_gN zgl zxh e_gT zdm zvu zv61 zm81 zj81 e_cE e_cF zcn zav zyv zum zju zjm zyl zx91 ze91 zdw zzv zsm zhv zft zw51 zj71 e_nF e_cN zcy zzw zyt e_aD e_aB e_aO zim zym zio e_eN zmo zhh zco ziy zww zok zht zjv zhu zvx za81 zeo ze71 za61 zca1 zqn zrl znt zcm za71 zlw zyk fAdd fCat fI fI0 fMul fRep fEq fNe zot fIsN zd11 fIx fNeg fB fTru fLen zwy zbz fSum zm21 zk31 zu41 zdg zug zch fSl fSlF zsv zut zvv zyu zvt fzT vwT slT slot Sl.wth mApp mExt znw mPop fPut fGet fHas fII keyD nFld nCls noM nSet nIx noO noS zvo oneO znr ArgP.arg toD za51 exA oIx List.getElem?_cons_zero List.getElem?_cons_succ List.set_cons_zero List.set_cons_succ List.length_cons List.length_nil List.nil_append List.cons_append List.lookup putA setP getP Nat.reduceAdd Nat.reduceSub Nat.reduceMul Int.reduceAdd Int.reduceSub Int.reduceMul Int.reduceNeg Int.reduceLT Int.reduceLE Int.reducePow Int.reduceToNat Nat.reducePow Nat.reduceLT Nat.reduceLeDiff Nat.reduceEqDiff Int.reduceEq Int.reduceMod Int.reduceDiv Int.reduceBEq Int.reduceBNe Int.reduceGT Int.reduceGE zsy CPow Option.map_some Option.map_none Option.bind_some zb5 zd4 zq5 zy3 ze4 zv3 zn4 zo4 zm3 zn5 zk5 zf4 zk2 zm2 zj2 zj4 zr4 zq3 zd5 zg5 zh4 zk4 zg4 zb3 zq6 zn6 zc5 ze8 zu6 zz7 zi7 zp6 zc7 zc4 zx3 zf5 zd7 zy6 zw3 zg8 zx6 zr3 zv2 zu2 zk3 zf6 zo6 za8 zh6 zst zpx zev zuu r_nt r_nf zy91 zk71 zw61 zu71";let B <- f "zxr zk21 zp31 zm01 zg41 zr21 zmz zbr zu01 zz21 zla1 zf01 zis List.map_cons List.map_nil beq_self_eq_true sizeLine_eq decide_eq_true_eq decide_true decide_false Bool.not_true Bool.not_false Bool.not_eq_true' Bool.not_eq_eq_eq_not Bool.not_not decide_eq_false_iff_not decide_not true_and and_true if_true if_false Bool.false_eq_true reduceCtorEq ite_true ite_false not_false_eq_true not_true_eq_false ne_eq Option.some.injEq exists_eq_left' exists_eq_left";`(tactic| first|(dsimp only [$A,*];repeat (simp -iota only [$A,*,$B,*];try dsimp only [$A,*]))|(simp -iota only [$A,*,$B,*];try dsimp only [$A,*];repeat (simp -iota only [$A,*,$B,*];try dsimp only [$A,*])))
local macro_rules | `(tactic| walk_at "k") => `(tactic| (refine ⟨_,rfl,?_⟩; walk_at "dd"))
local macro_rules | `(tactic| walk_at "a") => do let J:=Lean.mkIdent `J; let h:=Lean.mkIdent `hJ; `(tactic| (refine ze0 fun $J $h => ?_; walk_at "dd"))
local macro_rules | `(tactic| walk_at "f") => do let h:=Lean.mkIdent `hJ; `(tactic| (refine $h _ ?_; clear $h))
local macro_rules | `(tactic| walk_at "c") => do let h:=Lean.mkIdent `hJ; `(tactic| (clear $h; walk_at "a"))
local macro_rules | `(tactic| walk_at "b") => `(tactic| (walk_at "f"; walk_at "a"))
local macro_rules | `(tactic| walk_at "g") => do let f:=Lean.mkIdent; `(tactic| intro $(f `f) $(f `cdv) $(f `A) $(f `outer) $(f `s) $(f `H) $(f `E) $(f `hr))
local macro_rules | `(tactic| walk_at "h") => `(tactic| (refine fun _ _ _ _ _ _ us hl => ?_; first | (obtain ⟨_,e⟩:=ar1 hl;subst e;rfl) | (obtain ⟨_,_,e⟩:=ar2 hl;subst e;rfl) | (obtain ⟨_,_,_,e⟩:=ar3 hl;subst e;rfl) | (obtain ⟨_,_,_,_,e⟩:=ar4 hl;subst e;rfl) | (obtain ⟨_,_,_,_,_,e⟩:=ar5 hl;subst e;rfl)))
local macro_rules | `(tactic| walk_at "i") => `(tactic| (refine fun ds Qd h => ?_; first | (obtain ⟨e,_⟩:=h;subst e;rfl) | (obtain ⟨_,e,_⟩:=h;subst e;rfl) | (obtain ⟨_,_,e,_⟩:=h;subst e;rfl) | (obtain ⟨_,_,_,e,_⟩:=h;subst e;rfl) | (obtain ⟨_,_,_,_,e,_⟩:=h;subst e;rfl) | (obtain ⟨_,_,_,_,_,e,_⟩:=h;subst e;rfl) | (obtain ⟨_,_,_,_,_,_,e,_⟩:=h;subst e;rfl) | (obtain ⟨_,_,_,_,_,_,_,e,_⟩:=h;subst e;rfl)))
local macro_rules|`(tactic| walk_at "dn")=>`(tactic| (refine ze0 λ J hJ=>?_;walk_at "dd";refine hJ _ ?_;clear hJ))
local macro_rules|`(tactic| walk_at "dns")=>`(tactic| repeat walk_at "dn")
namespace _29
open PySem PySem.Spec PyProof.Rows _2 _3 _4 _5
variable {G G':Nat->Nat->Int} {N g i m n u:Nat} {cs:List Int} {f:Nat->Int} {gv_SINK gv_SOURCE:Value} {x:Int}
def top (i:Nat):Stmt:=PySem.Challenge.pw_vatyard_k29_met_where_a_plan_meets.main.body.getD i (.Pass ⟨0,0,0,0⟩)
abbrev zx1:Stmt:=zz3 (top 1) 0
abbrev zf3:Stmt:=zz3 (top 1) 1
abbrev zl4:Stmt:=zz3 (top 1) 2
abbrev ze2:Stmt:=zz3 (top 1) 3
abbrev zh2:Stmt:=zz3 (top 1) 4
abbrev zm4:Stmt:=zz3 (top 1) 5
abbrev zp3:Stmt:=zz3 (top 1) 6
abbrev zy2:Stmt:=zz3 (top 1) 7
abbrev zwa:Stmt:=top 2
abbrev zt2:Stmt:=zz3 (top 5) 0
abbrev zs2:Stmt:=zz3 (top 5) 1
abbrev zp4:Stmt:=zz3 (top 6) 0
abbrev zi4:Stmt:=zz3 (top 6) 1
abbrev zh3:Stmt:=zz3 (top 7) 0
abbrev zl3:Stmt:=zz3 (top 7) 1
abbrev zmd:Stmt:=top 8
abbrev zul:Stmt:=top 9
abbrev zjx:Stmt:=top 13
abbrev zqv:Stmt:=top 14
abbrev zx8:Stmt:=top 15
abbrev zba:Stmt:=top 16
abbrev zb31:Stmt:=top 17
abbrev zhe:Stmt:=top 18
abbrev zib:Stmt:=top 20
abbrev zp2:Stmt:=top 21
abbrev zci:Stmt:=top 22
abbrev ze5:Stmt:=top 24
abbrev zb8:Stmt:=top 25
abbrev zg9:Stmt:=top 26
abbrev zh9:Stmt:=top 27
abbrev zo5:Stmt:=top 28
abbrev zd3:Stmt:=top 29
abbrev zb7:Stmt:=top 30
abbrev zm7:Stmt:=top 31
abbrev zn7:Stmt:=top 32
abbrev zf8:Stmt:=top 33
abbrev zp5:Stmt:=top 34
abbrev zo7:Stmt:=top 35
abbrev zk01:Stmt:=top 36
section
variable {P:Program} {w:World} {K:Fg} {mg:Str->Option Value} {base:Heap} {jA:Addr}
noncomputable def zm6 (C:Addr):DSpT:=λ as Q=>∃ (m:Nat) (E:List Nat) (L:List Int) (S:List (List Nat)) (lv:List (Nat×Nat)) (tr:List Nat) (lev:Nat),as=[.b (oS C E L S),.b (.dk (kN lv)),.o (.li (tr.map nI)),.d (nI lev)]/\E.length=2 * m/\L.length=2 * m /\
 (∀ s∈tr,s < 2 * m/\(0 < lf L s->(lkp lv (hd E s)).isSome=true))/\∀ j,j<=tr.length->(∀ (i:Nat) s,j<=i->tr[i]?=some s->¬(0 < lf L s/\lkp lv (hd E s)=some lev))->(j=0->Q (.fz .none) (.li []))/\∀ s,0 < j->tr[j - 1]?=some s->0 < lf L s->lkp lv (hd E s)=some lev->Q (.fz (nI s)) (.li ((tr.take j).map nI))
theorem zw5:FnScope ["self", "levels", "steps", "level", "step"] ["self", "levels", "steps", "level"] (zi0 zp3):=by walk_at "sc"
theorem zy9 (jB:Cls K jA) (T:TopMeth K jA "step_up" "Stream.step_up" zp3) (jM:mg "len"=none) (jC:NoAttr K jA "left") (jF:NoAttr K jA "ends"):MethD P w K mg base jA "step_up" 1 ["self", "levels", "steps", "level"] (spT K (zm6 jA)):=by
 refine zx7 jB T zw5 (by walk_at "h") (zxg λ as Qd h=>by obtain ⟨_,_,_,_,_,_,_,rfl,_⟩:=h;rfl) (zd8 ?_);walk_at "g";have nd:=zw5.nd;refine ⟨_,_,(zd0 (zhb PassesOwn.never (zw4 (K:=K) rfl (pv 2) (λ _=>rfl)) (zd0 (pset 4 nd (pix w K hr (pv 2) (za1 zod (zq0 (ze1 (K:=K) rfl) rfl jM zh5 (za0 (pv 2) zg0)) zf0)))
   (zd0 (zh8 (PW.pt (zkm (zt0 zcx (pix w K hr (zs1 (K:=K) rfl (pv 0) rfl) (pv 4)) zf0 (zi1 _)) (zuf (zt0 (zl5 (K:=K) rfl (Room.units hr)) (pix w K hr (pv 1) (pix w K hr (zs1 (K:=K) rfl (pv 0) rfl) (pv 4))) (pv 3) (zi1 _))))) (zj0 (zc1 (pv 4))) zk1)
   (zj0 (zd2 (zjo (K:=K) rfl ğa ğh ği zyw (pv 2)))))))
   (zj0 (zc1 zqx))),(zm0 (zda (ze9 (zc0 2)) (zm0 (zh1 (zl0 r_ix (zc0 2) (RfE.v (zl0 zcq (RfE.v (zn8 zgd (zu0 (zc0 2) zm1))) rvi))) (rgn 4))
   (zm0 (zi8 (zfl (zs0 (zl0 r_gt (RfE.v (zl0 r_ix (RfP.v (zu3 jB jC (zp0 0))) (zc0 4))) rvi)) (zs0 (zr2 q_eq (RfV.h (RfE.v (zhj (zp0 1) (zl0 r_ix (RfP.v (zu3 jB jF (zp0 0))) (zc0 4))))) (RfV.h (zc0 3))))) (zg1 (RfE.c (zh0 4))) zj1)
   (zc2 (ztv zew (zp0 2))))))
   (zg1 (RfE.c zcu))),?_⟩
 rintro as Qd a ⟨m,E,L,S,lv,tr,lev,rfl,hE,hL,hb,q⟩;walk_at "ds";refine zpg ?_;refine ⟨λ μ U=>∃ s4,μ<=tr.length/\(∀ (i:Nat) s,μ<=i->tr[i]?=some s->¬(0 < lf L s/\lkp lv (hd E s)=some lev))/\U=[.bo (oS jA E L S),.bo (.dk (kN lv)),.io a (.li ((tr.take μ).map nI)),.sh (nI lev),s4],⟨tr.length,.un,u6 _,λ i s hi e=>?_,?_⟩,?_⟩
 ·rw [v9 hi] at e;cases e
 ·rw [xA]
 rintro μ U ⟨s4,hμ,bad,rfl⟩;obtain ⟨q0,q1⟩:=q μ hμ bad;walk_at "dd";cases μ with
|zero =>
  simp only [y3,x8,List.isEmpty_nil];walk_at "dd";exact ⟨_,rfl,q0 rfl⟩
|succ μ =>
  obtain ⟨s,hs⟩:∃ s,tr[μ]?=some s:=⟨tr[μ]'(by lia),u7 _⟩
  have hsm:=hb s (wF hs);have el:((tr.take (μ+1)).map nI).length=μ+1:=by rw [u5,wM];lia
  have e1:((tr.take (μ+1)).map nI).isEmpty=false:=by
   rw [List.isEmpty_eq_false_iff];intro z;rw [z] at el;simp at el
  have es:(tr.take (μ+1))[μ]?=some s:=by rw [uaG (by lia)];exact hs
  rw [e1];walk_at "dd";walk_at "a";rw [el,show ((μ+1:Nat):Int) - 1=(μ:Int) by lia];refine ⟨_,zfc1 es,?_⟩;walk_at "dd";walk_at "f";have next:¬(0 < lf L s/\lkp lv (hd E s)=some lev)->∃ m',m' < μ+1/\∃ s4,m'<=tr.length/\(∀ (i:Nat) s,m'<=i->tr[i]?=some s->¬(0 < lf L s/\lkp lv (hd E s)=some lev))/\([Sl.bo (oS jA E L S),Sl.bo (.dk (kN lv)),Sl.io a (.li ((tr.take (μ+1)).map nI).dropLast),Sl.sh (nI lev),Sl.sh (nI s)]:DSt)=[.bo (oS jA E L S),.bo (.dk (kN lv)),.io a (.li ((tr.take m').map nI)),.sh (nI lev),s4]:=λ hn=>by
   refine ⟨μ,by lia,.sh (nI s),by lia,λ i s' hi e=>?_,?_⟩
   ·rcases wP μ i with z|z
    ·exact bad i s' (by lia) e
    ·have:i=μ:=by lia
     subst this;rw [hs] at e;cases e;exact hn
   ·rw [j3,el,yD,<- List.map_take,List.take_take,j9 (by lia)]
  have pop:¬(0 < lf L s/\lkp lv (hd E s)=some lev)->∃ d,((tr.take (μ+1)).map nI)[((tr.take (μ+1)).map nI).length - 1]?=some d/\∃ m',m' < μ+1/\∃ s4,m'<=tr.length/\(∀ (i:Nat) s,m'<=i->tr[i]?=some s->¬(0 < lf L s/\lkp lv (hd E s)=some lev))/\([Sl.bo (oS jA E L S),Sl.bo (.dk (kN lv)),Sl.io a (.li ((tr.take (μ+1)).map nI).dropLast),Sl.sh (nI lev),Sl.sh (nI s)]:DSt)=[.bo (oS jA E L S),.bo (.dk (kN lv)),.io a (.li ((tr.take m').map nI)),.sh (nI lev),s4]:=λ hn =>
   ⟨nI s,by rw [el,yD,u8,es];rfl,next hn⟩
  walk_at "a";refine ⟨_,zu61 hL hsm.1,?_⟩;walk_at "dd";refine two (λ hp=>?_) λ hp=>hJ _ ?_
  ·obtain ⟨b,hbb⟩:=xH.mp (hsm.2 hp);refine ⟨_,zh51 hE hsm.1,?_⟩;walk_at "dd";refine ⟨_,nI b,rfl,by rw [zgc,hbb];rfl,?_⟩;walk_at "dd";refine two (λ he=>?_) λ he=>hJ _ ?_
   ·have:b=lev:=by lia
    subst this;exact ⟨_,rfl,q1 s (by lia) (by rw [yD];exact hs) hp hbb⟩
   ·walk_at "dd";exact pop λ z=>by rw [hbb] at z;exact he (by have:=z.2;injection this with this;rw [this])
  ·walk_at "dd";exact pop λ z=>hp z.1
noncomputable def zl8 (C:Addr):DSpT:=λ as Q=>∃ (m:Nat) (E:List Nat) (L:List Int) (S:List (List Nat)) (p:List Nat),as=[.o (oS C E L S),.d (.list (p.map nI))]/\E.length=2 * m/\L.length=2 * m/\p≠[]/\p.length<=1000000/\(∀ s∈p,s < 2 * m) /\
 ∀ a,(∃ s∈p,a=lf L s)->(∀ s∈p,a<=lf L s)->Q (.fz .none) (oS C E (za3 L p a) S)
theorem zhk (L:List Int) (p:List Nat) (s:Nat) (a:Int):za3 L (p++[s]) a=zfg (za3 L p a) s a:=by unfold za3;rw [List.foldl_append];rfl
theorem zs7:FnScope ["self", "path", "amount", "step"] ["self", "path"] (zi0 zy2):=by walk_at "sc"
theorem zsb (jB:Cls K jA) (T:TopMeth K jA "carry" "Stream.carry" zy2) (qJ:mg "min"=none) (jC:NoAttr K jA "left"):MethD P w K mg base jA "carry" 1 ["self", "path"] (spT K (zl8 jA)):=by
 refine zx7 jB T zs7 (by walk_at "h") (zxg λ as Qd h=>by obtain ⟨_,_,_,_,_,rfl,_⟩:=h;rfl) (zd8 ?_);walk_at "g";have nd:=zs7.nd;refine ⟨_,_,(zd0 (pset 2 nd (zq0 (zdq (K:=K) rfl rfl) rfl qJ zkq (za0 (zl9 (sc:=zi0 zy2) (N:=["self", "path", "amount", "step"]) (own:=["step"]) (ix:=[0]) rfl rfl rfl (by walk_at "csc") (pi_W (K:=K) rfl (pv 1)) (λ _ _ _ _=>⟨(pgn 0 (nds ["step", "self"])),zv5,(pix w K hr (zs1 (K:=K) rfl (pv 1) rfl) (pv 0))⟩)) zg0)))
   (zj0 (zs4 PassesOwn.never rfl (pi_W (K:=K) rfl (pv 1)) (pgn 3 nd) (zd0 (zac (zs1 (K:=K) rfl (pv 0) rfl) (pv 3) (zky (K:=K) (Room.units hr) rfl) (pv 2) zuw (zas (Room.units hr)))
   (zj0 (zac (zs1 (K:=K) rfl (pv 0) rfl) (za1 zp21 (pv 3) zf0) (zky (K:=K) (Room.units hr) rfl) (pv 2) zwl (zas (Room.units hr)))))))),(zm0 (zh1 (zn8 zq91 (zu0 (RfE.v (RfF.e (zx5 (zoy (zc0 1)) (zg2 (i:=0) (n:=1) (by decide)) zp7 (zl0 r_ix (RfP.v (zu3 jB jC (zp0 1))) (zc0 0))))) zm1)) (rgn 2))
   (zv4 (zeq (zh0 1)) (rgn 3) (zm0 (zbc (zu3 jB jC (zp0 0)) (zh0 3) (zh0 2))
   (zbc (zu3 jB jC (zp0 0)) (zl0 zlc1 (zc0 3) rvi) (zh0 2))))),?_⟩
 rintro as Qd a ⟨m,E,L,S,p,rfl,hE,hL,hne,hz,hb,q⟩;walk_at "ds";walk_at "a";refine zix (λ s=>.int (lf L s)) (by rw [sizeLine_eq];lia) (λ s hs=>?_) ?_
 ·walk_at "cs";walk_at "dd";exact ⟨_,zu61 hL (hb s hs),rfl⟩
 refine ⟨p.map (lf L),?_,by simpa using hne,λ M hM hx=>hJ _ ?_⟩
 ·rw [<- _4.ints_map (p.map (lf L)),wL];rfl
 clear hJ;walk_at "dd";refine zf2 (λ i U=>∃ s3,U=[.io a (oS jA E (za3 L (p.take i) M) S),.sh (.list (p.map nI)),.sh (.int M),s3]) ⟨.un,rfl⟩ ?_ ?_
 ·rintro i s U' hs ⟨s3,rfl⟩;have hsm:=hb s (wF hs);have hl:(za3 L (p.take i) M).length=2 * m:=by rw [zla];exact hL
  rw [show p.take (i+1)=p.take i++[s] by rw [xL,hs];rfl,zhk];generalize za3 L (p.take i) M=L1 at hl ⊢;walk_at "dd";walk_at "a";have get:∀ {LL:List Int} {j:Nat},j < LL.length->(LL.map u4)[((j:Nat):Int).toNat]?=some (.int (lf LL j)):=λ {LL j} h=>by
   rw [vR,u8];unfold lf;rw [vS,u7 h];rfl
  have ixn:∀ {LL:List Int} {j:Nat},j < LL.length->ixN (LL.map u4).length ((j:Nat):Int)=some j:=λ {LL j} h=>by
   unfold ixN;rw [if_pos (by lia),if_pos (by rw [u5];lia),vR]
  refine ⟨by lia,_,get (by lia),?_⟩;walk_at "dd";refine ⟨s,ixn (by lia),hJ _ ?_⟩;clear hJ;rw [show (L1.map u4).set s (.int (lf L1 s - M))=(L1.set s (lf L1 s - M)).map .int from (zT ..).symm];walk_at "dd";rw [ze11];have hx:xr s < 2 * m:=zk51 hsm;refine ⟨by lia,_,get (by rw [wD];lia),?_⟩;walk_at "dd";refine ⟨xr s,ixn (by rw [wD];lia),.sh (nI s),?_⟩;rw [show ((L1.set s (lf L1 s - M)).map u4).set (xr s) (.int (lf (L1.set s (lf L1 s - M)) (xr s)+M))=((L1.set s (lf L1 s - M)).set (xr s) (lf (L1.set s (lf L1 s - M)) (xr s)+M)).map .int from (zT ..).symm];rw [zfy (by lia),if_neg (λ z=>zl61 s z.symm)];rfl
 ·rintro U' ⟨s3,rfl⟩;rw [xA];obtain ⟨s0,hs0,e0⟩:=vQ.mp hM;walk_at "dd";exact ⟨_,rfl,q M ⟨s0,hs0,e0.symm⟩ λ s hs=>hx _ (zM hs)⟩
noncomputable def zb4 (C:Addr):DSpT:=λ as Q=>∃ (n m:Nat) (E:List Nat) (L:List Int) (S:List (List Nat)) (src:Nat) (lv:List (Nat×Nat)) (row:List Nat) (lev:Nat),as=[.b (oS C E L S),.d (.list (row.map nI)),.o (.dk (kN lv))]/\n<=100000/\Net n m E S/\L.length=2 * m/\Bfs n m E L src lv row lev /\
 ∀ lv' row',Bfs n m E L src lv' row' (lev+1)->lv'.length=lv.length+row'.length->Q (.fz (.list (row'.map nI))) (.dk (kN lv'))
theorem zt3:FnScope ["self", "row", "told", "behind", "here", "step", "goal"] ["self", "row", "told"] (zi0 ze2):=by walk_at "sc"
theorem zy7 (jB:Cls K jA) (T:TopMeth K jA "row_behind" "Stream.row_behind" ze2) (jI:NoAttr K jA "steps") (jF:NoAttr K jA "ends") (jC:NoAttr K jA "left"):MethD P w K mg base jA "row_behind" 1 ["self", "row", "told"] (spT K (zb4 jA)):=by
 refine zx7 jB T zt3 (by walk_at "h") (zxg λ as Qd h=>by obtain ⟨_,_,_,_,_,_,_,_,_,rfl,_⟩:=h;rfl) (zd8 ?_);walk_at "g";have nd:=zt3.nd;refine ⟨_,_,(zd0 (pset 3 nd (zp1 zg0))
   (zd0 (zs4 PassesOwn.never rfl (pi_W (K:=K) rfl (pv 1)) (pgn 4 nd) (zj0 (zs4 PassesOwn.never rfl (pi_W (K:=K) rfl (pix w K hr (zs1 (K:=K) rfl (pv 0) rfl) (pv 4))) (pgn 5 nd) (zd0 (pset 6 nd (pix w K hr (zs1 (K:=K) rfl (pv 0) rfl) (pv 5)))
   (zj0 (zh8 (PW.pt (zkm (zt0 zcx (pix w K hr (zs1 (K:=K) rfl (pv 0) rfl) (pv 5)) zf0 (zi1 _)) (zuf (zt0 (zui (w:=w) (K:=K) (Room.units hr) rfl rfl) (pv 6) (pv 2) (by with_unfolding_all rfl))))) (zd0 (ztn (za1 (zb1 (K:=K) rfl) (pix w K hr (pv 2) (pv 4)) zf0) (zi11 (pv 2) (pv 6) (zas (Room.units hr))))
   (zj0 (zd2 (zg6 (K:=K) rfl ğa ğb ğc zy1 (pv 3) (za0 (pv 6) zg0))))) zk1))))))
   (zj0 (zc1 (pv 3))))),(zm0 (ze3 (RfF.c (zn3 zk0)))
   (zm0 (zv4 (zeq (zh0 1)) (rgn 4) (zv4 (zeq (zl0 r_ix (RfP.v (zu3 jB jI (zp0 0))) (zc0 4))) (rgn 5) (zm0 (zh1 (zl0 r_ix (RfP.v (zu3 jB jF (zp0 0))) (zc0 5)) (rgn 6))
   (zi8 (zfl (zs0 (zl0 r_gt (RfE.v (zl0 r_ix (RfP.v (zu3 jB jC (zp0 0))) (zc0 5))) rvi)) (zs0 (zqs (zh0 6) (zp0 2)))) (zm0 (zw21 (zl0 zd6 (RfE.v (zhj (zp0 2) (zh0 4))) rvi) (zp0 2) (zh0 6))
   (zc2 (zbg zia (zp0 3) (zb0 (zh0 6) zk0)))) zj1))))
   (zmf 3 [] (zj9 (i:=3))))),?_⟩
 rintro as Qd a ⟨n,m,E,L,S,src,lv,row,lev,rfl,hn,N,hL,B,q⟩;walk_at "ds";walk_at "a";walk_at "b";refine zf2 (λ i U=>∃ lv1 beh s4 s5 s6,Mid n m E L lv lev lv1 beh/\(∀ v∈row.take i,∀ l,S[v]?=some l->∀ s∈l,0 < lf L s->(lkp lv1 (hd E s)).isSome=true) /\
  U=[.bo (oS jA E L S),.sh (.list (row.map nI)),.io a (.dk (kN lv1)),.ow (.li (beh.map nI)),s4,s5,s6]) ⟨lv,[],.un,.un,.un,Mid.start B,λ v hv=>by simp at hv,rfl⟩ ?_ ?_
 ·rintro i v U hv ⟨lv1,beh,s4,s5,s6,M,cl,rfl⟩;have hvr:=wF hv;have hvl:=M.old _ _ (B.ro v hvr);have hvn:=B.bd _ (zao (B.ro v hvr));obtain ⟨l,hl⟩:∃ l,S[v]?=some l:=⟨S[v]'(by rw [N.lS];exact hvn),u7 _⟩
  walk_at "dd";refine ⟨_,zud1 hl,?_⟩;walk_at "dd";refine zf2 (λ j U=>∃ lv1 beh s5 s6,Mid n m E L lv lev lv1 beh/\(∀ v∈row.take i,∀ l,S[v]?=some l->∀ s∈l,0 < lf L s->(lkp lv1 (hd E s)).isSome=true)/\(∀ s∈l.take j,0 < lf L s->(lkp lv1 (hd E s)).isSome=true) /\
   U=[.bo (oS jA E L S),.sh (.list (row.map nI)),.io a (.dk (kN lv1)),.ow (.li (beh.map nI)),.sh (nI v),s5,s6]) ⟨lv1,beh,s5,s6,M,cl,λ s hs=>by simp at hs,rfl⟩ ?_ ?_
  ·clear M hvl cl lv1 beh s4 s5 s6;rintro j s U hs ⟨lv1,beh,s5,s6,M,cl,cj,rfl⟩;have hvl:=M.old _ _ (B.ro v hvr);have hsl:=wF hs;obtain ⟨hsm,hst⟩:=N.s1 v l hl s hsl;have hz:lv1.length<=n:=by
    have:=zf1 n (lv1.map (·.1)) M.nd (λ x hx=>by obtain ⟨p,hp,rfl⟩:=vQ.mp hx;exact M.bd p hp)
    rwa [u5] at this
   have hz2:=M.len;have tk:∀ x∈l.take (j+1),x∈l.take j \/ x=s:=λ x hx=>by
    rw [xL,hs] at hx;rcases vJ.mp hx with z|z
    ·exact .inl z
    ·simp at z;exact .inr z
   walk_at "dd";refine ze0 λ J2 hJ2=>?_;walk_at "dd";refine ⟨_,zh51 N.lE hsm,?_⟩;walk_at "dd";refine hJ2 _ ?_;clear hJ2;walk_at "dd";refine ⟨_,zu61 hL hsm,?_⟩;walk_at "dd";refine two (λ hp=>?_) λ hp=>?_
   ·rw [yY];refine two (λ hg=>?_) λ hg=>?_
    ·have hg:lkp lv1 (hd E s)=none:=by simpa using hg
     refine ze0 λ J2 hJ2=>?_;walk_at "dd";refine ⟨_,nI lev,rfl,by rw [zgc,hvl];rfl,?_⟩;walk_at "dd";refine ⟨by rw [kN,u5];lia,hJ2 _ ?_⟩;clear hJ2;rw [show (u4 ((lev:Int)+1))=nI (lev+1) from rfl,zt01 hg];walk_at "dd";refine ⟨by rw [u5];lia,lv1++[(hd E s,lev+1)],beh++[hd E s],_,_,M.put hsm hp (by rw [hst];exact hvl) (N.bE s hsm) hg,λ u hu k hk x hx hp'=>?_,λ x hx hx0=>?_,by rw [vY];rfl⟩
     ·obtain ⟨b,hb⟩:=xH.mp (cl u hu k hk x hx hp');rw [zpc,hb];rfl
     ·rcases tk x hx with z|z
      ·obtain ⟨b,hb⟩:=xH.mp (cj x z hx0);rw [zpc,hb];rfl
      ·rw [z,zpc,hg];simp
    ·exact ⟨lv1,beh,_,_,M,cl,λ x hx hx0=>(tk x hx).elim (λ z=>cj x z hx0) λ z=>by rw [z];cases q:lkp lv1 (hd E s) with|none=>exact absurd (by rw [q];rfl) hg|some b=>rfl,rfl⟩
   ·exact ⟨lv1,beh,_,_,M,cl,λ x hx hx0=>(tk x hx).elim (λ z=>cj x z hx0) λ z=>absurd (z ▸ hx0) hp,rfl⟩
  ·rintro U ⟨lv1,beh,s5,s6,M,cl,cj,rfl⟩;refine ⟨lv1,beh,_,_,_,M,λ u hu k hk s hs hp=>?_,rfl⟩;rw [xL,hv] at hu;rcases vJ.mp hu with z|z
   ·exact cl u z k hk s hs hp
   ·simp at z;subst z;rw [hl] at hk;cases hk;rw [xA] at cj;exact cj s hs hp
 ·rintro U ⟨lv1,beh,s4,s5,s6,M,cl,rfl⟩;rw [xA] at cl;refine hJ _ ?_;walk_at "dd";refine ⟨_,_,rfl,rfl,?_⟩;exact ⟨_,rfl,q _ _ (Mid.bfs N B M cl) M.len⟩
noncomputable def zu7 (C:Addr):DSpT:=λ as Q=>∃ (n m:Nat) (E:List Nat) (L:List Int) (S:List (List Nat)) (src:Nat),as=[.b (oS C E L S),.d (nI src)]/\n<=100000/\Net n m E S/\L.length=2 * m/\src < n /\
 ∀ lv,Lev n m E L src lv->∀ t,Q (.dk (kN lv)) t
theorem zj6:FnScope ["self", "source", "told", "row"] ["self", "source"] (zi0 zl4):=by walk_at "sc"
theorem zeb (jB:Cls K jA) (T:TopMeth K jA "levels" "Stream.levels" zl4) (jY:MethD P w K mg base jA "row_behind" 1 ["self", "row", "told"] (spT K (zb4 jA))):MethD P w K mg base jA "levels" 2 ["self", "source"] (spT K (zu7 jA)):=by
 refine zx7 jB T zj6 (by walk_at "h") (zxg λ as Qd h=>by obtain ⟨_,_,_,_,_,_,rfl,_⟩:=h;rfl) (zd8 ?_);walk_at "g";have nd:=zj6.nd;refine ⟨_,_,(zd0 (pset 2 nd (zs31 (zey (pv 1) zf0 zu31) rfl rfl (by simp) (by decide)))
   (zd0 (pset 3 nd (zp1 (za0 (pv 1) zg0)))
   (zd0 (zhb PassesOwn.never (zw4 (K:=K) rfl (pv 3) (λ _=>rfl)) (zj0 (pset 3 nd (zg7 jY (rmn hr) (pv 0) (za0 (pv 3) (za0 (pv 2) zg0))))))
   (zj0 (zc1 (pv 2)))))),(zm0 (ze3 (zr71 (zh0 1) zv0))
   (zm0 (zh1 (RfF.e (zn3 (zb0 (zh0 1) zk0))) (rgn 3))
   (zm0 (zda (ze9 (zc0 3)) (ze3 (zm9 false (zp0 0) (at_d (zh0 3) (at_o (zp0 2) zr8)))))
   (zj9 (i:=2))))),?_⟩
 rintro as Qd a ⟨n,m,E,L,S,src,rfl,hn,N,hL,hs,q⟩;walk_at "ds";walk_at "a";walk_at "b";walk_at "f";refine zpg ?_;refine ⟨λ μ U=>∃ lv row lev,Bfs n m E L src lv row lev/\μ=2 * (n - lv.length)+(if row=[] then 0 else 1)/\U=[.bo (oS jA E L S),.sh (nI src),.ow (.dk (kN lv)),.sh (.list (row.map nI))],⟨_,[(src,0)],[src],0,Bfs.start hs,rfl,rfl⟩,?_⟩;rintro μ U ⟨lv,row,lev,B,rfl,rfl⟩;walk_at "dd";refine two (λ hr0=>?_) λ hr0=>?_
 ·refine ⟨n,m,E,L,S,src,lv,row,lev,rfl,hn,N,hL,B,λ lv' row' B' e=>⟨_,?_,lv',row',lev+1,B',rfl,rfl⟩⟩;have hz:=zf1 n (lv'.map (·.1)) B'.nd (λ x hx=>by obtain ⟨p,hp,rfl⟩:=vQ.mp hx;exact B'.bd p hp);rw [u5] at hz;have hr1:row≠[]:=λ z=>by rw [z] at hr0;cases hr0
  rw [if_neg hr1];by_cases z:row'=[]
  ·subst z;rw [if_pos rfl];simp at e;lia
  ·have:=List.length_pos_iff.mpr z;rw [if_neg z];lia
 ·have hr1:row=[]:=by
   cases row with
  |nil=>rfl
  |cons x r=>exact absurd rfl hr0
  subst hr1;exact q lv B.lev _
abbrev tT (TT:List (List Nat)):_4.T:=.ls (TT.map λ l=>.li (l.map nI))
theorem setT {TU:List (List Nat)} {v:Nat} (x:List Nat):(TU.map λ l=>_4.T.li (l.map nI)).set v (.li (x.map nI))=(TU.set v x).map λ l=>_4.T.li (l.map nI):=by rw [zT]
noncomputable def zq7 (C:Addr):DSpT:=λ as Q=>∃ (n m:Nat) (E:List Nat) (L:List Int) (S:List (List Nat)) (lv:List (Nat×Nat)) (TT:List (List Nat)) (src snk:Nat),as=[.b (oS C E L S),.b (.dk (kN lv)),.o (tT TT),.d (nI src),.d (nI snk)]/\m<=400000/\Net n m E S/\L.length=2 * m/\src < n/\src≠snk/\lkp lv src=some 0 /\
 (∀ s,s < 2 * m->0 < lf L s->(lkp lv (tl E s)).isSome=true->(lkp lv (hd E s)).isSome=true)/\Tri m E S L lv snk TT /\
 (∀ TT',¬ Rch m E L lv snk src->Q (.fz (.list [])) (tT TT'))/\∀ p TT',Tri m E S L lv snk TT'->Way m E L lv src p snk->Q (.fz (.list (p.map nI))) (tT TT')
theorem zw6:FnScope ["self", "levels", "tries", "source", "sink", "path", "here", "step"] ["self", "levels", "tries", "source", "sink"] (zi0 zm4):=by walk_at "sc"
theorem zcb (jB:Cls K jA) (T:TopMeth K jA "way_up" "Stream.way_up" zm4) (jF:NoAttr K jA "ends") (kI:MethD P w K mg base jA "step_up" 1 ["self", "levels", "steps", "level"] (spT K (zm6 jA))):MethD P w K mg base jA "way_up" 2 ["self", "levels", "tries", "source", "sink"] (spT K (zq7 jA)):=by
 refine zx7 jB T zw6 (by walk_at "h") (zxg λ as Qd h=>by obtain ⟨_,_,_,_,_,_,_,_,_,rfl,_⟩:=h;rfl) (zd8 ?_);walk_at "g";have nd:=zw6.nd;refine ⟨_,_,(zd0 (pset 5 nd (zp1 zg0))
   (zd0 (pset 6 nd (pv 3))
   (zd0 (zhb PassesOwn.never (zt0 (zik (K:=K) rfl (Room.units hr)) (pv 6) (pv 4) (zi1 _)) (zd0 (pset 7 nd (zg7 kI (rmn hr) (pv 0) (za0 (pv 1) (za0 (pix w K hr (pv 2) (pv 6)) (za0 (za1 (zb1 (K:=K) rfl) (pix w K hr (pv 1) (pv 6)) zf0) zg0)))))
   (zj0 (zh8 (zt0 zd01 (pv 7) zqx (zi1 _)) (zd0 (zd2 (zg6 (K:=K) rfl ğa ğb ğc zy1 (pv 5) (za0 (pv 7) zg0)))
   (zj0 (pset 6 nd (pix w K hr (zs1 (K:=K) rfl (pv 0) rfl) (pv 7))))) (zj0 (zh8 (zw4 (K:=K) rfl (pv 5) (λ _=>rfl)) (zd0 (pset 6 nd (pix w K hr (zs1 (K:=K) rfl (pv 0) rfl) (za1 zp21 (zjo (K:=K) rfl ğa ğh ği zyw (pv 5)) zf0)))
   (zj0 (zd2 (zjo (K:=K) rfl ğa ğh ği zyw (pix w K hr (pv 2) (pv 6)))))) (zj0 (zc1 (pv 5)))))))))
   (zj0 (zc1 (pv 5)))))),(zm0 (ze3 (RfF.c (zn3 zk0)))
   (zm0 (zh1 (zh0 3) (rgn 6))
   (zm0 (zda (zs0 (zr2 q_ne (RfV.h (zc0 6)) (RfV.h (zc0 4)))) (zm0 (ze3 (zm9 false (zp0 0) (at_b (zp0 1) (at_o (zg51 (zp0 2) (zh0 6)) (at_d (zl0 zd6 (RfE.v (zhj (zp0 1) (zh0 6))) rvi) zr8)))))
   (zi8 (zs0 (zl0 zh71 (zc0 7) (RfE.v zcu))) (zm0 (zc2 (zbg zia (zp0 5) (zb0 (zh0 7) zk0)))
   (zh1 (zl0 r_ix (RfP.v (zu3 jB jF (zp0 0))) (zc0 7)) (rgn 6))) (zi8 (ze9 (zc0 5)) (zm0 (ze3 (zi01 (RfP.e (zu3 jB jF (zp0 0))) zlc1 (ztv zew (zp0 5)) zv0))
   (zc2 (ztv zew (zg51 (zp0 2) (zh0 6))))) (zmf 5 [] (zj9 (i:=5)))))))
   (zmf 5 [] (zj9 (i:=5)))))),?_⟩
 rintro as Qd a ⟨n,m,E,L,S,lv,TT,src,snk,rfl,hm,N,hL,hsn,hss,l0,cl,tri,q0,q1⟩;walk_at "ds";walk_at "a";walk_at "b";walk_at "f";refine zpg ?_;refine ⟨λ μ U=>∃ p here TT s7,Go m E S L lv snk src p here TT/\μ=szT TT * (2 * m+2)+(2 * m+1 - p.length)/\U=[.bo (oS jA E L S),.bo (.dk (kN lv)),.io a (tT TT),.sh (nI src),.sh (nI snk),.ow (.li (p.map nI)),.sh (nI here),s7],
  ⟨_,[],src,TT,.un,⟨tri,rfl,l0,λ s hs=>by simp at hs⟩,rfl,rfl⟩,?_⟩
 rintro μ U ⟨p,here,TU,s7,g,rfl,rfl⟩;have hpl:=g.short g.way.lt;have hln:p.length=p.length:=rfl;walk_at "dd";refine two (λ hne=>?_) λ hne=>?_
 ·have hne:here≠snk:=λ z=>hne (by rw [z]);obtain ⟨k,hk⟩:∃ k,TU[here]?=some k:=by
   have:here < n:=by
    cases p with
   |nil=>have e:src=here:=g.way;rw [<- e];exact hsn
   |cons x r =>
     obtain ⟨y,hy⟩:∃ y,(x :: r).getLast?=some y:=⟨_,uaU⟩
     obtain ⟨r0,e⟩:=uaV.mp hy;have gw:=g.way;rw [e] at gw;obtain ⟨_,w2,w3,_⟩:=gw.unsnoc;rw [<- w2];exact N.bE y w3
   exact ⟨TU[here]'(by rw [g.tri.len,N.lS];exact this),u7 _⟩
  have hkl:=zpe hk;have gT:(TU.map λ l=>_4.T.li (l.map nI))[here]?=some (_4.T.li (k.map nI)):=by rw [u8,hk];rfl
  walk_at "a";refine ⟨here,.li (k.map nI),by rw [u5];exact zqi hkl,by rw [u8,hk];rfl,_,nI p.length,rfl,by rw [zgc,g.lev];rfl,?_⟩;walk_at "dd";refine ⟨m,E,L,S,lv,k,p.length+1,rfl,N.lE,hL,λ s hs=>?_,λ j hj bad=>⟨λ h0=>hJ _ ?_,λ s h0 hs hp hlv=>hJ _ ?_⟩⟩
  ·obtain ⟨k2,h1,h2⟩:=g.tri.pre here k hk;obtain ⟨hsm,hst⟩:=N.s1 here k2 h1 s (h2.subset hs);exact ⟨hsm,λ hp=>cl s hsm hp (by rw [hst,g.lev];rfl)⟩
  ·subst h0;have eT:(TU.map λ l=>_4.T.li (l.map nI)).set here (.li [])=(TU.set here []).map λ l=>_4.T.li (l.map nI):=setT [];rw [gT];simp only [];rw [eT];walk_at "dd";refine two (λ hp=>?_) λ hp=>?_
   ·obtain ⟨y,hy⟩:∃ y,p.getLast?=some y:=by
     cases p with
    |nil=>cases hp
    |cons x r=>exact ⟨_,uaU⟩
    obtain ⟨p0,rfl⟩:=uaV.mp hy;obtain ⟨hym,k2,hk2,g2,hsz⟩:=g.back N hk hne bad;walk_at "a";refine ⟨nI y,by simp,?_⟩;walk_at "dd";rw [ze11];refine ⟨_,zh51 N.lE (zk51 hym),hJ _ ?_⟩;clear hJ;rw [show (v6 nI (p0++[y])).dropLast=p0.map nI by rw [vY];exact uaW,zy21];have hz2:=zpe hk2;have gT2:((TU.set here []).map λ l=>_4.T.li (l.map nI))[tl E y]?=some (_4.T.li ((k2++[y]).map nI)):=by rw [u8,hk2];rfl
    walk_at "dd";refine ⟨tl E y,_,by rw [u5];exact zqi hz2,gT2,?_⟩;walk_at "dd";refine ⟨nI y,by simp,_,?_,p0,tl E y,_,.sh .none,g2,rfl,?_⟩
    ·have:=yO (2 * m+2) hsz;rw [yN] at this;rw [vK];simp only [yV];lia
    ·rw [gT2,show (v6 nI (k2++[y])).dropLast=k2.map nI by rw [vY];exact uaW];simp only [];rw [setT]
   ·have hp:p=[]:=by
     cases p with
    |nil=>rfl
    |cons x r=>exact absurd rfl hp
    subst hp;exact ⟨_,_,rfl,rfl,_,rfl,q0 _ (g.dead N hk hne bad)⟩
  ·rw [gT];simp only [];rw [setT];obtain ⟨g2,hsz,hsm⟩:=g.fwd N hk h0 hj bad hs hp hlv;walk_at "dd";walk_at "a";refine ⟨by rw [u5];lia,hJ _ ?_⟩;clear hJ;walk_at "dd";refine ⟨_,zh51 N.lE hsm,?_⟩;walk_at "dd";refine ⟨_,?_,p++[s],hd E s,TU.set here (k.take j),_,g2,rfl,by rw [vY];rfl⟩;rw [vK];have:=yO (2 * m+2) hsz;simp only [yV];lia
 ·have hne:here=snk:=by lia
  subst hne;exact ⟨_,_,rfl,rfl,_,rfl,q1 p TU g.tri g.way⟩
noncomputable def zh7 (C:Addr):DSpT:=λ as Q=>∃ (n m:Nat) (most:Nat->Int) (E:List Nat) (L:List Int) (S:List (List Nat)) (lv:List (Nat×Nat)) (src snk:Nat),as=[.o (oS C E L S),.b (.dk (kN lv)),.d (nI src),.d (nI snk)]/\n<=100000/\m<=400000/\Net n m E S/\Cap m most L/\src < n/\src≠snk/\Lev n m E L src lv/\(lkp lv snk).isSome=true /\
 ∀ L',Up m most E L L' src snk->bal m E L snk < bal m E L' snk->Q (.fz .none) (oS C E L' S)
theorem zy5:FnScope ["self", "levels", "source", "sink", "tries", "path"] ["self", "levels", "source", "sink"] (zi0 zh2):=by walk_at "sc"
theorem zw9 (jB:Cls K jA) (T:TopMeth K jA "push_up" "Stream.push_up" zh2) (jW:mg "list"=none) (jI:NoAttr K jA "steps") (kA:MethD P w K mg base jA "way_up" 2 ["self", "levels", "tries", "source", "sink"] (spT K (zq7 jA))) (qD:MethD P w K mg base jA "carry" 1 ["self", "path"] (spT K (zl8 jA))):MethD P w K mg base jA "push_up" 3 ["self", "levels", "source", "sink"] (spT K (zh7 jA)):=by
 refine zx7 jB T zy5 (by walk_at "h") (zxg λ as Qd h=>by obtain ⟨_,_,_,_,_,_,_,_,_,rfl,_⟩:=h;rfl) (zd8 ?_);walk_at "g";have nd:=zy5.nd;refine ⟨_,_,(zd0 (zy4 (i:=4) (sc:=zi0 zh2) (N:=["self", "levels", "source", "sink", "tries", "path"]) (own:=["steps"]) (ix:=[]) rfl rfl rfl (by walk_at "csc") nd rfl rfl (pi_W (K:=K) rfl (zs1 (K:=K) rfl (pv 0) rfl)) (λ _ _ _ _=>⟨(pgn 0 (nds ["steps"])),zv5,(zm5 (zu4 (K:=K) rfl) rfl jW zna (za0 (pv 0) zg0))⟩))
   (zd0 (pset 5 nd (zg7 kA (rmn hr) (pv 0) (za0 (pv 1) (za0 (pv 4) (za0 (pv 2) (za0 (pv 3) zg0))))))
   (zj0 (zhb PassesOwn.never (zw4 (K:=K) rfl (pv 5) (λ _=>rfl)) (zd0 (zd2 (zg7 qD (rmn hr) (pv 0) (za0 (pv 5) zg0)))
   (zj0 (pset 5 nd (zg7 kA (rmn hr) (pv 0) (za0 (pv 1) (za0 (pv 4) (za0 (pv 2) (za0 (pv 3) zg0)))))))))))),(zm0 (ze3 (RfN.c (zxs (zoy (RfP.v (zu3 jB jI (zp0 0)))) (zg2 (i:=0) (n:=1) (by decide)) (RfF.new (zqy zdk (zu0 (zc0 0) zm1))))))
   (zm0 (ze3 (zm9 false (zp0 0) (at_b (zp0 1) (at_o (zp0 4) (at_d (zh0 2) (at_d (zh0 3) zr8))))))
   (zda (ze9 (zc0 5)) (zm0 (zc2 (zm9 true (zp0 0) (at_d (zh0 5) zr8)))
   (ze3 (zm9 false (zp0 0) (at_b (zp0 1) (at_o (zp0 4) (at_d (zh0 2) (at_d (zh0 3) zr8)))))))))),?_⟩
 rintro as Qd a ⟨n,m,most,E,L,S,lv,src,snk,rfl,hn,hm,N,c,hsn,hss,hv,ht,q⟩;walk_at "ds";walk_at "a";refine zl31 (λ l=>.li (l.map nI)) (by rw [sizeLine_eq,N.lS];lia) (λ l hl=>?_) (hJ _ ?_)
 ·walk_at "cs";walk_at "dd"
 clear hJ;obtain ⟨b0,hb0⟩:=xH.mp ht;have rch:Rch m E L lv snk src:=zoe hv b0 snk hb0 .here;walk_at "a";refine ⟨n,m,E,L,S,lv,S,src,snk,rfl,hm,N,c.len,hsn,hss,hv.l0,hv.cl,Tri.all,λ TT' h=>absurd rch h,λ p TT' tri hw=>hJ _ ?_⟩;clear hJ;refine ⟨λ μ U=>∃ L' p TT,Up m most E L L' src snk/\(p≠[]->Tri m E S L' lv snk TT)/\(∀ s,s < 2 * m->0 < lf L' s->(lkp lv (tl E s)).isSome=true->(lkp lv (hd E s)).isSome=true) /\
   bal m E L snk<=bal m E L' snk/\(p=[]->bal m E L snk < bal m E L' snk)/\(p≠[]->Way m E L' lv src p snk)/\μ=(tot m most - bal m E L' snk).toNat/\U=[.io a (oS jA E L' S),.bo (.dk (kN lv)),.sh (nI src),.sh (nI snk),.ow (tT TT),.sh (.list (p.map nI))],
  ⟨_,L,p,TT',Up.refl c,λ _=>tri,hv.cl,wQ _,λ z=>?_,λ _=>hw,rfl,rfl⟩,?_⟩
 ·subst z;exact absurd hw hss
 clear tri hw TT' p;rintro μ U ⟨L',p,TT,up,tri,cl,le,hlt,hw,rfl,rfl⟩;walk_at "dd";refine two (λ hp=>?_) λ hp=>?_
 ·have hp:p≠[]:=λ z=>by rw [z] at hp;cases hp
  have hw:=hw hp;walk_at "a";have hpl:p.length<=2 * m:=zf1 _ p (hw.nodup hv.l0).1 hw.lt;refine ⟨m,E,L',S,p,rfl,N.lE,up.cap.len,hp,by lia,hw.lt,λ am ham hmin=>hJ _ ?_⟩;clear hJ;obtain ⟨s0,hs0,e0⟩:=ham;have pos:0 < am:=by
   rw [e0];obtain ⟨_,hadm⟩:True/\∀ {v:Nat} {p:List Nat} {t:Nat},Way m E L' lv v p t->∀ s∈p,0 < lf L' s:=⟨trivial,by
    intro v p
    induction p generalizing v with
   |nil=>intro t _ s hs;simp at hs
   |cons x r ih =>
     intro t h s hs;rcases vL.mp hs with z|z
     ·rw [z];exact h.2.2.1.1
     ·exact ih h.2.2.2 s z⟩
   exact hadm hw s0 hs0
  have up2:=up.trans (Up.carry up.cap hw hv.l0 (by lia) hmin);have hb:bal m E (za3 L' p am) snk=bal m E L' snk+am:=by
   rw [zm8 up.cap.len hw,if_pos rfl,if_neg hss];lia
  have hle:=zj31 (E:=E) up2.cap snk;have cl2:=zlq up.cap.len hw hv.l0 cl (a:=am) (by lia);have tri2:Tri m E S (za3 L' p am) lv snk TT:=(tri hp).mono (zep up.cap.len hw hv.l0 (by lia)) λ v k h s hs=>(N.s1 v k h s hs).1;generalize za3 L' p am=_2 at *;walk_at "dd";refine ⟨n,m,E,_2,S,lv,TT,src,snk,rfl,hm,N,up2.cap.len,hsn,hss,hv.l0,cl2,tri2,λ TT' h=>?_,λ p' TT' tri' hw'=>?_⟩
  ·exact ⟨_,by lia,_2,[],TT',up2,λ z=>absurd rfl z,cl2,by lia,λ _=>by lia,λ z=>absurd rfl z,rfl,rfl⟩
  ·exact ⟨_,by lia,_2,p',TT',up2,λ _=>tri',cl2,by lia,λ _=>by lia,λ _=>hw',rfl,rfl⟩
 ·have hp:p=[]:=by
   cases p with
  |nil=>rfl
  |cons x r=>exact absurd rfl hp
  exact ⟨_,rfl,q L' up (hlt hp)⟩
noncomputable def zk6 (C:Addr):DSpT:=λ as Q=>∃ (m:Nat) (E:List Nat) (L:List Int) (S:List (List Nat)),as=[.b (oS C E L S)]/\L.length=2 * m/\m<=400000/\∀ t,Q (.fz (.list ((u3 m).map λ k=>.int (lf L (2 * k+1))))) t
theorem zt5:FnScope ["self"] ["self"] (zi0 zf3):=by walk_at "sc"
theorem zaa (jB:Cls K jA) (T:TopMeth K jA "amounts" "Stream.amounts" zf3) (jC:NoAttr K jA "left"):MethD P w K mg base jA "amounts" 1 ["self"] (spT K (zk6 jA)):=by
 refine zx7 jB T zt5 (by walk_at "h") (zxg λ as Qd h=>by obtain ⟨_,_,_,_,rfl,_⟩:=h;rfl) (zd8 ?_);walk_at "g";have nd:=zt5.nd;refine ⟨_,_,(zj0 (zc1 (zrq (K:=K) rfl (zs1 (K:=K) rfl (pv 0) rfl) (zdd zf0) zfn (zdd zf0)))),(zg1 (RfE.c (RfF.e (zs61 (RfP.v (zu3 jB jC (zp0 0))) (zzi zv0) zxk (zzi zv0))))),?_⟩;rintro as Qd a ⟨m,E,L,S,rfl,hL,hm,q⟩;walk_at "ds";walk_at "dd";rw [ztx hL];exact q _
noncomputable def zc6 (C:Addr):DSpT:=λ as Q=>∃ (n:Nat) (A:List Ar) (f:List Int),as=[.o (.ob C []),.d (nI n),.d (.list (A.map dAr)),.d (.list (f.map .int))]/\f.length=A.length/\n<=100000/\A.length<=400000/\(∀ a∈A,a.1 < n/\a.2.1 < n) /\
 ∀ S,Net n A.length (zi6 A) S->Q (.fz .none) (.ob C [("ends",.li ((zi6 A).map nI)),("left",.li ((zs9 A f).map .int)),("steps",tT S)])
theorem zx4:FnScope ["self", "count", "arcs", "flow", "number", "arc"] ["self", "count", "arcs", "flow"] (zi0 zx1):=by walk_at "sc"
theorem za9 (M:Md K mg) (cT:TopCls K "Stream" jA) (T:TopMeth K jA "__init__" "Stream.__init__" zx1) (jK:mg "enumerate"=none) (jH:mg "range"=none) (jF:NoAttr K jA "ends") (jC:NoAttr K jA "left") (jI:NoAttr K jA "steps"):zuo P w K mg base "Stream" jA 1 ["self", "count", "arcs", "flow"] (spT K (zc6 jA)):=by
 have jB:=cT.cls;refine zwj M cT T zx4 (by walk_at "h") (zxg λ as Qd h=>by obtain ⟨_,_,_,rfl,_⟩:=h;rfl) (zd8 ?_);walk_at "g";have nd:=zx4.nd;refine ⟨_,_,(zd0 (zad (pv 0) (zp1 zg0) rfl)
   (zd0 (zad (pv 0) (zp1 zg0) rfl)
   (zd0 (zad (pv 0) (zl9 (sc:=zi0 zx1) (N:=["self", "count", "arcs", "flow", "number", "arc"]) (own:=["number"]) (ix:=[]) rfl rfl rfl (by walk_at "csc") (zi2 rfl jH (za0 (pv 1) zg0)) (λ _ _ _ _=>⟨(pgn 0 (nds ["number"])),zv5,(zp1 zg0)⟩)) rfl)
   (zj0 (zs4 PassesOwn.never rfl (zxb (K:=K) rfl rfl jK (za0 (pv 2) zg0)) (zb6 (K:=K) (n:=2) rfl rfl (zz0 (pgn 4 nd) (zz0 (pgn 5 nd) zu5))) (zd0 (zd2 (zg6 (K:=K) rfl ğa ğd ğe (zs8 (K:=K) rfl) (zs1 (K:=K) rfl (pv 0) rfl) (za0 (zp1 (za0 (pix w K hr (pv 5) zf0) (za0 (pix w K hr (pv 5) zf0) zg0))) zg0)))
   (zd0 (zd2 (zg6 (K:=K) rfl ğa ğd ğe (zs8 (K:=K) rfl) (zs1 (K:=K) rfl (pv 0) rfl) (za0 (zp1 (za0 (za1 zod (pix w K hr (pv 5) zf0) (pix w K hr (pv 3) (pv 4))) (za0 (pix w K hr (pv 3) (pv 4)) zg0))) zg0)))
   (zd0 (zd2 (zg6 (K:=K) rfl ğa ğb ğc zy1 (pix w K hr (zs1 (K:=K) rfl (pv 0) rfl) (pix w K hr (pv 5) zf0)) (za0 (za1 zw2 zf0 (pv 4)) zg0)))
   (zj0 (zd2 (zg6 (K:=K) rfl ğa ğb ğc zy1 (pix w K hr (zs1 (K:=K) rfl (pv 0) rfl) (pix w K hr (pv 5) zf0)) (za0 (za1 (zb1 (K:=K) rfl) (za1 zw2 zf0 (pv 4)) zf0) zg0)))))))))))),(zm0 (zfe jB jF (RfF.c (zn3 zk0)) (zp0 0))
   (zm0 (zfe jB jC (RfF.c (zn3 zk0)) (zp0 0))
   (zm0 (zfe jB jI (RfN.c (zxs (RfI.j (zt6 (zb0 (zh0 1) zk0))) (zg2 (i:=0) (n:=1) (by decide)) (RfF.new (zn3 zk0)))) (zp0 0))
   (zv4 (zmr (zb0 (zh0 2) zk0)) (zu9 (zy0 (rgn 4) (zy0 (rgn 5) zz5))) (zm0 (zc2 (zbg zpp (zu3 jB jF (zp0 0)) (zb0 (RfF.e (zn3 (zb0 (zl0 r_ix (zc0 5) rvi) (zb0 (zl0 r_ix (zc0 5) rvi) zk0)))) zk0)))
   (zm0 (zc2 (zbg zpp (zu3 jB jC (zp0 0)) (zb0 (RfF.e (zn3 (zb0 (zl0 zcq (RfE.v (zl0 r_ix (zc0 5) rvi)) (RfE.v (zl0 r_ix (zc0 3) (zc0 4)))) (zb0 (zl0 r_ix (zc0 3) (zc0 4)) zk0)))) zk0)))
   (zm0 (zc2 (zbg zia (zg51 (zu3 jB jI (zp0 0)) (zl0 r_ix (zc0 5) rvi)) (zb0 (zl0 znj rvi (zc0 4)) zk0)))
   (zc2 (zbg zia (zg51 (zu3 jB jI (zp0 0)) (zl0 r_ix (zc0 5) rvi)) (zb0 (zl0 zd6 (RfE.v (zl0 znj rvi (zc0 4))) rvi) zk0)))))))))),?_⟩
 rintro as Qd a ⟨n,A,f,rfl,hf,hn,hA,hb,q⟩;walk_at "ds";walk_at "dn";walk_at "dn";walk_at "a";refine ⟨by lia,by lia,?_⟩;rw [vR];refine zl31 (λ _=>.li []) (by rw [vV,sizeLine_eq];lia) (λ i hi=>?_) (hJ _ ?_)
 ·walk_at "cs"
 clear hJ;have e0:(u3 n).map (λ _=>(_4.T.li []:_4.T))=(vP n []).map λ l=>.li (l.map nI):=by simp [List.map_const']
 rw [e0];walk_at "dd";refine ⟨λ i U=>∃ S s4 s5,i<=A.length/\szT S=2 * i/\Net n i (zi6 (A.take i)) S/\U=[.io a (.ob jA [("ends",.li ((zi6 (A.take i)).map nI)),("left",.li ((zs9 (A.take i) (f.take i)).map .int)),("steps",tT S)]),.sh (nI n),.sh (.list (A.map dAr)),.sh (.list (f.map .int)),s4,s5],⟨vP n [],.un,.un,wE _,by simp [szT],Net.nil n,rfl⟩,?_,?_⟩
 ·rintro i d U hd ⟨S,s4,s5,hi,hsz,N,rfl⟩;obtain ⟨x,hx,rfl⟩:=zpj hd;rw [u8] at hx;obtain ⟨u,hu,rfl⟩:=wO.mp hx;have hil:i < A.length:=by
   rcases wP i A.length with z|z
   ·exact z
   ·rw [v9 z] at hu;cases hu
  obtain ⟨y,hy⟩:∃ y,f[i]?=some y:=⟨f[i]'(by lia),u7 _⟩
  obtain ⟨b1,b2⟩:=hb u (wF hu);have tA:A.take (i+1)=A.take i++[u]:=by rw [xL,hu];rfl
  have tF:f.take (i+1)=f.take i++[y]:=by rw [xL,hy];rfl
  have lE:(zi6 (A.take i)).length=2 * i:=N.lE;have lL:(zs9 (A.take i) (f.take i)).length=2 * i:=by
   rw [zyd (by rw [wM,wM];lia),wM];lia
  have eF:=zll (A:=A.take i) (f:=f.take i) (a:=u) (x:=y) (by rw [wM,wM];lia);dsimp only;rw [tA,tF,zon,eF];generalize zi6 (A.take i)=E at lE N ⊢;generalize zs9 (A.take i) (f.take i)=L at lL ⊢;rw [show dAr u=.tuple [nI u.1,nI u.2.1,.int u.2.2] from rfl];have hfi:atI (f.map u4) (i:Int)=some (.int y):=ze6 (by lia) (by rw [vR,u8,hy];rfl);have a0:atI [nI u.1,nI u.2.1,u4 u.2.2] 0=some (nI u.1):=rfl;have a1:atI [nI u.1,nI u.2.1,u4 u.2.2] 1=some (nI u.2.1):=rfl;have a2:atI [nI u.1,nI u.2.1,u4 u.2.2] 2=some (.int u.2.2):=rfl;walk_at "dd";walk_at "a";refine ⟨nI u.2.1,rfl,nI u.1,rfl,by rw [u5];lia,hJ _ ?_⟩;clear hJ;rw [show E.map nI++[nI u.2.1,nI u.1]=(E++[u.2.1,u.1]).map nI by rw [vY];rfl];walk_at "a";refine ⟨_,rfl,_,hfi,?_⟩;walk_at "dd";refine ⟨_,hfi,by rw [u5];lia,hJ _ ?_⟩;clear hJ;rw [show L.map u4++[.int (u.2.2 - y),.int y]=(L++[u.2.2 - y,y]).map .int by rw [vY];rfl];obtain ⟨l1,hl1⟩:∃ l1,S[u.1]?=some l1:=⟨S[u.1]'(by rw [N.lS];exact b1),u7 _⟩
  obtain ⟨l2,hl2⟩:∃ l2,(S.set u.1 (l1++[2 * i]))[u.2.1]?=some l2:=⟨(S.set u.1 (l1++[2 * i]))[u.2.1]'(by rw [wD,N.lS];exact b2),u7 _⟩
  have N2:=N.push b1 b2 hl1 hl2;have z1:=zy11 hl1;have z2:=zy11 hl2;have z3:=zab (l1++[2 * i]) hl1;have z4:=zab (l2++[2 * i+1]) hl2;rw [vK,yV] at z3 z4;have g1:(S.map λ l=>_4.T.li (l.map nI))[u.1]?=some (_4.T.li (l1.map nI)):=by rw [u8,hl1];rfl
  have g2:((S.set u.1 (l1++[2 * i])).map λ l=>_4.T.li (l.map nI))[u.2.1]?=some (_4.T.li (l2.map nI)):=by rw [u8,hl2];rfl
  have i1:ixN (S.map λ l=>_4.T.li (l.map nI)).length ((u.1:Nat):Int)=some u.1:=by rw [u5];exact zqi (by rw [N.lS];exact b1)
  have i2:ixN ((S.set u.1 (l1++[2 * i])).map λ l=>_4.T.li (l.map nI)).length ((u.2.1:Nat):Int)=some u.2.1:=by rw [u5,wD];exact zqi (by rw [N.lS];exact b2)
  walk_at "a";refine ⟨nI u.1,rfl,u.1,_,i1,g1,rfl,zn41 i,?_⟩;walk_at "dd";refine ⟨by rw [u5];lia,hJ _ ?_⟩;clear hJ;rw [g1];dsimp only;rw [show l1.map nI++[u4 (2 * (i:Int))]=(l1++[2 * i]).map nI by rw [vY];rfl,setT];walk_at "dd";refine ⟨nI u.2.1,rfl,u.2.1,_,i2,g2,rfl,zn41 i,?_⟩;walk_at "dd";refine ⟨by rw [u5];lia,_,.sh (nI i),.sh (.tuple [nI u.1,nI u.2.1,.int u.2.2]),by lia,by lia,N2,?_⟩;rw [g2];dsimp only;rw [show l2.map nI++[u4 (2 * (i:Int)+1)]=(l2++[2 * i+1]).map nI by rw [vY];rfl,setT];rfl
 ·rintro U ⟨S,s4,s5,hi,hsz,N,rfl⟩;rw [zld,u5,xA] at N;rw [zld,u5,xA,yB (by lia)];exact ⟨_,rfl,q S N⟩
theorem frzT (S:List (List Nat)):(zxq (S.map λ l=>_4.T.li (l.map nI))).map (λ dss=>v5 (dss.map .list))=some (dSt S):=by
 have:∀ S:List (List Nat),zxq (S.map λ l=>_4.T.li (l.map nI))=some (S.map λ l=>l.map nI):=by
  intro S
  induction S with
 |nil=>rfl
 |cons l r ih=>simp only [vW,zxq,ih];rfl
 rw [this];simp only [Option.map_some,wL];rfl
noncomputable def zsf:DSp:=λ ds Q=>∃ (n:Nat) (A:List Ar) (src snk:Nat) (fl:D) (f:List Int),ds=[nI n,.list (A.map dAr),nI src,nI snk,fl]/\((fl=.none/\f=vP A.length 0) \/ fl=.list (f.map .int))/\f.length=A.length/\n < 64/\A.length<=400000/\(∀ a∈A,a.1 < n/\a.2.1 < n) /\
 (∀ (k:Nat) a x,A[k]?=some a->f[k]?=some x->0<=x/\x<=a.2.2)/\src < n/\snk < n/\src≠snk /\
 ∀ (L:List Int) (side:List Nat),Best n A f src snk L side->Q (.tuple [.list ((u3 A.length).map λ k=>.int (lf L (2 * k+1))),.list (side.map nI)])
theorem zvb:FnScope ["count", "arcs", "source", "sink", "flow", "stream", "levels"] ["count", "arcs", "source", "sink", "flow"] (zi0 zwa):=by walk_at "sc"
theorem zfk (M:Md K mg) (T:TopDefN K "greatest" zwa) (jM:mg "len"=none) (kW:mg "sorted"=none) (jB:Cls K jA) (kB:MethD P w K mg base jA "levels" 2 ["self", "source"] (spT K (zu7 jA))) (kJ:MethD P w K mg base jA "push_up" 3 ["self", "levels", "source", "sink"] (spT K (zh7 jA))) (kK:MethD P w K mg base jA "amounts" 1 ["self"] (spT K (zk6 jA))) (uR:zuo P w K mg base "Stream" jA 1 ["self", "count", "arcs", "flow"] (spT K (zc6 jA))):DefN P w K mg base "greatest" 4 ["count", "arcs", "source", "sink", "flow"] (spD K zsf):=by
 refine znz M T zvb (qs:=["count", "arcs", "source", "sink"]) rfl (λ _ _ _ _ _ _ _ us hl=>match us,hl with|[_,_,_,_,_],_=>⟨_,rfl,rfl⟩) (λ _ _ _ _ _ _ _ us hl=>match us,hl with|[_,_,_,_],_=>⟨_,rfl,rfl⟩) (zjb (by walk_at "i")) (zc3 ?_);walk_at "g";have nd:=zvb.nd;refine ⟨_,_,(zd0 (pset 5 nd (zvd uR (rmn hr) rfl (za0 (pv 0) (za0 (pv 1) (za0 (znh (zt0 zp71 (pv 4) zqx (zi1 _)) (za1 zw2 (zp1 (za0 zf0 zg0)) (zq0 (ze1 (K:=K) rfl) rfl jM zh5 (za0 (pv 1) zg0))) (pv 4)) zg0)))))
   (zd0 (pset 6 nd (zg7 kB (rmn hr) (pv 5) (za0 (pv 2) zg0)))
   (zd0 (zhb PassesOwn.never (zt0 (zo81 (w:=w) (K:=K) (Room.units hr) rfl rfl) (pv 3) (pv 6) (by with_unfolding_all rfl)) (zd0 (zd2 (zg7 kJ (rmn hr) (pv 5) (za0 (pv 6) (za0 (pv 2) (za0 (pv 3) zg0)))))
   (zj0 (pset 6 nd (zg7 kB (rmn hr) (pv 5) (za0 (pv 2) zg0))))))
   (zj0 (zc1 (zl1 (za0 (zgp kK (rmn hr) (pv 5)) (za0 (zq0 (zih (K:=K) rfl rfl) rfl kW zli (za0 (pv 6) zg0)) zg0)))))))),(zm0 (ze3 (RfN.c (zlj (at_d (zh0 0) (at_d (zh0 1) (at_d (ziu (zs0 (zl0 zcd1 (zc0 4) (RfE.v zcu))) (RfF.e (zq01 (zn3 (zb0 zv0 zk0)) (zn8 zgd (zu0 (zc0 1) zm1)))) (zh0 4)) zr8))))))
   (zm0 (zmf 5 [.fl "steps"] (zmf 5 [.fl "ends"] (ze3 (zm9 false (zp0 5) (at_d (zh0 2) zr8)))))
   (zm0 (zda (zs0 (zg61 (zh0 3) (zp0 6))) (zm0 (zc2 (zm9 true (zp0 5) (at_b (zp0 6) (at_d (zh0 2) (at_d (zh0 3) zr8)))))
   (ze3 (zm9 false (zp0 5) (at_d (zh0 2) zr8)))))
   (zg1 (RfE.c (zo1 (zb0 (RfN.ex (zh11 (zp0 5) zr8)) (zb0 (RfF.e (zpu (zp0 6))) zk0)))))))),?_⟩
 rintro ds Qd ⟨n,A,src,snk,fl,f,rfl,hfl,hf,hn,hA,hb,hc,hs1,hs2,hss,q⟩;walk_at "ds";refine ze0 λ J hJ=>?_;have start:∀ S,Net n A.length (zi6 A) S->J [.sh (nI n),.sh (.list (A.map dAr)),.sh (nI src),.sh (nI snk),.sh fl,.ow (.ob jA [("ends",.li ((zi6 A).map nI)),("left",.li ((zs9 A f).map .int)),("steps",tT S)]),.un]:=λ S N=>by
  walk_at "f";have cap:=zhp hf hc;walk_at "a";refine ⟨_,dSt S,rfl,frzT S,_,_,rfl,rfl,?_⟩;refine ⟨n,A.length,zi6 A,zs9 A f,S,src,rfl,by lia,N,cap.len,hs1,λ lv hv t=>hJ _ ?_⟩;clear hJ;refine zpg ?_;refine ⟨λ μ U=>∃ L lv,Up A.length (zfb A) (zi6 A) (zs9 A f) L src snk/\Lev n A.length (zi6 A) L src lv/\μ=(tot A.length (zfb A) - bal A.length (zi6 A) L snk).toNat/\U=[.sh (nI n),.sh (.list (A.map dAr)),.sh (nI src),.sh (nI snk),.sh fl,.ow (oS jA (zi6 A) L S),.ow (.dk (kN lv))],
   ⟨_,zs9 A f,lv,Up.refl cap,hv,rfl,rfl⟩,?_⟩
  clear hv lv;rintro μ U ⟨L,lv,up,hv,rfl,rfl⟩;walk_at "dd";rw [yY];refine two (λ ht=>?_) λ ht=>?_
  ·walk_at "a";refine ⟨n,A.length,zfb A,zi6 A,L,S,lv,src,snk,rfl,by lia,by lia,N,up.cap,hs1,hss,hv,ht,λ L' up' hlt=>hJ _ ?_⟩;clear hJ;walk_at "dd";have up2:=up.trans up';have hle:=zj31 (E:=zi6 A) up2.cap snk;refine ⟨n,A.length,zi6 A,L',S,src,rfl,by lia,N,up2.cap.len,hs1,λ lv' hv' t=>⟨_,by lia,L',lv',up2,hv',rfl,rfl⟩⟩
  ·refine ⟨A.length,zi6 A,L,S,rfl,up.cap.len,hA,λ t=>?_⟩;have hz:=zf1 n (lv.map (·.1)) hv.nd (λ x hx=>by obtain ⟨p,hp,rfl⟩:=vQ.mp hx;exact hv.bd p hp);rw [u5] at hz;refine ⟨lv.map λ p=>((p.1:Nat):Int),?_,by rw [u5];lia,λ ns' hp hs=>?_⟩
   ·unfold kN;rw [wL,wL];rfl
   ·obtain ⟨side,e,b⟩:=zt31 up hv (by simpa using ht) hp hs;rw [e];exact q L side b
 clear hJ;rcases hfl with ⟨rfl,rfl⟩|rfl
 ·walk_at "dd";refine ⟨by rw [u5];lia,by rw [u5];lia,by rw [u5];lia,n,A,vP A.length 0,by rw [u5,vR,show (vP A.length [u4 0]).flatten=(vP A.length 0).map .int by rw [uaX,uaY]];rfl,hf,by lia,hA,hb,λ S N=>⟨trivial,start S N⟩⟩
 ·walk_at "dd";exact ⟨n,A,f,rfl,hf,by lia,hA,hb,λ S N=>⟨trivial,start S N⟩⟩
end
inductive Gt where
|st (x:Int)|la (x:Int) (f:Nat)|ti (x y:Int) (t:Nat)
noncomputable def Gt.d:Gt->D
|.st x=>.tuple [.str "steady",.int x]
|.la x f=>.tuple [.str "late",.int x,.int (f:Int)]
|.ti x y t=>.tuple [.str "tidal",.int x,.int y,.int (t:Int)]
def Gt.at:Gt->Nat->Int
|.st x,_=>x
|.la x f,m=>if f<=m then x else 0
|.ti x y t,m=>if m % t=0 then x else y
noncomputable def Gt.ob (C1 C2 C3:Addr):Gt->_4.T
|.st x=>.ob C1 [("wide",.fz (.int x))]
|.la x f=>.ob C2 [("wide",.fz (.int x)),("since",.fz (.int (f:Int)))]
|.ti x y t=>.ob C3 [("wide",.fz (.int x)),("other",.fz (.int y)),("turn",.fz (.int (t:Int)))]
def Gt.ok:Gt->Prop
|.ti _ _ t=>0 < t/\t < 1000
|_=>True
section
variable {P:Program} {w:World} {K:Fg} {mg:Str->Option Value} {base:Heap} {jE jJ jD:Addr}
def zq2 (C:Addr):DSpT:=λ as Q=>∃ x:Int,as=[.o (.ob C []),.d (.int x)]/\Q (.fz .none) (.ob C [("wide",.fz (.int x))])
noncomputable def zq4 (C:Addr):DSpT:=λ as Q=>∃ x y:Int,as=[.o (.ob C []),.d (.int x),.d (.int y)]/\Q (.fz .none) (.ob C [("wide",.fz (.int x)),("since",.fz (.int y))])
noncomputable def zg3 (C:Addr):DSpT:=λ as Q=>∃ x y z:Int,as=[.o (.ob C []),.d (.int x),.d (.int y),.d (.int z)]/\Q (.fz .none) (.ob C [("wide",.fz (.int x)),("other",.fz (.int y)),("turn",.fz (.int z))])
noncomputable def zw1 (C:Addr):DSpT:=λ as Q=>∃ (x:Int) (m:Nat),as=[.b (.ob C [("wide",.fz (.int x))]),.d (.int (m:Int))]/\Q (.fz (.int (Gt.at (.st x) m))) (.fz .none)
noncomputable def zn2 (C:Addr):DSpT:=λ as Q=>∃ (x:Int) (f m:Nat),as=[.b (.ob C [("wide",.fz (.int x)),("since",.fz (.int (f:Int)))]),.d (.int (m:Int))]/\Q (.fz (.int (Gt.at (.la x f) m))) (.fz .none)
noncomputable def zb2 (C:Addr):DSpT:=λ as Q=>∃ (x y:Int) (t m:Nat),as=[.b (.ob C [("wide",.fz (.int x)),("other",.fz (.int y)),("turn",.fz (.int (t:Int)))]),.d (.int (m:Int))]/\0 < t/\t < 1000/\Q (.fz (.int (Gt.at (.ti x y t) m))) (.fz .none)
def zkd (C1 C2 C3:Addr):DSpT:=λ as Q=>∃ g:Gt,as=[.d g.d]/\Q (g.ob C1 C2 C3) (.fz .none)
def zqr:DSp:=λ ds Q=>∃ (g:Gt) (m:Nat),ds=[g.d,.int (m:Int)]/\g.ok/\Q (.int (g.at m))
theorem zt4:FnScope ["self", "wide"] ["self", "wide"] (zi0 zt2):=by walk_at "sc"
theorem zb9 (M:Md K mg) (cT:TopCls K "Steady" jE) (T:TopMeth K jE "__init__" "Steady.__init__" zt2) (jN:NoAttr K jE "wide"):zuo P w K mg base "Steady" jE 1 ["self", "wide"] (spT K (zq2 jE)):=by
 have jX:=cT.cls;refine zwj M cT T zt4 (by walk_at "h") (zxg λ as Qd h=>by obtain ⟨_,rfl,_⟩:=h;rfl) (zd8 ?_);walk_at "g";have nd:=zt4.nd;refine ⟨_,(dFld jE "wide" (cE (dVar 1)) (pVar 0)),(zj0 (zad (pv 0) (pv 1) rfl)),(zfe jX jN (RfE.c (zh0 1)) (zp0 0)),?_⟩;rintro as Qd a ⟨x,rfl,q⟩;walk_at "ds";walk_at "dd";exact ⟨_,rfl,q⟩
theorem zz6:FnScope ["self", "wide", "since"] ["self", "wide", "since"] (zi0 zp4):=by walk_at "sc"
theorem zka (M:Md K mg) (cT:TopCls K "Late" jJ) (T:TopMeth K jJ "__init__" "Late.__init__" zp4) (jT:NoAttr K jJ "wide") (jP:NoAttr K jJ "since"):zuo P w K mg base "Late" jJ 1 ["self", "wide", "since"] (spT K (zq4 jJ)):=by
 have kL:=cT.cls;refine zwj M cT T zz6 (by walk_at "h") (zxg λ as Qd h=>by obtain ⟨_,_,rfl,_⟩:=h;rfl) (zd8 ?_);walk_at "g";have nd:=zz6.nd;refine ⟨_,(dSeq (dFld jJ "wide" (cE (dVar 1)) (pVar 0))
   (dFld jJ "since" (cE (dVar 2)) (pVar 0))),(zd0 (zad (pv 0) (pv 1) rfl)
   (zj0 (zad (pv 0) (pv 2) rfl))),(zm0 (zfe kL jT (RfE.c (zh0 1)) (zp0 0))
   (zfe kL jP (RfE.c (zh0 2)) (zp0 0))),?_⟩
 rintro as Qd a ⟨x,y,rfl,q⟩;walk_at "ds";walk_at "dn";walk_at "dd";exact ⟨_,rfl,q⟩
theorem zr5:FnScope ["self", "wide", "other", "turn"] ["self", "wide", "other", "turn"] (zi0 zh3):=by walk_at "sc"
theorem zx9 (M:Md K mg) (cT:TopCls K "Tidal" jD) (T:TopMeth K jD "__init__" "Tidal.__init__" zh3) (jQ:NoAttr K jD "wide") (jO:NoAttr K jD "other") (jR:NoAttr K jD "turn"):zuo P w K mg base "Tidal" jD 1 ["self", "wide", "other", "turn"] (spT K (zg3 jD)):=by
 have jU:=cT.cls;refine zwj M cT T zr5 (by walk_at "h") (zxg λ as Qd h=>by obtain ⟨_,_,_,rfl,_⟩:=h;rfl) (zd8 ?_);walk_at "g";have nd:=zr5.nd;refine ⟨_,(dSeq (dFld jD "wide" (cE (dVar 1)) (pVar 0))
   (dSeq (dFld jD "other" (cE (dVar 2)) (pVar 0))
   (dFld jD "turn" (cE (dVar 3)) (pVar 0)))),(zd0 (zad (pv 0) (pv 1) rfl)
   (zd0 (zad (pv 0) (pv 2) rfl)
   (zj0 (zad (pv 0) (pv 3) rfl)))),(zm0 (zfe jU jQ (RfE.c (zh0 1)) (zp0 0))
   (zm0 (zfe jU jO (RfE.c (zh0 2)) (zp0 0))
   (zfe jU jR (RfE.c (zh0 3)) (zp0 0)))),?_⟩
 rintro as Qd a ⟨x,y,z,rfl,q⟩;walk_at "ds";walk_at "dn";walk_at "dn";walk_at "dd";exact ⟨_,rfl,q⟩
theorem za5:FnScope ["self", "moment"] ["self", "moment"] (zi0 zs2):=by walk_at "sc"
theorem zd9 (jX:Cls K jE) (T:TopMeth K jE "width_at" "Steady.width_at" zs2) (jN:NoAttr K jE "wide"):MethD P w K mg base jE "width_at" 1 ["self", "moment"] (spT K (zw1 jE)):=by
 refine zx7 jX T za5 (by walk_at "h") (zxg λ as Qd h=>by obtain ⟨_,_,rfl,_⟩:=h;rfl) (zd8 ?_);walk_at "g";have nd:=za5.nd;refine ⟨_,(dRet (cE (dPE (pFld jE "wide" (pVar 0))))),(zj0 (zc1 (zs1 (K:=K) rfl (pv 0) rfl))),(zg1 (RfE.c (RfP.e (zu3 jX jN (zp0 0))))),?_⟩;rintro as Qd a ⟨x,m,rfl,q⟩;walk_at "ds";walk_at "dd";exact q
theorem zs6:FnScope ["self", "moment"] ["self", "moment"] (zi0 zi4):=by walk_at "sc"
theorem zza (kL:Cls K jJ) (T:TopMeth K jJ "width_at" "Late.width_at" zi4) (jT:NoAttr K jJ "wide") (jP:NoAttr K jJ "since"):MethD P w K mg base jJ "width_at" 1 ["self", "moment"] (spT K (zn2 jJ)):=by
 refine zx7 kL T zs6 (by walk_at "h") (zxg λ as Qd h=>by obtain ⟨_,_,_,rfl,_⟩:=h;rfl) (zd8 ?_);walk_at "g";have nd:=zs6.nd;refine ⟨_,(dRet (cE (dIfE (zgy (dOp fGe (zmk 1) (dPV (pFld jJ "since" (pVar 0))))) (dPE (pFld jJ "wide" (pVar 0))) (dC (.int 0))))),(zj0 (zc1 (znh (zt0 zuc1 (pv 1) (zs1 (K:=K) rfl (pv 0) rfl) (zi1 _)) (zs1 (K:=K) rfl (pv 0) rfl) zf0))),(zg1 (RfE.c (ziu (zs0 (zl0 r_ge (zc0 1) (RfP.v (zu3 kL jP (zp0 0))))) (RfP.e (zu3 kL jT (zp0 0))) zv0))),?_⟩;rintro as Qd a ⟨x,f,m,rfl,q⟩;walk_at "ds";walk_at "dd";have q:Qd (.fz (.int (if f<=m then x else 0))) (.fz .none):=q;refine two (λ h=>?_) λ h=>?_
 ·rw [if_pos (by lia)] at q;exact q
 ·rw [if_neg (by lia)] at q;exact q
theorem za6:FnScope ["self", "moment"] ["self", "moment"] (zi0 zl3):=by walk_at "sc"
theorem zz9 (jU:Cls K jD) (T:TopMeth K jD "width_at" "Tidal.width_at" zl3) (jQ:NoAttr K jD "wide") (jO:NoAttr K jD "other") (jR:NoAttr K jD "turn"):MethD P w K mg base jD "width_at" 1 ["self", "moment"] (spT K (zb2 jD)):=by
 refine zx7 jU T za6 (by walk_at "h") (zxg λ as Qd h=>by obtain ⟨_,_,_,_,rfl,_⟩:=h;rfl) (zd8 ?_);walk_at "g";have nd:=za6.nd;refine ⟨_,(dRet (cE (dIfE (zgy (dOp fEq (dOp fMod (zmk 1) (dPV (pFld jD "turn" (pVar 0)))) (dC (.int 0)))) (dPE (pFld jD "wide" (pVar 0))) (dPE (pFld jD "other" (pVar 0)))))),(zj0 (zc1 (znh (zt0 (zl5 (K:=K) rfl (Room.units hr)) (za1 zn1 (pv 1) (zs1 (K:=K) rfl (pv 0) rfl)) zf0 (zi1 _)) (zs1 (K:=K) rfl (pv 0) rfl) (zs1 (K:=K) rfl (pv 0) rfl)))),(zg1 (RfE.c (ziu (zs0 (zr2 q_eq (RfV.h (RfE.v (zl0 zs5 (zc0 1) (RfP.v (zu3 jU jR (zp0 0)))))) (RfV.h rvi))) (RfP.e (zu3 jU jQ (zp0 0))) (RfP.e (zu3 jU jO (zp0 0)))))),?_⟩;rintro as Qd a ⟨x,y,t,m,rfl,h0,h1,q⟩;walk_at "ds";walk_at "dd";have q:Qd (.fz (.int (if m % t=0 then x else y))) (.fz .none):=q;have e:((m:Int) % (t:Int)=0) ↔ m % t=0:=by rw [<- Int.natCast_emod];lia
 refine ⟨by lia,two (λ h=>?_) λ h=>?_⟩
 ·rw [if_pos (e.mp h)] at q;exact q
 ·rw [if_neg (λ z=>h (e.mpr z))] at q;exact q
theorem zte:FnScope ["gate"] ["gate"] (zi0 zmd):=by walk_at "sc"
theorem zrk (M:Md K mg) (T:TopDef K "gate_of" zmd) (uX:zuo P w K mg base "Tidal" jD 1 ["self", "wide", "other", "turn"] (spT K (zg3 jD))) (uS:zuo P w K mg base "Steady" jE 1 ["self", "wide"] (spT K (zq2 jE))) (vC:zuo P w K mg base "Late" jJ 1 ["self", "wide", "since"] (spT K (zq4 jJ))):Def P w K mg base "gate_of" 3 ["gate"] (spT K (zkd jE jJ jD)):=by
 refine zo3 M T zte (by walk_at "h") (zxg λ as Qd h=>by obtain ⟨_,rfl,_⟩:=h;rfl) (zd8 ?_);walk_at "g";have nd:=zte.nd;refine ⟨_,(dSeq (dIf (zgy (dOp fEq (dOp fIx (zmk 0) (dC (.int 0))) (dC (.str "steady")))) (dRet (cN (zfz jE (zq2 jE) (aD (dOp fIx (zmk 0) (dC (.int 1))) aNil)))) zm51)
   (dSeq (dIf (zgy (dOp fEq (dOp fIx (zmk 0) (dC (.int 0))) (dC (.str "late")))) (dRet (cN (zfz jJ (zq4 jJ) (aD (dOp fIx (zmk 0) (dC (.int 1))) (aD (dOp fIx (zmk 0) (dC (.int 2))) aNil))))) zm51)
   (dRet (cN (zfz jD (zg3 jD) (aD (dOp fIx (zmk 0) (dC (.int 1))) (aD (dOp fIx (zmk 0) (dC (.int 2))) (aD (dOp fIx (zmk 0) (dC (.int 3))) aNil)))))))),(zd0 (zh8 (zt0 (zl5 (K:=K) rfl (Room.units hr)) (pix w K hr (pv 0) zf0) zma (zi1 _)) (zj0 (zc1 (zvd uS (rmn hr) rfl (za0 (pix w K hr (pv 0) zf0) zg0)))) zk1)
   (zd0 (zh8 (zt0 (zl5 (K:=K) rfl (Room.units hr)) (pix w K hr (pv 0) zf0) zma (zi1 _)) (zj0 (zc1 (zvd vC (rmn hr) rfl (za0 (pix w K hr (pv 0) zf0) (za0 (pix w K hr (pv 0) zf0) zg0))))) zk1)
   (zj0 (zc1 (zvd uX (rmn hr) rfl (za0 (pix w K hr (pv 0) zf0) (za0 (pix w K hr (pv 0) zf0) (za0 (pix w K hr (pv 0) zf0) zg0)))))))),(zm0 (zi8 (zs0 (zr2 q_eq (RfV.h (RfE.v (zl0 r_ix (zc0 0) rvi))) (RfV.h (RfE.v zxa)))) (zg1 (RfN.c (zlj (at_d (zl0 r_ix (zc0 0) rvi) zr8)))) zj1)
   (zm0 (zi8 (zs0 (zr2 q_eq (RfV.h (RfE.v (zl0 r_ix (zc0 0) rvi))) (RfV.h (RfE.v zxa)))) (zg1 (RfN.c (zlj (at_d (zl0 r_ix (zc0 0) rvi) (at_d (zl0 r_ix (zc0 0) rvi) zr8))))) zj1)
   (zg1 (RfN.c (zlj (at_d (zl0 r_ix (zc0 0) rvi) (at_d (zl0 r_ix (zc0 0) rvi) (at_d (zl0 r_ix (zc0 0) rvi) zr8)))))))),?_⟩
 rintro as Qd a ⟨g,rfl,q⟩;cases g with
|st x =>
  unfold Gt.d;walk_at "ds";walk_at "a";walk_at "k";exact ⟨_,rfl,x,rfl,trivial,q⟩
|la x f =>
  unfold Gt.d;walk_at "ds";walk_at "a";walk_at "k";rw [if_neg (by decide +kernel)];walk_at "b";walk_at "k";exact ⟨_,rfl,_,rfl,x,f,rfl,trivial,q⟩
|ti x y t =>
  unfold Gt.d;walk_at "ds";walk_at "a";walk_at "k";rw [if_neg (by decide +kernel)];walk_at "b";walk_at "k";rw [if_neg (by decide +kernel)];walk_at "f";walk_at "dd";exact ⟨_,rfl,_,rfl,_,rfl,x,y,t,rfl,trivial,q⟩
theorem zql:FnScope ["gate", "moment"] ["gate", "moment"] (zi0 zul):=by walk_at "sc"
theorem zyx (M:Md K mg) (T:TopDef K "width" zul) (uK:Def P w K mg base "gate_of" 3 ["gate"] (spT K (zkd jE jJ jD))) (kL:Cls K jJ) (jX:Cls K jE) (jU:Cls K jD) (kC:MethD P w K mg base jE "width_at" 1 ["self", "moment"] (spT K (zw1 jE))) (kX:MethD P w K mg base jJ "width_at" 1 ["self", "moment"] (spT K (zn2 jJ))) (kM:MethD P w K mg base jD "width_at" 1 ["self", "moment"] (spT K (zb2 jD))):Def P w K mg base "width" 4 ["gate", "moment"] (spD K zqr):=by
 refine zo3 M T zql (by walk_at "h") (zjb (by walk_at "i")) (zc3 ?_);walk_at "g";have nd:=zql.nd;refine ⟨_,(dRet (cE (eN (zgx "width_at" [(jE,(zw1 jE)),(jJ,(zn2 jJ)),(jD,(zb2 jD))] (zz81 (zkd jE jJ jD) (aD (dVar 0) aNil)) (zi51 (dVar 1) dNil))))),(zj0 (zc1 (zfv (P:=P) (w:=w) (K:=K) (mg:=mg) (base:=base) (k:=1) rfl rfl rfl rfl rfl (rmn hr) (zo0 uK (rmn hr) rfl (za0 (pv 0) zg0)) (za0 (pv 1) zg0)))),(zg1 (RfE.c (RfN.ex (zxx (tab:=[(jE,(zw1 jE)),(jJ,(zn2 jJ)),(jD,(zb2 jD))]) (tab3 ⟨_,kC⟩ ⟨_,kX⟩ ⟨_,kM⟩) (zwz (at_d (zh0 0) zr8)) (zb0 (zh0 1) zk0))))),?_⟩;rintro ds Qd ⟨g,m,rfl,ok,q⟩;walk_at "ds";walk_at "dd";refine ⟨g,rfl,?_⟩;cases g with
|st x =>
  unfold Gt.ob;walk_at "dd";exact ⟨_,wR,x,m,rfl,q⟩
|la x f =>
  unfold Gt.ob;walk_at "dd";exact ⟨_,v8 _ wR,x,f,m,rfl,q⟩
|ti x y t =>
  unfold Gt.ob;walk_at "dd";exact ⟨_,v8 _ (v8 _ wR),x,y,t,m,rfl,ok.1,ok.2,q⟩
end
structure Pi where
 u:Nat
 v:Nat
 len:Nat
 pr:Int
 g:Gt
def Pi.d (p:Pi):D:=.tuple [.int (p.u:Int),.int (p.v:Int),.int (p.len:Int),.int p.pr,p.g.d]
theorem zlp {k:Nat} (h:k < n):ixN n ((k:Nat):Int)=some k:=by
 unfold ixN;rw [if_pos (by lia),if_pos (by lia)];simp
structure Va where
 nm:Str
 room:Int
 fill:Int
def Va.d (v:Va):D:=.tuple [.str v.nm,.int v.room,.int v.fill]
structure Le where
 t:Nat
 at_:Nat
 am:Int
def Le.d (l:Le):D:=.tuple [.int (l.t:Int),.int (l.at_:Int),.int l.am]
def pl (ps:List Pi) (i:Nat):Nat:=((ps[i]?).map Pi.len).getD 0
def zl2 (ps:List Pi) (i:Nat):Nat:=((ps[i]?).map Pi.u).getD 0
def zv9 (ps:List Pi) (i:Nat):Nat:=(ps[i]?).map Pi.v |>.getD 0
def zqb (ps:List Pi) (i t:Nat):Int:=((ps[i]?).map λ p=>p.g.at t).getD 0
def Gt.okk (g:Gt):Prop:=g.ok/\∀ m,0<=g.at m
def PiOk (n:Nat) (p:Pi):Prop:=p.u < n/\p.v < n/\1<=p.len/\g_le p.len/\p.g.okk
where g_le (l:Nat):Prop:=l<=20
def dY (vs:List Va) (ps:List Pi):D:=.tuple [.list (vs.map Va.d),.list (ps.map Pi.d)]
theorem zhn {α:Type} (l:List α) (t:Nat):cutG l (some (t:Int)) none=l.drop t:=by
 unfold cutG;rw [HT.sIx_nat,HT.sIx_none,yB (by rw [xS];lia)];by_cases h:t<=l.length
 ·rw [j9 h]
 ·rw [Nat.min_eq_right (by lia),uaZ (u6 _),uaZ (by lia)]
theorem zk41 {α:Type} (l:List α) (t:Nat):cutG l none (some (t:Int))=l.take t:=by
 unfold cutG;rw [HT.sIx_nat,HT.sIx_none,List.drop_zero,Nat.sub_zero];by_cases h:t<=l.length
 ·rw [j9 h]
 ·rw [Nat.min_eq_right (by lia),yB (u6 _),yB (by lia)]
noncomputable def zlu:DSp:=λ ds Q=>∃ (vs:List Va) (r:D) (m v:Nat),ds=[.tuple [.list (vs.map Va.d),r],nI m,nI v]/\m<=100/\vs.length<=100/\Q (nI (2+m * vs.length+v))
noncomputable def zc21:DSp:=λ ds Q=>∃ (vs:List Va) (r:D) (n:Nat),ds=[.tuple [.list (vs.map Va.d),r],nI n]/\1<=vs.length/\vs.length<=100/\Q (.tuple [.int (((n:Int) - 2) / (vs.length:Int)),.int (((n:Int) - 2) % (vs.length:Int))])
section
variable {P:Program} {w:World} {K:Fg} {mg:Str->Option Value} {base:Heap}
theorem zbt:FnScope ["yard", "moment", "vat"] ["yard", "moment", "vat"] (zi0 zjx):=by walk_at "sc"
theorem zc31 (M:Md K mg) (T:TopDef K "node" zjx) (jM:mg "len"=none):Def P w K mg base "node" 1 ["yard", "moment", "vat"] (spD K zlu):=by
 refine zo3 M T zbt (by walk_at "h") (zjb (by walk_at "i")) (zc3 ?_);walk_at "g";have nd:=zbt.nd;refine ⟨_,_,(zj0 (zc1 (za1 (zb1 (K:=K) rfl) (za1 (zb1 (K:=K) rfl) zf0 (za1 zw2 (pv 1) (zq0 (ze1 (K:=K) rfl) rfl jM zh5 (za0 (pix w K hr (pv 0) zf0) zg0)))) (pv 2)))),(zg1 (RfE.c (zl0 zd6 (RfE.v (zl0 zd6 rvi (RfE.v (zl0 znj (zc0 1) (RfE.v (zn8 zgd (zu0 (RfE.v (zl0 r_ix (zc0 0) rvi)) zm1))))))) (zc0 2)))),?_⟩;rintro ds Qd ⟨vs,r,m,v,rfl,hm,hv,q⟩;walk_at "ds";walk_at "dd";walk_at "k";rw [u5];refine ⟨.inl ⟨by lia,by lia⟩,?_⟩;have e:(2:Int)+(m:Int) * (vs.length:Int)+(v:Int)=((2+m * vs.length+v:Nat):Int):=by simp
 rw [e];exact q
theorem zet:FnScope ["yard", "number"] ["yard", "number"] (zi0 zqv):=by walk_at "sc"
theorem zz11 (M:Md K mg) (T:TopDef K "spot" zqv) (qU:mg "divmod"=none) (jM:mg "len"=none):Def P w K mg base "spot" 1 ["yard", "number"] (spD K zc21):=by
 refine zo3 M T zet (by walk_at "h") (zjb (by walk_at "i")) (zc3 ?_);walk_at "g";have nd:=zet.nd;refine ⟨_,_,(zj0 (zc1 (zq0 zbi rfl qU zbp (za0 (za1 zod (pv 1) zf0) (za0 (zq0 (ze1 (K:=K) rfl) rfl jM zh5 (za0 (pix w K hr (pv 0) zf0) zg0)) zg0))))),(zg1 (RfE.c (zn8 zxv (zu0 (RfE.v (zl0 zcq (zc0 1) rvi)) (zu0 (RfE.v (zn8 zgd (zu0 (RfE.v (zl0 r_ix (zc0 0) rvi)) zm1))) zm1))))),?_⟩;rintro ds Qd ⟨vs,r,n,rfl,h1,h2,q⟩;walk_at "ds";walk_at "dd";walk_at "k";rw [u5];exact ⟨by lia,by lia,q⟩
end
def pb (ps:List Pi) (m n:Nat):List Nat:=(ps.mapIdx λ i p=>(i,p)).filterMap λ x=>if m+x.2.len<=n then some x.1 else none
noncomputable def zmb:DSp:=λ ds Q=>∃ (vs:List Va) (ps:List Pi) (m n:Nat),ds=[.tuple [.list (vs.map Va.d),.list (ps.map Pi.d)],.int (m:Int),.int (n:Int)]/\ps.length<=24/\Q (.list ((pb ps m n).map λ k:Nat=>u4 (k:Int)))
theorem zhl (ps:List Pi) (m n:Nat):(pb ps m n).length<=ps.length:=by
 unfold pb;exact wU (k8 _ _) (by simp)
def blk (ps:List Pi) (n:Nat) (R:Nat->List Int) (G:Nat->Nat->Int) (m:Nat):List Int:=R m++(pb ps m n).map (G m)
def zfa (ps:List Pi) (n:Nat) (A:List Int) (R:Nat->List Int) (G:Nat->Nat->Int) (k:Nat):List Int:=A++((u3 k).map (blk ps n R G)).flatten
theorem zw8 (ps:List Pi) (n:Nat) (A:List Int) (R:Nat->List Int) (G:Nat->Nat->Int) (k:Nat):zfa ps n A R G (k+1)=zfa ps n A R G k++blk ps n R G k:=by
 unfold zfa;rw [w9,vY,ua0,<- wG];simp
theorem zsj (ps:List Pi) (n:Nat) (A:List Int) (R:Nat->List Int) (G:Nat->Nat->Int) (k:Nat):∀ d,∃ post,zfa ps n A R G (k+d)=zfa ps n A R G k++post
|0=>⟨[],by simp⟩
|d+1=>by
  obtain ⟨post,h⟩:=zsj ps n A R G k d;exact ⟨post++blk ps n R G (k+d),by rw [<- uaA,zw8,h,wG]⟩
theorem zrt {ps:List Pi} {A T:List Int} {R:Nat->List Int} {j:Nat} (hm:m < n) (hj:(pb ps m n)[j]?=some i):(zfa ps n A R G n++T)[(zfa ps n A R G m).length+(R m).length+j]?=some (G m i):=by
 obtain ⟨post,h⟩:=zsj ps n A R G (m+1) (n - (m+1));rw [show m+1+(n - (m+1))=n by lia,zw8] at h;rw [h];unfold blk;have hj2:=(vZ.mp hj).1;rw [show zfa ps n A R G m++(R m++(pb ps m n).map (G m))++post++T=(zfa ps n A R G m++R m)++((pb ps m n).map (G m)++(post++T)) by simp only [wG]];rw [wK (by rw [vK];lia),vK,show (zfa ps n A R G m).length+(R m).length+j - ((zfa ps n A R G m).length+(R m).length)=j by lia,wN (by simpa using hj2),u8,hj];rfl
def pmL (G:Nat->Nat->Int) (m:Nat) (is:List Nat):List Le:=is.filterMap λ i=>if 0 < G m i then some ⟨m,i,G m i⟩ else none
def zdc (ps:List Pi) (n:Nat) (G:Nat->Nat->Int) (k:Nat):List Le:=((u3 k).map λ m=>pmL G m (pb ps m n)).flatten
theorem zt8 (ps:List Pi) (n:Nat) (G:Nat->Nat->Int) (k:Nat):zdc ps n G (k+1)=zdc ps n G k++pmL G k (pb ps k n):=by
 unfold zdc;rw [w9,vY,ua0];simp
theorem zux {j:Nat} {is:List Nat} (h:is[j]?=some i):pmL G m (is.take (j+1))=pmL G m (is.take j)++(if 0 < G m i then [⟨m,i,G m i⟩] else []):=by
 unfold pmL;rw [xL,h,zH];congr 1;by_cases z:0 < G m i
 ·simp [z]
 ·simp [z]
theorem zlr (G:Nat->Nat->Int) (m:Nat) (is:List Nat):(pmL G m is).length<=is.length:=k8 _ _
theorem zrd (ps:List Pi) (n:Nat) (G:Nat->Nat->Int) (h:ps.length<=24):∀ k,(zdc ps n G k).length<=24 * k
|0=>by simp [zdc]
|k+1=>by
  have ih:=zrd ps n G h k;have h1:=zlr G k (pb ps k n);have h2:=zhl ps k n;rw [zt8,vK];lia
noncomputable def zsi:DSp:=λ ds Q=>∃ (vs:List Va) (ps:List Pi) (n:Nat) (A T:List Int) (R:Nat->List Int) (G:Nat->Nat->Int),ds=[.tuple [.list (vs.map Va.d),.list (ps.map Pi.d)],.int (n:Int),.list ((zfa ps n A R G n++T).map .int)]/\vs.length<=12/\ps.length<=24/\n<=60/\A.length=vs.length/\(∀ m,m < n->(R m).length=vs.length) /\
 Q (.list ((zdc ps n G n).map Le.d))
section
variable {P:Program} {w:World} {K:Fg} {mg:Str->Option Value} {base:Heap}
theorem zlc:FnScope ["yard", "moment", "until"] ["yard", "moment", "until"] (zi0 zx8):=by walk_at "sc"
theorem zjk (M:Md K mg) (T:TopDef K "pipes_by" zx8) (jK:mg "enumerate"=none):Def P w K mg base "pipes_by" 1 ["yard", "moment", "until"] (spD K zmb):=by
 refine zo3 M T zlc (by walk_at "h") (zjb (by walk_at "i")) (zc3 ?_);walk_at "g";have nd:=zlc.nd;refine ⟨_,_,(zj0 (zc1 (zl9 (sc:=zi0 zx8) (N:=["yard", "moment", "until"]) (own:=["number", "pipe"]) (ix:=[2,1]) rfl rfl rfl (by walk_at "csc") (zxb (K:=K) rfl rfl jK (za0 (pix w K hr (pv 0) zf0) zg0)) (λ _ _ _ _=>⟨(zb6 (K:=K) (n:=2) rfl rfl (zz0 (pgn 0 (nds ["number", "pipe", "until", "moment"])) (zz0 (pgn 1 (nds ["number", "pipe", "until", "moment"])) zu5))),(zvs (zt0 zyb1 (za1 (zb1 (K:=K) rfl) (pv 3) (pix w K hr (pv 1) zf0)) (pv 2) (zi1 _))),(pv 0)⟩)))),(zg1 (RfF.c (zx5 (ztj (zu0 (RfE.v (zl0 r_ix (zc0 0) rvi)) zm1)) (zu9 (zy0 (zg2 (i:=0) (n:=2) (by decide)) (zy0 (zg2 (i:=1) (n:=2) (by decide)) zz5))) (zs0 (zl0 r_le (RfE.v (zl0 zd6 (zc0 3) (RfE.v (zl0 r_ix (zc0 1) rvi)))) (zc0 2))) (zh0 0)))),?_⟩;rintro ds Qd ⟨vs,ps,m,n,rfl,h24,q⟩;walk_at "ds";walk_at "dd";walk_at "k";rw [zq8];refine zp91 (λ x=>if m+x.2.len<=n then some (.int (x.1:Int)) else none) (by rw [sizeLine_eq,y8];lia) (λ x hx=>?_) ?_
 ·obtain ⟨i,p⟩:=x;unfold Pi.d;walk_at "cs";walk_at "dd";walk_at "k";refine two (λ h=>?_) λ h=>?_
  ·rw [if_pos (by lia)]
  ·rw [if_neg (by lia)]
 ·unfold pb at q;rw [List.map_filterMap] at q;refine (congrArg (λ l=>Qd (.list l)) ?_).mp q;congr 1;funext x;split <;> rfl
theorem zve:FnScope ["yard", "until", "flow", "plan", "place", "moment", "pipe"] ["yard", "until", "flow"] (zi0 zhe):=by walk_at "sc"
theorem zpk (M:Md K mg) (T:TopDef K "plan_of" zhe) (jM:mg "len"=none) (jH:mg "range"=none) (kO:Def P w K mg base "pipes_by" 1 ["yard", "moment", "until"] (spD K zmb)):Def P w K mg base "plan_of" 2 ["yard", "until", "flow"] (spD K zsi):=by
 refine zo3 M T zve (by walk_at "h") (zjb (by walk_at "i")) (zc3 ?_);walk_at "g";have nd:=zve.nd;refine ⟨_,_,(zd0 (pset 3 nd (zp1 zg0))
   (zd0 (pset 4 nd (zq0 (ze1 (K:=K) rfl) rfl jM zh5 (za0 (pix w K hr (pv 0) zf0) zg0)))
   (zd0 (zs4 PassesOwn.never rfl (zi2 rfl jH (za0 (pv 1) zg0)) (pgn 5 nd) (zd0 (zc41 (i:=4) nd rfl (by first|exact Or.inl rfl|exact Or.inr rfl) (zq0 (ze1 (K:=K) rfl) rfl jM zh5 (za0 (pix w K hr (pv 0) zf0) zg0)) zwl)
   (zj0 (zs4 PassesOwn.never rfl (pi_W (K:=K) rfl (zo0 kO (rmn hr) rfl (za0 (pv 0) (za0 (pv 5) (za0 (pv 1) zg0))))) (pgn 6 nd) (zd0 (zh8 (zt0 zcx (pix w K hr (pv 2) (pv 4)) zf0 (zi1 _)) (zj0 (zd2 (zg6 (K:=K) rfl ğa ğb ğc zy1 (pv 3) (za0 (zl1 (za0 (pv 5) (za0 (pv 6) (za0 (pix w K hr (pv 2) (pv 4)) zg0)))) zg0)))) zk1)
   (zj0 (zc41 (i:=4) nd rfl (by first|exact Or.inl rfl|exact Or.inr rfl) zf0 zwl)))))))
   (zj0 (zc1 (pv 3)))))),(zm0 (ze3 (RfF.c (zn3 zk0)))
   (zm0 (zh1 (zn8 zgd (zu0 (RfE.v (zl0 r_ix (zc0 0) rvi)) zm1)) (rgn 4))
   (zm0 (zv4 (zt6 (zb0 (zh0 1) zk0)) (rgn 5) (zm0 (zy01 (zn8 zgd (zu0 (RfE.v (zl0 r_ix (zc0 0) rvi)) zm1)))
   (zv4 (zeq (zw0 (zb0 (zh0 0) (zb0 (zh0 5) (zb0 (zh0 1) zk0))))) (rgn 6) (zm0 (zi8 (zs0 (zl0 r_gt (RfE.v (zl0 r_ix (zc0 2) (zc0 4))) rvi)) (zc2 (zbg zia (zp0 3) (zb0 (zo1 (zb0 (zh0 5) (zb0 (zh0 6) (zb0 (zl0 r_ix (zc0 2) (zc0 4)) zk0)))) zk0))) zj1)
   (zy01 zv0)))))
   (zj9 (i:=3))))),?_⟩
 rintro ds Qd ⟨vs,ps,n,A,T,R,G,rfl,h12,h24,hn,hA,hR,q⟩;generalize hF:zfa ps n A R G n++T=F;walk_at "ds";walk_at "a";walk_at "b";walk_at "k";rw [u5];walk_at "b";rw [vR];unfold rngD;have flen:∀ k,k<=n->(zfa ps n A R G k).length<=12+36 * k:=λ k=>by
  induction k with
 |zero=>intro _;unfold zfa;simp;lia
 |succ k ih =>
   intro hk;have i1:=ih (by lia);have i2:=hR k (by lia);have i3:=zhl ps k n;rw [zw8,vK];unfold blk;rw [vK,u5];lia
 refine ⟨by lia,by lia,zf2 (λ i U=>∃ s5 s6:Sl,U=[.sh (.tuple [.list (vs.map Va.d),.list (ps.map Pi.d)]),.sh (.int (n:Int)),.sh (.list (F.map .int)),.ow (.li ((zdc ps n G i).map Le.d)),.sh (.int ((zfa ps n A R G i).length:Int)),s5,s6]) ⟨.un,.un,by unfold zfa;simp [zdc,hA]⟩ ?_ ?_⟩
 ·rintro i m U hm ⟨s5,s6,rfl⟩;obtain ⟨hi,hi2⟩:=vZ.mp hm;simp at hi hi2;subst hi2;rw [show (0:Int)+(i:Int)=(i:Int) by lia];have hfl:=flen i (by lia);have hpl:=zrd ps n G h24 i;have hpb:=zhl ps i n;walk_at "dd";walk_at "a";walk_at "k";rw [u5];walk_at "f";walk_at "dd";refine ⟨vs,ps,i,n,rfl,h24,?_⟩;walk_at "dd";refine zf2 (λ j U=>∃ s6:Sl,U=[.sh (.tuple [.list (vs.map Va.d),.list (ps.map Pi.d)]),.sh (.int (n:Int)),.sh (.list (F.map .int)),.ow (.li ((zdc ps n G i++pmL G i ((pb ps i n).take j)).map Le.d)),.sh (.int (((zfa ps n A R G i).length+(R i).length+j:Nat):Int)),.sh (.int (i:Int)),s6]) ⟨s6,?_⟩ ?_ ?_
  ·rw [hR i hi];simp [pmL]
  ·rintro j x U hj ⟨s6,rfl⟩;have hjl:=(vZ.mp hj).1;have gx:=zrt (A:=A) (T:=T) (R:=R) (G:=G) hi hj;rw [hF] at gx;have hRi:=hR i hi;have gf:atI (F.map u4) (((zfa ps n A R G i).length+(R i).length+j:Nat):Int)=some (.int (G i x)):=ze6 (by lia) (by rw [vR,u8,gx];rfl);have hpm:=zlr G i ((pb ps i n).take j);rw [wM] at hpm;rw [zux hj];walk_at "dd";generalize hN:(zfa ps n A R G i).length+(R i).length+j=N at gf;rw [show (zfa ps n A R G i).length+(R i).length+(j+1)=N+1 by lia];walk_at "a";refine ⟨_,gf,?_⟩;walk_at "dd";refine two (λ z=>?_) λ z=>?_
   ·refine ⟨_,gf,?_⟩;refine ⟨by rw [u5,vK];lia,hJ _ ?_⟩;clear hJ;walk_at "dd";rw [if_pos z];refine ⟨.sh (.int (x:Int)),?_⟩;rw [<- wG,vY (l₂:=[_])];rfl
   ·walk_at "f";walk_at "dd";rw [if_neg z];refine ⟨.sh (.int (x:Int)),?_⟩;rw [wJ];rfl
  ·rintro U ⟨s6,rfl⟩;rw [xA,zt8,zw8];refine ⟨.sh (.int (i:Int)),s6,?_⟩;unfold blk;rw [vK,vK,u5,<- uaA]
 ·rintro U ⟨s5,s6,rfl⟩;rw [vV];walk_at "f";walk_at "dd";exact q
end
def pbJ (ps:List Pi) (m n j:Nat):List Nat:=((ps.mapIdx λ i p=>(i,p)).take j).filterMap λ x=>if m+x.2.len<=n then some x.1 else none
theorem zo9 (ps:List Pi) (m n:Nat):pbJ ps m n ps.length=pb ps m n:=by
 unfold pbJ pb;rw [yB (by simp)]
theorem zpl {ps:List Pi} {j:Nat} {p:Pi} (h:ps[j]?=some p):pbJ ps m n (j+1)=pbJ ps m n j++(if m+p.len<=n then [j] else []):=by
 unfold pbJ;rw [xL,xP,h,zH];congr 1;by_cases e:m+p.len<=n <;> simp [e]
theorem zzc (ps:List Pi) (m n:Nat):∀ j,j<=ps.length->(pbJ ps m n j).Nodup/\∀ i∈pbJ ps m n j,i < j/\m+pl ps i<=n
|0,_=>⟨by simp [pbJ],λ i hi=>by simp [pbJ] at hi⟩
|j+1,h=>by
  obtain ⟨h1,h2⟩:=zzc ps m n j (by lia);have e:ps[j]?=some ps[j]:=u7 (by lia);rw [zpl e];by_cases c:m+ps[j].len<=n
  ·rw [if_pos c];refine ⟨?_,λ i hi=>?_⟩
   ·rw [wH];refine ⟨h1,by simp,λ a ha b hb z=>?_⟩;simp at hb;have:=(h2 a ha).1;lia
   ·rcases vJ.mp hi with z|z
    ·exact ⟨by have:=(h2 i z).1;lia,(h2 i z).2⟩
    ·simp at z;subst z;exact ⟨by lia,by unfold pl;rw [e];exact c⟩
  ·rw [if_neg c,wJ];exact ⟨h1,λ i hi=>⟨by have:=(h2 i hi).1;lia,(h2 i hi).2⟩⟩
noncomputable def ntOf (vs:List Va) (ps:List Pi) (n:Nat):Nt:=⟨vs.length,n,λ k=>((vs[k]?).map Va.fill).getD 0,λ k=>((vs[k]?).map Va.room).getD 0,λ m=>pb ps m n,zl2 ps,zv9 ps,pl ps,λ i m=>zqb ps i m⟩
theorem zc01 {vs:List Va} {ps:List Pi} (h:∀ p∈ps,PiOk vs.length p):(ntOf vs ps n).Ok:=by
 have a:∀ m,∀ i∈pb ps m n,i < ps.length/\m+pl ps i<=n:=λ m i hi=>by rw [<- zo9] at hi;exact (zzc ps m n _ (u6 _)).2 i hi
 have b:∀ i,i < ps.length->zl2 ps i < vs.length/\zv9 ps i < vs.length/\1<=pl ps i:=λ i hi=>by
  unfold zl2 zv9 pl;rw [u7 hi];obtain ⟨h1,h2,h3,_⟩:=h _ (w6 hi);exact ⟨h1,h2,h3⟩
 exact ⟨λ m=>by show (pb ps m n).Nodup;rw [<- zo9];exact (zzc ps m n _ (u6 _)).1,λ m i hi=>(b i (a m i hi).1).1,λ m i hi=>(b i (a m i hi).1).2.1,λ m i hi=>⟨(b i (a m i hi).1).2.2,(a m i hi).2⟩⟩
noncomputable def zii (vs:List Va) (ps:List Pi) (n k:Nat):List Ar:=(u3 vs.length).map (λ j=>(0,(ntOf vs ps n).nd 0 j,(ntOf vs ps n).fl j))++(u3 k).flatMap λ m=>(u3 vs.length).map (λ j=>((ntOf vs ps n).nd m j,(ntOf vs ps n).nd (m+1) j,(ntOf vs ps n).rm j))++(pb ps m n).map λ i=>((ntOf vs ps n).nd m (zl2 ps i),(ntOf vs ps n).nd (m+pl ps i) (zv9 ps i),zqb ps i m)
theorem zpn (vs:List Va) (ps:List Pi) (n k:Nat):zii vs ps n (k+1)=zii vs ps n k++(u3 vs.length).map (λ j=>((ntOf vs ps n).nd k j,(ntOf vs ps n).nd (k+1) j,(ntOf vs ps n).rm j))++(pb ps k n).map λ i=>((ntOf vs ps n).nd k (zl2 ps i),(ntOf vs ps n).nd (k+pl ps i) (zv9 ps i),zqb ps i k):=by
 unfold zii;rw [w9,zO];simp
def csOf (vs:List Va) (ws:List Int):List (Nat->Int):=[λ k=>ws.getD k 0,λ k=>((vs[k]?).map Va.room).getD 0 - ws.getD k 0]
theorem zti (vs:List Va) (ps:List Pi) (ws:List Int) (n:Nat):(ntOf vs ps n).arcs (csOf vs ws)=zii vs ps n n++(u3 vs.length).map (λ k=>((ntOf vs ps n).nd n k,1,ws.getD k 0))++(u3 vs.length).map λ k=>((ntOf vs ps n).nd n k,1,((vs[k]?).map Va.room).getD 0 - ws.getD k 0):=by
 unfold Nt.arcs csOf zii;rw [wB,wB,xX,wJ,<- wG];rfl
structure YOk (vs:List Va) (ps:List Pi) (ws:List Int):Prop where
 n1:1<=vs.length
 n2:vs.length<=12
 m2:ps.length<=24
 lw:ws.length=vs.length
 vf:∀ v∈vs,0<=v.fill/\v.fill<=v.room
 wr:∀ (k:Nat) v y,vs[k]?=some v->ws[k]?=some y->0<=y/\y<=v.room
 pb:∀ p∈ps,PiOk vs.length p
noncomputable def atA (vs:List Va) (ps:List Pi) (n m:Nat):List Ar:=(u3 vs.length).map (λ j=>((ntOf vs ps n).nd m j,(ntOf vs ps n).nd (m+1) j,(ntOf vs ps n).rm j))++(pb ps m n).map λ i=>((ntOf vs ps n).nd m (zl2 ps i),(ntOf vs ps n).nd (m+pl ps i) (zv9 ps i),zqb ps i m)
theorem zgo (vs:List Va) (ps:List Pi) (n k:Nat):zii vs ps n (k+1)=zii vs ps n k++atA vs ps n k:=by rw [zpn,wG];rfl
theorem zyr (vs:List Va) (ps:List Pi) (n m:Nat):(atA vs ps n m).length<=vs.length+ps.length:=by
 unfold atA;rw [vK,u5,u5,vV];have:=zhl ps m n;lia
theorem zee (vs:List Va) (ps:List Pi) (n:Nat):∀ k,(zii vs ps n k).length<=vs.length+(vs.length+ps.length) * k
|0=>by simp [zii]
|k+1=>by rw [zgo,vK,Nat.mul_add];have:=zee vs ps n k;have:=zyr vs ps n k;lia
noncomputable def zxi:DSp:=λ ds Q=>∃ (vs:List Va) (ps:List Pi) (m n:Nat),ds=[dY vs ps,.int (m:Int),.int (n:Int)]/\vs.length<=12/\ps.length<=24/\(∀ p∈ps,PiOk vs.length p)/\m<=60/\Q (.list ((atA vs ps n m).map dAr))
noncomputable def zoa1:DSp:=λ ds Q=>∃ (vs:List Va) (ps:List Pi) (ws:List Int) (n:Nat),ds=[dY vs ps,.list (ws.map .int),.int (n:Int)]/\YOk vs ps ws/\n<=60/\Q (.tuple [nI ((ntOf vs ps n).nd (n+1) 0),.list (((ntOf vs ps n).arcs (csOf vs ws)).map dAr)])
section
variable {P:Program} {w:World} {K:Fg} {mg:Str->Option Value} {base:Heap}
theorem zke:FnScope ["yard", "moment", "until", "arcs", "number", "pipe", "goal"] ["yard", "moment", "until"] (zi0 zba):=by walk_at "sc"
theorem zzl (M:Md K mg) (T:TopDef K "arcs_at" zba) (jK:mg "enumerate"=none) (uY:Def P w K mg base "width" 4 ["gate", "moment"] (spD K zqr)) (kY:Def P w K mg base "node" 1 ["yard", "moment", "vat"] (spD K zlu)) (kO:Def P w K mg base "pipes_by" 1 ["yard", "moment", "until"] (spD K zmb)):Def P w K mg base "arcs_at" 5 ["yard", "moment", "until"] (spD K zxi):=by
 refine zo3 M T zke (by walk_at "h") (zjb (by walk_at "i")) (zc3 ?_);walk_at "g";have nd:=zke.nd;refine ⟨_,_,(zd0 (zy4 (i:=3) (sc:=zi0 zba) (N:=["yard", "moment", "until", "arcs", "number", "pipe", "goal"]) (own:=["vat", "told"]) (ix:=[0,1]) rfl rfl rfl (by walk_at "csc") nd rfl rfl (zxb (K:=K) rfl rfl jK (za0 (pix w K hr (pv 0) zf0) zg0)) (λ _ _ _ _=>⟨(zb6 (K:=K) (n:=2) rfl rfl (zz0 (pgn 0 (nds ["vat", "told", "yard", "moment"])) (zz0 (pgn 1 (nds ["vat", "told", "yard", "moment"])) zu5))),zv5,(zl1 (za0 (zo0 kY (rmn hr) rfl (za0 (pv 2) (za0 (pv 3) (za0 (pv 0) zg0)))) (za0 (zo0 kY (rmn hr) rfl (za0 (pv 2) (za0 (za1 (zb1 (K:=K) rfl) (pv 3) zf0) (za0 (pv 0) zg0)))) (za0 (pix w K hr (pv 1) zf0) zg0))))⟩))
   (zd0 (zs4 PassesOwn.never rfl (pi_W (K:=K) rfl (zo0 kO (rmn hr) rfl (za0 (pv 0) (za0 (pv 1) (za0 (pv 2) zg0))))) (pgn 4 nd) (zd0 (pset 5 nd (pix w K hr (pix w K hr (pv 0) zf0) (pv 4)))
   (zd0 (pset 6 nd (zo0 kY (rmn hr) rfl (za0 (pv 0) (za0 (za1 (zb1 (K:=K) rfl) (pv 1) (pix w K hr (pv 5) zf0)) (za0 (pix w K hr (pv 5) zf0) zg0)))))
   (zj0 (zd2 (zg6 (K:=K) rfl ğa ğb ğc zy1 (pv 3) (za0 (zl1 (za0 (zo0 kY (rmn hr) rfl (za0 (pv 0) (za0 (pv 1) (za0 (pix w K hr (pv 5) zf0) zg0)))) (za0 (pv 6) (za0 (zo0 uY (rmn hr) rfl (za0 (pix w K hr (pv 5) zf0) (za0 (pv 1) zg0))) zg0)))) zg0)))))))
   (zj0 (zc1 (pv 3))))),(zm0 (ze3 (RfF.c (zx5 (ztj (zu0 (RfE.v (zl0 r_ix (zc0 0) rvi)) zm1)) (zu9 (zy0 (zg2 (i:=0) (n:=2) (by decide)) (zy0 (zg2 (i:=1) (n:=2) (by decide)) zz5))) zp7 (zo1 (zb0 (zw0 (zb0 (zh0 2) (zb0 (zh0 3) (zb0 (zh0 0) zk0)))) (zb0 (zw0 (zb0 (zh0 2) (zb0 (zl0 zd6 (zc0 3) rvi) (zb0 (zh0 0) zk0)))) (zb0 (zl0 r_ix (zc0 1) rvi) zk0)))))))
   (zm0 (zv4 (zeq (zw0 (zb0 (zh0 0) (zb0 (zh0 1) (zb0 (zh0 2) zk0))))) (rgn 4) (zm0 (zh1 (zl0 r_ix (RfE.v (zl0 r_ix (zc0 0) rvi)) (zc0 4)) (rgn 5))
   (zm0 (zh1 (zw0 (zb0 (zh0 0) (zb0 (zl0 zd6 (zc0 1) (RfE.v (zl0 r_ix (zc0 5) rvi))) (zb0 (zl0 r_ix (zc0 5) rvi) zk0)))) (rgn 6))
   (zc2 (zbg zia (zp0 3) (zb0 (zo1 (zb0 (zw0 (zb0 (zh0 0) (zb0 (zh0 1) (zb0 (zl0 r_ix (zc0 5) rvi) zk0)))) (zb0 (zh0 6) (zb0 (zw0 (zb0 (zl0 r_ix (zc0 5) rvi) (zb0 (zh0 1) zk0))) zk0)))) zk0))))))
   (zj9 (i:=3)))),?_⟩
 rintro ds Qd ⟨vs,ps,m,n,rfl,hv,hp,okp,hm,q⟩;unfold dY;walk_at "ds";walk_at "a";walk_at "k";rw [zq8];refine zix (λ p=>dAr ((ntOf vs ps n).nd m p.1,(ntOf vs ps n).nd (m+1) p.1,p.2.room)) (by rw [sizeLine_eq,y8];lia) (λ p hp=>?_) ?_
 ·obtain ⟨i,v⟩:=p;rw [show Va.d v=.tuple [.str v.nm,.int v.room,.int v.fill] from rfl];walk_at "cs";walk_at "dd";refine ⟨vs,_,m,i,rfl,by lia,by lia,vs,.list (ps.map Pi.d),m+1,i,by simp [nI],by lia,by lia,_,rfl,?_⟩;simp [dAr,nI,Nt.nd,ntOf]
 walk_at "f";have e1:(vs.mapIdx λ i x=>(i,x)).map (λ p=>dAr ((ntOf vs ps n).nd m p.1,(ntOf vs ps n).nd (m+1) p.1,p.2.room))=((u3 vs.length).map λ j=>((ntOf vs ps n).nd m j,(ntOf vs ps n).nd (m+1) j,(ntOf vs ps n).rm j)).map dAr:=by
  rw [wL];apply xV;intro j;rw [u8,u8,xP];by_cases h:j < vs.length
  ·rw [xM h,u7 h];have:(ntOf vs ps n).rm j=vs[j].room:=by show ((vs[j]?).map Va.room).getD 0=_;rw [u7 h];rfl
   show some (dAr ((ntOf vs ps n).nd m j,(ntOf vs ps n).nd (m+1) j,vs[j].room))=some (dAr ((ntOf vs ps n).nd m j,(ntOf vs ps n).nd (m+1) j,(ntOf vs ps n).rm j));rw [this]
  ·rw [v9 (by lia),v9 (by simpa using h)];rfl
 rw [e1];walk_at "a";refine ⟨vs,ps,m,n,rfl,hp,?_⟩;have hpb:=zhl ps m n;have okb:∀ i∈pb ps m n,i < ps.length:=λ i hi=>by rw [<- zo9] at hi;exact ((zzc ps m n _ (u6 _)).2 i hi).1
 walk_at "dd";refine zf2 (λ i U=>∃ s4 s5 s6:Sl,U=[.sh (.tuple [.list (vs.map Va.d),.list (ps.map Pi.d)]),.sh (.int (m:Int)),.sh (.int (n:Int)),.ow (.li (((u3 vs.length).map (λ j=>((ntOf vs ps n).nd m j,(ntOf vs ps n).nd (m+1) j,(ntOf vs ps n).rm j))++((pb ps m n).take i).map λ i=>((ntOf vs ps n).nd m (zl2 ps i),(ntOf vs ps n).nd (m+pl ps i) (zv9 ps i),zqb ps i m)).map dAr)),s4,s5,s6]) ⟨.un,.un,.un,by simp⟩ ?_ ?_
 ·rintro i k U hk ⟨s4,s5,s6,rfl⟩;have hkp:=okb k (wF hk);have hik:=(vZ.mp hk).1;have ep:ps[k]?=some ps[k]:=u7 hkp;obtain ⟨o1,o2,o3,o4,o5⟩:=okp _ (w6 hkp);have o4:ps[k].len<=20:=o4;have gp:atI (ps.map Pi.d) (k:Int)=some (.tuple [.int (ps[k].u:Int),.int (ps[k].v:Int),.int (ps[k].len:Int),.int ps[k].pr,ps[k].g.d]):=ze6 (by lia) (by rw [vR,u8,ep];rfl);rw [xL,hk];generalize hpp:ps[k]=p at ep o1 o2 o3 o4 o5 gp;walk_at "dd";walk_at "a";walk_at "k";refine ⟨_,gp,hJ _ ?_⟩;walk_at "c";refine ⟨_,rfl,_,rfl,vs,.list (ps.map Pi.d),m+p.len,p.v,by simp [nI],by lia,by lia,hJ _ ?_⟩;clear hJ;walk_at "dd";refine ⟨_,rfl,vs,_,m,p.u,rfl,by lia,by lia,_,rfl,p.g,m,rfl,o5.1,by simp;lia,.sh (.int (k:Int)),.sh (.tuple [.int (p.u:Int),.int (p.v:Int),.int (p.len:Int),.int p.pr,p.g.d]),.sh (nI (2+(m+p.len) * vs.length+p.v)),?_⟩;have es:zl2 ps k=p.u:=by unfold zl2;rw [ep];rfl
  have eg:zv9 ps k=p.v:=by unfold zv9;rw [ep];rfl
  have el:pl ps k=p.len:=by unfold pl;rw [ep];rfl
  have ew:zqb ps k m=p.g.at m:=by unfold zqb;rw [ep];rfl
  simp only [vY,Option.toList,vW,x8,<- wG];rw [es,eg,el,ew];rfl
 ·rintro U ⟨s4,s5,s6,rfl⟩;rw [xA];walk_at "f";walk_at "dd";exact q
theorem za41:FnScope ["yard", "wants", "until", "arcs", "moment", "vat", "told"] ["yard", "wants", "until"] (zi0 zb31):=by walk_at "sc"
theorem zz91 (M:Md K mg) (T:TopDef K "net" zb31) (jK:mg "enumerate"=none) (jH:mg "range"=none) (kY:Def P w K mg base "node" 1 ["yard", "moment", "vat"] (spD K zlu)) (uL:Def P w K mg base "arcs_at" 5 ["yard", "moment", "until"] (spD K zxi)) (g_SOURCE:mg "SOURCE"=some gv_SOURCE) (r_SOURCE:RelV (.int 0) gv_SOURCE) (g_SINK:mg "SINK"=some gv_SINK) (r_SINK:RelV (.int 1) gv_SINK):Def P w K mg base "net" 6 ["yard", "wants", "until"] (spD K zoa1):=by
 refine zo3 M T za41 (by walk_at "h") (zjb (by walk_at "i")) (zc3 ?_);walk_at "g";have nd:=za41.nd;refine ⟨_,_,(zd0 (zy4 (i:=3) (sc:=zi0 zb31) (N:=["yard", "wants", "until", "arcs", "moment", "vat", "told"]) (own:=["vat", "told"]) (ix:=[0]) rfl rfl rfl (by walk_at "csc") nd rfl rfl (zxb (K:=K) rfl rfl jK (za0 (pix w K hr (pv 0) zf0) zg0)) (λ _ _ _ _=>⟨(zb6 (K:=K) (n:=2) rfl rfl (zz0 (pgn 0 (nds ["vat", "told", "yard"])) (zz0 (pgn 1 (nds ["vat", "told", "yard"])) zu5))),zv5,(zl1 (za0 (zta rfl g_SOURCE r_SOURCE) (za0 (zo0 kY (rmn hr) rfl (za0 (pv 2) (za0 zf0 (za0 (pv 0) zg0)))) (za0 (pix w K hr (pv 1) zf0) zg0))))⟩))
   (zd0 (zs4 PassesOwn.never rfl (zi2 rfl jH (za0 (pv 2) zg0)) (pgn 4 nd) (zj0 (zd2 (zg6 (K:=K) rfl ğa ğd ğe (zs8 (K:=K) rfl) (pv 3) (za0 (zo0 uL (rmn hr) rfl (za0 (pv 0) (za0 (pv 4) (za0 (pv 2) zg0)))) zg0)))))
   (zd0 (zd2 (zg6 (K:=K) rfl ğa ğd ğe (zs8 (K:=K) rfl) (pv 3) (za0 (zl9 (sc:=zi0 zb31) (N:=["yard", "wants", "until", "arcs", "moment", "vat", "told"]) (own:=["vat", "want"]) (ix:=[0,2]) rfl rfl rfl (by walk_at "csc") (zxb (K:=K) rfl rfl jK (za0 (pv 1) zg0)) (λ _ _ _ _=>⟨(zb6 (K:=K) (n:=2) rfl rfl (zz0 (pgn 0 (nds ["vat", "want", "yard", "until"])) (zz0 (pgn 1 (nds ["vat", "want", "yard", "until"])) zu5))),zv5,(zl1 (za0 (zo0 kY (rmn hr) rfl (za0 (pv 2) (za0 (pv 3) (za0 (pv 0) zg0)))) (za0 (zta rfl g_SINK r_SINK) (za0 (pv 1) zg0))))⟩)) zg0)))
   (zd0 (zs4 PassesOwn.never rfl (zxb (K:=K) rfl rfl jK (za0 (pix w K hr (pv 0) zf0) zg0)) (zb6 (K:=K) (n:=2) rfl rfl (zz0 (pgn 5 nd) (zz0 (pgn 6 nd) zu5))) (zj0 (zd2 (zg6 (K:=K) rfl ğa ğb ğc zy1 (pv 3) (za0 (zl1 (za0 (zo0 kY (rmn hr) rfl (za0 (pv 0) (za0 (pv 2) (za0 (pv 5) zg0)))) (za0 (zta rfl g_SINK r_SINK) (za0 (za1 zod (pix w K hr (pv 6) zf0) (pix w K hr (pv 1) (pv 5))) zg0)))) zg0)))))
   (zj0 (zc1 (zl1 (za0 (zo0 kY (rmn hr) rfl (za0 (pv 0) (za0 (za1 (zb1 (K:=K) rfl) (pv 2) zf0) (za0 zf0 zg0)))) (za0 (pv 3) zg0))))))))),(zm0 (ze3 (RfF.c (zx5 (ztj (zu0 (RfE.v (zl0 r_ix (zc0 0) rvi)) zm1)) (zu9 (zy0 (zg2 (i:=0) (n:=2) (by decide)) (zy0 (zg2 (i:=1) (n:=2) (by decide)) zz5))) zp7 (zo1 (zb0 zv0 (zb0 (zw0 (zb0 (zh0 2) (zb0 zv0 (zb0 (zh0 0) zk0)))) (zb0 (zl0 r_ix (zc0 1) rvi) zk0)))))))
   (zm0 (zv4 (zt6 (zb0 (zh0 2) zk0)) (rgn 4) (zc2 (zbg zpp (zp0 3) (zb0 (zw0 (zb0 (zh0 0) (zb0 (zh0 4) (zb0 (zh0 2) zk0)))) zk0))))
   (zm0 (zc2 (zbg zpp (zp0 3) (zb0 (RfF.e (zx5 (ztj (zu0 (zc0 1) zm1)) (zu9 (zy0 (zg2 (i:=0) (n:=2) (by decide)) (zy0 (zg2 (i:=1) (n:=2) (by decide)) zz5))) zp7 (zo1 (zb0 (zw0 (zb0 (zh0 2) (zb0 (zh0 3) (zb0 (zh0 0) zk0)))) (zb0 zv0 (zb0 (zh0 1) zk0)))))) zk0)))
   (zm0 (zv4 (zmr (zb0 (zl0 r_ix (zc0 0) rvi) zk0)) (zu9 (zy0 (rgn 5) (zy0 (rgn 6) zz5))) (zc2 (zbg zia (zp0 3) (zb0 (zo1 (zb0 (zw0 (zb0 (zh0 0) (zb0 (zh0 2) (zb0 (zh0 5) zk0)))) (zb0 zv0 (zb0 (zl0 zcq (RfE.v (zl0 r_ix (zc0 6) rvi)) (RfE.v (zl0 r_ix (zc0 1) (zc0 5)))) zk0)))) zk0))))
   (zmf 3 [] (zg1 (RfE.c (zo1 (zb0 (zw0 (zb0 (zh0 0) (zb0 (zl0 zd6 (zc0 2) rvi) (zb0 zv0 zk0)))) (zb0 (zh0 3) zk0)))))))))),?_⟩
 rintro ds Qd ⟨vs,ps,ws,n,rfl,y,hn,q⟩;have hv:=y.n2;have hm:=y.m2;have hw:=y.lw;unfold dY;walk_at "ds";walk_at "a";walk_at "k";rw [zq8];refine zix (λ p=>dAr (0,(ntOf vs ps n).nd 0 p.1,p.2.fill)) (by rw [sizeLine_eq,y8];lia) (λ p hp=>?_) ?_
 ·obtain ⟨i,v⟩:=p;unfold Va.d;walk_at "cs";walk_at "dd";exact ⟨vs,_,0,i,rfl,by lia,by lia,_,rfl,by simp [dAr,nI,Nt.nd,ntOf]⟩
 walk_at "f";have e1:(vs.mapIdx λ i x=>(i,x)).map (λ p=>dAr (0,(ntOf vs ps n).nd 0 p.1,p.2.fill))=(zii vs ps n 0).map dAr:=by
  unfold zii;rw [List.range_zero,xX,wJ,wL];apply xV;intro j;rw [u8,u8,xP];by_cases h:j < vs.length
  ·rw [xM h,u7 h];have:(ntOf vs ps n).fl j=vs[j].fill:=by show ((vs[j]?).map Va.fill).getD 0=_;rw [u7 h];rfl
   show some (dAr (0,(ntOf vs ps n).nd 0 j,vs[j].fill))=some (dAr (0,(ntOf vs ps n).nd 0 j,(ntOf vs ps n).fl j));rw [this]
  ·rw [v9 (by lia),v9 (by simpa using h)];rfl
 rw [e1];have la:∀ k,k<=60->(zii vs ps n k).length<=12+36 * k:=λ k _=>wU (zee vs ps n k) (by have:=yO k (show vs.length+ps.length<=36 by lia);lia);walk_at "a";rw [vR];unfold rngD;refine ⟨by lia,by lia,zf2 (λ i U=>∃ s4:Sl,U=[.sh (.tuple [.list (vs.map Va.d),.list (ps.map Pi.d)]),.sh (.list (ws.map .int)),.sh (.int (n:Int)),.ow (.li ((zii vs ps n i).map dAr)),s4,.un,.un]) ⟨.un,rfl⟩ ?_ ?_⟩
 ·rintro i x U hx ⟨s4,rfl⟩;obtain ⟨hi,hi2⟩:=vZ.mp hx;simp at hi hi2;subst hi2;rw [show (0:Int)+(i:Int)=(i:Int) by lia];have h1:=la i (by lia);have h2:=zyr vs ps n i;walk_at "dd";exact ⟨vs,ps,i,n,rfl,hv,hm,y.pb,by lia,by rw [u5,u5];lia,.sh (.int (i:Int)),by rw [zgo,vY]⟩
 rintro U ⟨s4,rfl⟩;rw [vV];walk_at "f";have h1:=la n (by lia);walk_at "a";rw [zq8];refine zix (λ p=>dAr ((ntOf vs ps n).nd n p.1,1,p.2)) (by rw [sizeLine_eq,y8];lia) (λ p hp=>?_) ?_
 ·obtain ⟨i,x⟩:=p;walk_at "cs";walk_at "dd";exact ⟨vs,_,n,i,rfl,by lia,by lia,by simp [dAr,nI,Nt.nd,ntOf]⟩
 refine ⟨by simp;lia,hJ _ ?_⟩;clear hJ;have e3:(ws.mapIdx λ i x=>(i,x)).map (λ p=>dAr ((ntOf vs ps n).nd n p.1,1,p.2))=((u3 vs.length).map λ k=>((ntOf vs ps n).nd n k,1,ws.getD k 0)).map dAr:=by
  rw [wL,<- hw];apply xV;intro j;rw [u8,u8,xP];by_cases h:j < ws.length
  ·rw [xM h,u7 h];show some (dAr ((ntOf vs ps n).nd n j,1,ws[j]))=some (dAr ((ntOf vs ps n).nd n j,1,ws.getD j 0));rw [vS,u7 h];rfl
  ·rw [v9 (by lia),v9 (by simpa using h)];rfl
 rw [e3,<- vY];walk_at "a";walk_at "k";rw [zq8];refine zf2 (λ i U=>∃ s5 s6:Sl,U=[.sh (.tuple [.list (vs.map Va.d),.list (ps.map Pi.d)]),.sh (.list (ws.map .int)),.sh (.int (n:Int)),.ow (.li ((zii vs ps n n++(u3 vs.length).map (λ k=>((ntOf vs ps n).nd n k,1,ws.getD k 0))++(u3 i).map λ k=>((ntOf vs ps n).nd n k,1,((vs[k]?).map Va.room).getD 0 - ws.getD k 0)).map dAr)),s4,s5,s6]) ⟨.un,.un,by simp⟩ ?_ ?_
 ·rintro i x U hx ⟨s5,s6,rfl⟩;rw [xP] at hx;obtain ⟨v,hvv,rfl⟩:=wO.mp hx;have hi:=(vZ.mp hvv).1;have gw:atI (ws.map u4) ((i:Nat):Int)=some (.int (ws.getD i 0)):=ze6 (by lia) (by rw [vR,u8,vS,u7 (by lia:i < ws.length)];rfl);rw [w9];unfold Va.d;walk_at "dd";refine ⟨vs,_,n,i,rfl,by lia,by lia,_,rfl,_,gw,?_⟩;walk_at "dd";refine ⟨by simp;lia,.sh (nI i),.sh v.d,?_⟩;simp only [vY,vW,x8,<- wG];rw [hvv];rfl
 ·rintro U ⟨s5,s6,rfl⟩;rw [y8,<- zti];walk_at "f";walk_at "dd";refine ⟨_,_,rfl,rfl,vs,.list (ps.map Pi.d),n+1,0,by simp [nI],by lia,by lia,?_⟩;exact q
end
def cW (ws:List Int) (k:Nat):Int:=ws.getD k 0
def cR (vs:List Va) (ws:List Int) (k:Nat):Int:=((vs[k]?).map Va.room).getD 0 - ws.getD k 0
def zow (vs:List Va) (ps:List Pi) (ws:List Int) (n:Nat):List Ar:=(u3 vs.length).map λ k=>((ntOf vs ps n).nd n k,1,cR vs ws k)
theorem zzu (vs:List Va) (ps:List Pi) (ws:List Int) (n:Nat):(ntOf vs ps n).arcs (csOf vs ws)=(ntOf vs ps n).arcs [cW ws]++zow vs ps ws n:=by
 unfold Nt.arcs csOf;simp only [wB,xX,wJ,wG];rfl
theorem zgq (vs:List Va) (ps:List Pi) (ws:List Int) (n:Nat):(zow vs ps ws n).length=vs.length:=by simp [zow]
section
variable {vs:List Va} {ps:List Pi} {ws:List Int} {n:Nat}
theorem YOk.ok (y:YOk vs ps ws):(ntOf vs ps n).Ok:=zc01 y.pb
theorem YOk.fl (y:YOk vs ps ws) {k:Nat} (hk:k < vs.length):0<=(ntOf vs ps n).fl k/\(ntOf vs ps n).fl k<=(ntOf vs ps n).rm k/\0<=cW ws k/\cW ws k<=(ntOf vs ps n).rm k:=by
 have e:vs[k]?=some vs[k]:=u7 hk;have hk2:k < ws.length:=by have:=y.lw;lia
 have e2:ws[k]?=some ws[k]:=u7 hk2;obtain ⟨a1,a2⟩:=y.vf _ (w6 hk);obtain ⟨b1,b2⟩:=y.wr k _ _ e e2;show 0<=((vs[k]?).map Va.fill).getD 0/\((vs[k]?).map Va.fill).getD 0<=((vs[k]?).map Va.room).getD 0/\0<=ws.getD k 0/\ws.getD k 0<=((vs[k]?).map Va.room).getD 0;rw [e,vS,e2];exact ⟨a1,a2,b1,b2⟩
theorem YOk.ar (y:YOk vs ps ws):∀ a∈(ntOf vs ps n).arcs (csOf vs ws),a.1 < (ntOf vs ps n).nd (n+1) 0/\a.2.1 < (ntOf vs ps n).nd (n+1) 0/\0<=a.2.2:=λ a ha=>by
 have ok:=y.ok (n:=n);have h2:=Nt.nd2 (T:=ntOf vs ps n) (n+1) 0;unfold Nt.arcs at ha;rcases vJ.mp ha with ha|ha
 ·rcases vJ.mp ha with ha|ha
  ·obtain ⟨k,hk,rfl⟩:=vQ.mp ha;have hk:=u9.mp hk;exact ⟨by show 0 < _;lia,Nt.nd_lt (T:=ntOf vs ps n) (wE _) hk,(y.fl (n:=n) hk).1⟩
  ·obtain ⟨m,hm,ha⟩:=xW.mp ha;have hm:m < n:=u9.mp hm;rcases vJ.mp ha with ha|ha
   ·obtain ⟨k,hk,rfl⟩:=vQ.mp ha;have hk:k < vs.length:=u9.mp hk;have:=y.fl (n:=n) hk;exact ⟨Nt.nd_lt (T:=ntOf vs ps n) (xR hm) hk,Nt.nd_lt (T:=ntOf vs ps n) hm hk,by show 0<=(ntOf vs ps n).rm k;lia⟩
   ·obtain ⟨i,hi,rfl⟩:=vQ.mp ha;refine ⟨Nt.nd_lt (T:=ntOf vs ps n) (xR hm) (ok.ub m i hi),Nt.nd_lt (T:=ntOf vs ps n) (ok.ln m i hi).2 (ok.vb m i hi),?_⟩;have hi2:i < ps.length:=by
     have hi3:i∈pbJ ps m n ps.length:=by rw [zo9];exact hi
     exact ((zzc ps m n _ (u6 _)).2 i hi3).1
    show 0<=zqb ps i m;unfold zqb;rw [u7 hi2];exact (y.pb _ (w6 hi2)).2.2.2.2.2 m
 ·obtain ⟨c,hc,ha⟩:=xW.mp ha;obtain ⟨k,hk,rfl⟩:=vQ.mp ha;have hk:k < vs.length:=u9.mp hk;refine ⟨Nt.nd_lt (T:=ntOf vs ps n) (u6 _) hk,by show 1 < _;lia,?_⟩;have:=y.fl (n:=n) hk;have hc:c∈[cW ws,cR vs ws]:=hc;rcases vL.mp hc with z|z
  ·subst z;exact this.2.2.1
  ·have z:=yZ.mp z;subst z;show 0<=(ntOf vs ps n).rm k - cW ws k;lia
theorem zaw (y:YOk vs ps ws) (hn:n<=60):((ntOf vs ps n).arcs (csOf vs ws)).length<=3000:=by
 have h1:=zee vs ps n n;have:=Nat.mul_le_mul (show vs.length+ps.length<=36 by have:=y.n2;have:=y.m2;lia) hn;have:=y.n2;rw [zti,vK,vK,u5,u5,vV];lia
end
noncomputable def zr9:DSp:=λ ds Q=>∃ (vs:List Va) (ps:List Pi) (n:Nat) (side:List Nat),ds=[.tuple [.list (vs.map Va.d),.list (ps.map Pi.d)],nI n,.list (side.map nI)]/\1<=vs.length/\vs.length<=100/\2<=n/\n<=100/\side.length<=100/\∀ pt:List D,Q (.list pt)
structure Met (vs:List Va) (ps:List Pi) (ws:List Int) (n:Nat) (M:Int) (f:Fm):Prop where
 val:(ntOf vs ps n).Val (cW ws) M
 fl:(ntOf vs ps n).Fl [cW ws,cR vs ws] f
 src:∀ k,k < vs.length->f.a k=(ntOf vs ps n).fl k
 wn:M=ws.sum->∃ t s,f.t=[t,s]/\∀ k,k < vs.length->cW ws k<=t k
theorem zp41 (ws:List Int):ws.sum=su (u3 ws.length) (cW ws):=by
 have:(u3 ws.length).map (cW ws)=ws:=by
  refine y4 (by simp) λ i h1 h2=>?_;rw [y6,xK];unfold cW;rw [vS,u7 h2];rfl
 unfold su;rw [this]
noncomputable def zaf:DSp:=λ ds Q=>∃ (vs:List Va) (ps:List Pi) (ws:List Int) (n:Nat),ds=[dY vs ps,.list (ws.map .int),.int (n:Int)]/\YOk vs ps ws/\n<=60/\(n+1) * vs.length<=61/\∀ (M:Int) (f:Fm) (pt:List D),Met vs ps ws n M f->Q (.tuple [.int M,.list ((zdc ps n f.g n).map Le.d),.list pt])
noncomputable def zmm:DSp:=λ ds Q=>∃ (vs:List Va) (ps:List Pi) (ws:List Int) (n:Nat),ds=[dY vs ps,.list (ws.map .int),.int (n:Int)]/\YOk vs ps ws/\n<=60/\(n+1) * vs.length<=61/\∀ (M:Int) (f:Fm) (pt:List D),Met vs ps ws n M f->Q (.tuple [.str (if M=ws.sum then "plan" else "shut"),if M=ws.sum then .list ((zdc ps n f.g n).map Le.d) else .list pt])
section
variable {P:Program} {w:World} {K:Fg} {mg:Str->Option Value} {base:Heap}
theorem zv8:FnScope ["yard", "count", "side", "within"] ["yard", "count", "side"] (zi0 zp2):=by walk_at "sc"
theorem zwd (M:Md K mg) (T:TopDef K "part_beyond" zp2) (uT:mg "dict"=none) (jH:mg "range"=none) (vD:Def P w K mg base "spot" 1 ["yard", "number"] (spD K zc21)):Def P w K mg base "part_beyond" 2 ["yard", "count", "side"] (spD K zr9):=by
 refine zo3 M T zv8 (by walk_at "h") (zjb (by walk_at "i")) (zc3 ?_);walk_at "g";have nd:=zv8.nd;refine ⟨_,_,(zd0 (pset 3 nd (zm5 (zqk (K:=K) rfl rfl (Room.units hr)) rfl uT zn21 (za0 (zl9 (sc:=zi0 zp2) (N:=["yard", "count", "side", "within"]) (own:=["number"]) (ix:=[]) rfl rfl rfl (by walk_at "csc") (pi_W (K:=K) rfl (pv 2)) (λ _ _ _ _=>⟨(pgn 0 (nds ["number"])),zv5,(zl1 (za0 (pv 0) (za0 zlk zg0)))⟩)) zg0)))
   (zj0 (zc1 (zl9 (sc:=zi0 zp2) (N:=["yard", "count", "side", "within"]) (own:=["number"]) (ix:=[0,3]) rfl rfl rfl (by walk_at "csc") (zji rfl jH (za0 zf0 (za0 (pv 1) zg0))) (λ _ _ _ _=>⟨(pgn 0 (nds ["number", "yard", "within"])),(zvs (zt0 (zui (w:=w) (K:=K) (Room.units hr) rfl rfl) (pv 0) (pv 2) (by with_unfolding_all rfl))),(zo0 vD (rmn hr) rfl (za0 (pv 1) (za0 (pv 0) zg0)))⟩))))),(zm0 (ze3 (RfN.c (zzt (RfF.e (zx5 (zoy (zc0 2)) (zg2 (i:=0) (n:=1) (by decide)) zp7 (zo1 (zb0 (zh0 0) (zb0 zkk zk0))))))))
   (zg1 (RfF.c (zx5 (RfI.j (zdr (zb0 zv0 (zb0 (zh0 1) zk0)))) (zg2 (i:=0) (n:=1) (by decide)) (zs0 (zqs (zh0 0) (zp0 2))) (zw0 (zb0 (zh0 1) (zb0 (zh0 0) zk0))))))),?_⟩
 rintro ds Qd ⟨vs,ps,n,side,rfl,h1,h2,n2,hn,hs,q⟩;walk_at "ds";walk_at "a";refine zix (λ v=>.tuple [nI v,.bool true]) (by rw [sizeLine_eq];lia) (λ v hv=>?_) ?_
 ·walk_at "cs";walk_at "dd"
 refine ⟨side.map λ v:Nat=>((.inl (v:Int),.bool true):Key×D),by rw [wL];rfl,by rw [u5];lia,hJ _ ?_⟩;clear hJ;generalize mD (side.map λ v:Nat=>((.inl (v:Int),.bool true):Key×D))=kvs;walk_at "dd";refine ⟨⟨by lia,by lia⟩,?_⟩;unfold rngD;refine zp91 (xs:=u3 ((n:Int) - 2).toNat) (enc:=λ k:Nat=>u4 (2+(k:Int))) (λ k=>if (getA kvs (.inl (2+(k:Int)))).isSome=true then none else some (.tuple [.int ((2+(k:Int) - 2) / (vs.length:Int)),.int ((2+(k:Int) - 2) % (vs.length:Int))])) (by rw [sizeLine_eq,vV];lia) (λ k hk=>?_) (q _);walk_at "cs";walk_at "dd";have e2:(2:Int)+(k:Int)=((2+k:Nat):Int):=by lia
 cases h:(getA kvs (.inl (2+(k:Int)))).isSome with
|true=>simp
|false =>
  simp only [Bool.not_false,if_true,xO,if_false];rw [e2];exact ⟨vs,_,2+k,rfl,h1,h2,rfl⟩
theorem zzb:FnScope ["yard", "wants", "until", "told", "spare", "wanted", "found", "flow", "met"] ["yard", "wants", "until"] (zi0 zib):=by walk_at "sc"
theorem zek (M:Md K mg) (T:TopDef K "met_most" zib) (jM:mg "len"=none) (uQ:mg "sum"=none) (qP:DefN P w K mg base "greatest" 4 ["count", "arcs", "source", "sink", "flow"] (spD K zsf)) (vG:Def P w K mg base "net" 6 ["yard", "wants", "until"] (spD K zoa1)) (uM:Def P w K mg base "plan_of" 2 ["yard", "until", "flow"] (spD K zsi)) (qL:Def P w K mg base "part_beyond" 2 ["yard", "count", "side"] (spD K zr9)) (g_SOURCE:mg "SOURCE"=some gv_SOURCE) (r_SOURCE:RelV (.int 0) gv_SOURCE) (g_SINK:mg "SINK"=some gv_SINK) (r_SINK:RelV (.int 1) gv_SINK):Def P w K mg base "met_most" 7 ["yard", "wants", "until"] (spD K zaf):=by
 refine zo3 M T zzb (by walk_at "h") (zjb (by walk_at "i")) (zc3 ?_);walk_at "g";have nd:=zzb.nd;refine ⟨_,_,(zd0 (pset 3 nd (zo0 vG (rmn hr) rfl (za0 (pv 0) (za0 (pv 1) (za0 (pv 2) zg0)))))
   (zd0 (pset 4 nd (zq0 (ze1 (K:=K) rfl) rfl jM zh5 (za0 (pix w K hr (pv 0) zf0) zg0)))
   (zd0 (pset 5 nd (zpo (sl_W (K:=K) rfl) (pix w K hr (pv 3) zf0) zfn (zdd (za1 zod (zq0 (ze1 (K:=K) rfl) rfl jM zh5 (za0 (pix w K hr (pv 3) zf0) zg0)) (pv 4)))))
   (zd0 (pset 6 nd (zrx qP (rmn hr) rfl (za0 (pix w K hr (pv 3) zf0) (za0 (pv 5) (za0 (zta rfl g_SOURCE r_SOURCE) (za0 (zta rfl g_SINK r_SINK) zg0))))))
   (zd0 (pset 7 nd (pix w K hr (zo0 qP.d (rmn hr) rfl (za0 (pix w K hr (pv 3) zf0) (za0 (pix w K hr (pv 3) zf0) (za0 (zta rfl g_SOURCE r_SOURCE) (za0 (zta rfl g_SINK r_SINK) (za0 (za1 (zb1 (K:=K) rfl) (pix w K hr (pv 6) zf0) (za1 zw2 (zp1 (za0 zf0 zg0)) (pv 4))) zg0)))))) zf0))
   (zd0 (pset 8 nd (zq0 (zmi (K:=K) rfl rfl) rfl uQ ze31 (za0 (zpo (sl_W (K:=K) rfl) (pix w K hr (pv 6) zf0) (zdd (za1 zod (zq0 (ze1 (K:=K) rfl) rfl jM zh5 (za0 (pv 5) zg0)) (pv 4))) zfn) zg0)))
   (zj0 (zc1 (zl1 (za0 (pv 8) (za0 (zo0 uM (rmn hr) rfl (za0 (pv 0) (za0 (pv 2) (za0 (pv 7) zg0)))) (za0 (zo0 qL (rmn hr) rfl (za0 (pv 0) (za0 (pix w K hr (pv 3) zf0) (za0 (pix w K hr (pv 6) zf0) zg0)))) zg0)))))))))))),(zm0 (zh1 (zw0 (zb0 (zh0 0) (zb0 (zh0 1) (zb0 (zh0 2) zk0)))) (rgn 3))
   (zm0 (zh1 (zn8 zgd (zu0 (RfE.v (zl0 r_ix (zc0 0) rvi)) zm1)) (rgn 4))
   (zm0 (zh1 (zac1 (RfE.v (zl0 r_ix (zc0 3) rvi)) zxk (zzi (zl0 zcq (RfE.v (zn8 zgd (zu0 (RfE.v (zl0 r_ix (zc0 3) rvi)) zm1))) (zc0 4)))) (rgn 5))
   (zm0 (zh1 (zku (zb0 (zl0 r_ix (zc0 3) rvi) (zb0 (zh0 5) (zb0 zv0 (zb0 zv0 zk0))))) (rgn 6))
   (zm0 (zh1 (zl0 r_ix (RfE.v (zw0 (zb0 (zl0 r_ix (zc0 3) rvi) (zb0 (zl0 r_ix (zc0 3) rvi) (zb0 zv0 (zb0 zv0 (zb0 (zl0 zd6 (RfE.v (zl0 r_ix (zc0 6) rvi)) (RfE.v (RfF.e (zq01 (zn3 (zb0 zv0 zk0)) (zh0 4))))) zk0))))))) rvi) (rgn 7))
   (zm0 (zh1 (zn8 zqa1 (zu0 (RfE.v (zac1 (RfE.v (zl0 r_ix (zc0 6) rvi)) (zzi (zl0 zcq (RfE.v (zn8 zgd (zu0 (zc0 5) zm1))) (zc0 4))) zxk)) zm1)) (rgn 8))
   (zg1 (RfE.c (zo1 (zb0 (zh0 8) (zb0 (zw0 (zb0 (zh0 0) (zb0 (zh0 2) (zb0 (zh0 7) zk0)))) (zb0 (zw0 (zb0 (zh0 0) (zb0 (zl0 r_ix (zc0 3) rvi) (zb0 (zl0 r_ix (zc0 6) rvi) zk0)))) zk0)))))))))))),?_⟩
 rintro ds Qd ⟨vs,ps,ws,n,rfl,y,hn,hN,q⟩;have hv:=y.n2;have hm:=y.m2;have hw:=y.lw;have ok:=y.ok (n:=n);have l2:=zgq vs ps ws n;have hlen:=zaw y hn;have ar:=y.ar (n:=n);have ec:=zzu vs ps ws n;have hc:(ntOf vs ps n).nd (n+1) 0=2+(n+1) * vs.length:=rfl;have hc2:=Nt.nd2 (T:=ntOf vs ps n) (n+1) 0;rw [ec] at hlen ar;rw [vK,l2] at hlen;walk_at "ds";walk_at "a";refine ⟨vs,ps,ws,n,rfl,y,hn,hJ _ ?_⟩;clear hJ;rw [ec];unfold dY;walk_at "a";walk_at "k";rw [u5];walk_at "b";refine ⟨_,rfl,_,rfl,?_⟩;walk_at "dd";rw [zpm,u5,vK,l2,show ((((((ntOf vs ps n).arcs [cW ws]).length+vs.length:Nat)):Int) - (vs.length:Int))=((((ntOf vs ps n).arcs [cW ws]).length:Nat):Int) by lia,zk41,List.take_left];walk_at "b";refine ⟨_,rfl,(ntOf vs ps n).nd (n+1) 0,(ntOf vs ps n).arcs [cW ws],0,1,.none,vP ((ntOf vs ps n).arcs [cW ws]).length 0,rfl,.inl ⟨rfl,rfl⟩,yH,by lia,by lia,λ a ha=>⟨(ar a (xG _ ha)).1,(ar a (xG _ ha)).2.1⟩,λ k a x h1 h2=>?_,by lia,by lia,by decide,λ L side b=>hJ _ ?_⟩
 ·rw [xI] at h2;split at h2
  ·cases h2;exact ⟨by lia,(ar a (xG _ (wF h1))).2.2⟩
  ·cases h2
 clear hJ;have hbal:∀ v,v≠0->v≠1->_5.bal ((ntOf vs ps n).arcs [cW ws]).length (zi6 ((ntOf vs ps n).arcs [cW ws])) L v=0:=λ v h1 h2=>by rw [b.up.eqb v h1 h2];exact zit v
 obtain ⟨f,fl,ef⟩:=Nt.best ok b hbal;obtain ⟨t,ht⟩:∃ t,f.t=[t]:=by
  have:=fl.t
  match hf:f.t,this with
 |[t],_=>exact ⟨t,rfl⟩
 have val:=Nt.val ok b fl ef ht;have hsd:=zf1 _ side (znd b.ris) b.bd;have wi:=b.within;have lF:=Nt.len (T:=ntOf vs ps n) (cs:=[cW ws]) (f:=f) fl.t;have efl:(ntOf vs ps n).flow f=(ntOf vs ps n).flow ⟨f.a,f.r,f.g,[]⟩++(u3 vs.length).map t:=by
  unfold Nt.flow;rw [ht];simp only [wB,xX,wJ,wG];rfl
 have lF2:((ntOf vs ps n).flow ⟨f.a,f.r,f.g,[]⟩).length+vs.length=((ntOf vs ps n).arcs [cW ws]).length:=by
  rw [<- lF,efl,vK,u5,vV]
 have eflow:(u3 ((ntOf vs ps n).arcs [cW ws]).length).map (λ k=>u4 (lf L (2 * k+1)))=((ntOf vs ps n).flow f).map .int:=by rw [<- ef,wL];rfl
 have wi2:∀ k,k < ((ntOf vs ps n).arcs [cW ws]).length->0<=fx ((ntOf vs ps n).flow f) k/\fx ((ntOf vs ps n).flow f) k<=zfb ((ntOf vs ps n).arcs [cW ws]) k:=λ k hk=>by
  have:=wi k hk;rw [<- ef,zsk hk];exact this
 rw [eflow];have e0:(vP ((vs.length:Int)).toNat [u4 0]).flatten=(vP vs.length (0:Int)).map u4:=by
  rw [vR,uaX,uaY]
 walk_at "a";rw [e0];refine ⟨_,rfl,_,rfl,_,rfl,by lia,by lia,by lia,?_⟩;walk_at "dd";rw [<- vY];refine ⟨by rw [u5,u5,yH];lia,(ntOf vs ps n).nd (n+1) 0,(ntOf vs ps n).arcs [cW ws]++zow vs ps ws n,0,1,_,_,rfl,.inr rfl,by rw [vK,vK,yH,lF,l2],by lia,by rw [vK];lia,λ a ha=>⟨(ar a ha).1,(ar a ha).2.1⟩,λ k a x h1 h2=>?_,by lia,by lia,by decide,λ M side2 b2=>?_⟩
 ·by_cases hk:k < ((ntOf vs ps n).arcs [cW ws]).length
  ·rw [wN hk] at h1;rw [wN (by lia)] at h2;have:=wi2 k hk;have em:zfb ((ntOf vs ps n).arcs [cW ws]) k=a.2.2:=by unfold zfb;rw [h1];rfl
   rw [em] at this;unfold fx at this;rw [h2] at this;exact this
  ·have ha:=(ar a (wF h1)).2.2;rw [wK (by lia),xI] at h2;split at h2
   ·cases h2;exact ⟨by lia,ha⟩
   ·cases h2
 walk_at "dd";have hf:∀ k,k < (ntOf vs ps n).N->0<=(ntOf vs ps n).fl k/\(ntOf vs ps n).fl k<=(ntOf vs ps n).rm k/\0<=cW ws k/\0<=cR vs ws k/\(ntOf vs ps n).fl k<=cW ws k+cR vs ws k:=λ k hk=>by
  have h4:=y.fl (n:=n) hk;have e:cR vs ws k=(ntOf vs ps n).rm k - cW ws k:=rfl;lia
 have hwd:∀ m i,m < (ntOf vs ps n).n->i∈(ntOf vs ps n).P m->0<=(ntOf vs ps n).W i m:=λ m i _ hi=>by
  have hi2:i < ps.length:=by
   have hi3:i∈pbJ ps m n ps.length:=by rw [zo9];exact hi
   exact ((zzc ps m n _ (u6 _)).2 i hi3).1
  show 0<=zqb ps i m;unfold zqb;rw [u7 hi2];exact (y.pb _ (w6 hi2)).2.2.2.2.2 m
 have b3:Best ((ntOf vs ps n).nd (n+1) 0) ((ntOf vs ps n).arcs [cW ws,cR vs ws]) ((ntOf vs ps n).flow f++vP (ntOf vs ps n).N 0) 0 1 M side2:=by
  rw [show (ntOf vs ps n).arcs [cW ws,cR vs ws]=(ntOf vs ps n).arcs [cW ws]++zow vs ps ws n from ec];exact b2
 obtain ⟨f2,t2,s2,fl2,e2,src,ht2,wn⟩:=Nt.again ok fl ht hf hwd b3;have met:Met vs ps ws n (su (u3 (ntOf vs ps n).N) t) f2:=⟨val,fl2,src,λ z=>⟨t2,s2,ht2,λ k hk=>by
  rw [zp41,hw] at z;have:=zmn (a:=t) (b:=cW ws) (λ k hk=>(fl.s (cW ws,t) (by rw [ht];simp) k (u9.mp hk)).2) (Int.le_of_eq z.symm) k (u9.mpr hk);rw [<- this];exact wn k hk⟩⟩
 have e2':(u3 ((ntOf vs ps n).arcs [cW ws]++zow vs ps ws n).length).map (λ k=>u4 (lf M (2 * k+1)))=((ntOf vs ps n).flow f2).map .int:=by
  rw [<- e2,wL,show (ntOf vs ps n).arcs [cW ws,cR vs ws]=(ntOf vs ps n).arcs [cW ws]++zow vs ps ws n from ec];rfl
 rw [e2'];refine ⟨_,rfl,hJ _ ?_⟩;walk_at "c";walk_at "k";rw [zpm,u5,show (((((ntOf vs ps n).arcs [cW ws]).length:Nat):Int) - (vs.length:Int))=((((ntOf vs ps n).flow ⟨f.a,f.r,f.g,[]⟩).length:Nat):Int) by lia,zhn,efl,List.drop_left];refine ⟨_,ints_map _,hJ _ ?_⟩;clear hJ;walk_at "dd";have eG:(ntOf vs ps n).flow f2=zfa ps n ((u3 vs.length).map f2.a) (λ m=>(u3 vs.length).map (f2.r m)) f2.g n++f2.t.flatMap λ t=>(u3 vs.length).map t:=by
  unfold Nt.flow zfa blk;rw [List.flatMap_def];rfl
 refine ⟨vs,ps,n,(u3 vs.length).map f2.a,f2.t.flatMap λ t=>(u3 vs.length).map t,λ m=>(u3 vs.length).map (f2.r m),f2.g,by rw [eG],by lia,by lia,by lia,by simp,λ m _=>by simp,?_⟩;refine ⟨_,rfl,_,rfl,vs,ps,(ntOf vs ps n).nd (n+1) 0,side,rfl,y.n1,by lia,by lia,by lia,by lia,λ pt=>?_⟩;exact q _ f2 pt met
theorem zuj:FnScope ["yard", "wants", "until", "found"] ["yard", "wants", "until"] (zi0 zci):=by walk_at "sc"
theorem zdp (M:Md K mg) (T:TopDef K "met_at" zci) (uQ:mg "sum"=none) (uG:Def P w K mg base "met_most" 7 ["yard", "wants", "until"] (spD K zaf)):Def P w K mg base "met_at" 8 ["yard", "wants", "until"] (spD K zmm):=by
 refine zo3 M T zuj (by walk_at "h") (zjb (by walk_at "i")) (zc3 ?_);walk_at "g";have nd:=zuj.nd;refine ⟨_,_,(zd0 (pset 3 nd (zo0 uG (rmn hr) rfl (za0 (pv 0) (za0 (pv 1) (za0 (pv 2) zg0)))))
   (zd0 (zh8 (zt0 (zl5 (K:=K) rfl (Room.units hr)) (pix w K hr (pv 3) zf0) (zq0 (zmi (K:=K) rfl rfl) rfl uQ ze31 (za0 (pv 1) zg0)) (zi1 _)) (zj0 (zc1 (zl1 (za0 zma (za0 (pix w K hr (pv 3) zf0) zg0))))) zk1)
   (zj0 (zc1 (zl1 (za0 zma (za0 (pix w K hr (pv 3) zf0) zg0))))))),(zm0 (zh1 (zw0 (zb0 (zh0 0) (zb0 (zh0 1) (zb0 (zh0 2) zk0)))) (rgn 3))
   (zm0 (zi8 (zs0 (zr2 q_eq (RfV.h (RfE.v (zl0 r_ix (zc0 3) rvi))) (RfV.h (RfE.v (zn8 zqa1 (zu0 (zc0 1) zm1)))))) (zg1 (RfE.c (zo1 (zb0 zxa (zb0 (zl0 r_ix (zc0 3) rvi) zk0))))) zj1)
   (zg1 (RfE.c (zo1 (zb0 zxa (zb0 (zl0 r_ix (zc0 3) rvi) zk0))))))),?_⟩
 rintro ds Qd ⟨vs,ps,ws,n,rfl,y,hn,hN,q⟩;walk_at "ds";walk_at "a";refine ⟨vs,ps,ws,n,rfl,y,hn,hN,λ M f pt met=>hJ _ ?_⟩;clear hJ;have qq:=q M f pt met;walk_at "a";refine ⟨_,rfl,ws,ints_map ws,?_⟩;walk_at "dd";refine two (λ z=>⟨_,rfl,by rw [if_pos z,if_pos z] at qq;exact qq⟩) λ z=>hJ _ ?_;clear hJ;walk_at "dd";exact ⟨_,rfl,by rw [if_neg z,if_neg z] at qq;exact qq⟩
end
def za01 (ns:List Int) (k:Int):Int:=(ns[k.toNat]?).getD 0
theorem zw11 {ns:List Int} {k:Int} (h0:0<=k) (h:k < (ns.length:Int)):atI (ns.map u4) k=some (.int (za01 ns k)):=by
 obtain ⟨x,h1,h2⟩:=ztp u4 h0 h;rw [h2];unfold za01;rw [h1];rfl
def za4:DSp:=λ ds Q=>∃ (ns:List Int) (k:Nat),ds=[.list (ns.map .int),.int (k:Int)]/\k<=1000/\∀ m:Int,Q (.int m)
def zy8:DSp:=λ ds Q=>∃ (c g:Int),ds=[.int c,.int g]/\∀ m:Int,0<=m->m<=80000000000->Q (.int m)
def zif:DSp:=λ ds Q=>∃ (c g:Int) (u:Nat),ds=[.int c,.int g,.int (u:Int)]/\∀ x:Gt,x.okk->Q x.d
def zkf:DSp:=λ ds Q=>∃ (c g:Int) (n u:Nat),ds=[.int c,.int (n:Int),.int g,.int (u:Int)]/\2<=n/\n<=12/\∀ p:Pi,PiOk n p->Q p.d
def za7:DSp:=λ ds Q=>∃ (g:Gt) (m:Nat),ds=[g.d,.int (m:Int)]/\g.ok/\Q (.int (g.at m))
def zob:DSp:=λ ds Q=>∃ (c l:Int),ds=[.int c,.int l]/\0<=l/\∀ a:Int,0<=a->a<=l->Q (.int a)
section
variable {P:Program} {w:World} {K:Fg} {mg:Str->Option Value} {base:Heap}
theorem zw7:FnScope ["script", "k"] ["script", "k"] (zi0 ze5):=by walk_at "sc"
theorem ztb (M:Md K mg) (T:TopDef K "_law_cell_at" ze5) (jM:mg "len"=none):Def P w K mg base "_law_cell_at" 1 ["script", "k"] (spD K za4):=by
 refine zo3 M T zw7 (by walk_at "h") (zjb (by walk_at "i")) (zc3 ?_);walk_at "g";have nd:=zw7.nd;refine ⟨_,_,(zd0 (zh8 (zt0 ztt (pv 1) (zq0 (ze1 (K:=K) rfl) rfl jM zh5 (za0 (pv 0) zg0)) (zi1 _)) (zj0 (zc1 (pix w K hr (pv 0) (pv 1)))) zk1)
   (zj0 (zc1 (za1 (zb1 (K:=K) rfl) (za1 zw2 (za1 zw2 zf0 (pv 1)) (pv 1)) zf0)))),(zm0 (zi8 (zs0 (zl0 r_lt (zc0 1) (RfE.v (zn8 zgd (zu0 (zc0 0) zm1))))) (zg1 (RfE.c (zl0 r_ix (zc0 0) (zc0 1)))) zj1)
   (zg1 (RfE.c (zl0 zd6 (RfE.v (zl0 znj (RfE.v (zl0 znj rvi (zc0 1))) (zc0 1))) rvi)))),?_⟩
 rintro ds Qd ⟨ns,k,rfl,hk,q⟩;walk_at "ds";refine zpg ?_;walk_at "dd";rw [u5];refine two (λ h=>⟨_,zw11 (by lia) h,q _⟩) λ h=>?_;exact ⟨.inl ⟨by decide,by decide⟩,.inr ⟨by lia,by lia⟩,q _⟩
theorem zi9:FnScope ["cell", "large"] ["cell", "large"] (zi0 zb8):=by walk_at "sc"
theorem zdf (M:Md K mg) (T:TopDef K "_law_great" zb8) :Def P w K mg base "_law_great" 1 ["cell", "large"] (spD K zy8):=by
 refine zo3 M T zi9 (by walk_at "h") (zjb (by walk_at "i")) (zc3 ?_);walk_at "g";have nd:=zi9.nd;refine ⟨_,_,(zd0 (zh8 (PW.pt (zwg (zt0 (zl5 (K:=K) rfl (Room.units hr)) (pv 1) zf0 (zi1 _)) (zbe (zt0 (zl5 (K:=K) rfl (Room.units hr)) (za1 zn1 (pv 0) zf0) zf0 (zi1 _))))) (zj0 (zc1 (za1 zn1 (za1 zv1 (pv 0) zf0) zf0))) zk1)
   (zj0 (zc1 (za1 zn1 (za1 zn1 (za1 zw2 (pv 0) zf0) zf0) (za1 (zb1 (K:=K) rfl) (za1 zw2 zf0 (za1 zdx zf0 zf0)) zf0))))),(zm0 (zi8 (zyg (zs0 (zr2 q_eq (RfV.h (zc0 1)) (RfV.h rvi))) (zs0 (zr2 q_eq (RfV.h (RfE.v (zl0 zs5 (zc0 0) rvi))) (RfV.h rvi)))) (zg1 (RfE.c (zl0 zs5 (RfE.v (zl0 zxf (zc0 0) rvi)) rvi))) zj1)
   (zg1 (RfE.c (zl0 zs5 (RfE.v (zl0 zs5 (RfE.v (zl0 znj (zc0 0) rvi)) rvi)) (RfE.v (zl0 zd6 (RfE.v (zl0 znj rvi (RfE.v (zl0 zk61 rvi rvi)))) rvi)))))),?_⟩
 rintro ds Qd ⟨c,g,rfl,q⟩;walk_at "ds";refine zpg ?_;walk_at "dd";refine two (λ _=>q _ (by lia) (by lia)) λ _=>two (λ _=>q _ (by lia) (by lia)) λ _=>⟨.inr ⟨by decide,by decide⟩,by decide,.inl ⟨by decide,by decide⟩,q _ (by lia) (by lia)⟩
theorem zp8:FnScope ["cell", "left"] ["cell", "left"] (zi0 zb7):=by walk_at "sc"
theorem zxd (M:Md K mg) (T:TopDef K "_law_amount" zb7) :Def P w K mg base "_law_amount" 1 ["cell", "left"] (spD K zob):=by
 refine zo3 M T zp8 (by walk_at "h") (zjb (by walk_at "i")) (zc3 ?_);walk_at "g";have nd:=zp8.nd;refine ⟨_,_,(zd0 (zh8 (zt0 (zl5 (K:=K) rfl (Room.units hr)) (za1 zn1 (za1 zv1 (pv 0) zf0) zf0) zf0 (zi1 _)) (zj0 (zc1 (pv 1))) zk1)
   (zj0 (zc1 (za1 zn1 (za1 zn1 (za1 zw2 (pv 0) zf0) zf0) (za1 (zb1 (K:=K) rfl) (pv 1) zf0))))),(zm0 (zi8 (zs0 (zr2 q_eq (RfV.h (RfE.v (zl0 zs5 (RfE.v (zl0 zxf (zc0 0) rvi)) rvi))) (RfV.h rvi))) (zg1 (RfE.c (zh0 1))) zj1)
   (zg1 (RfE.c (zl0 zs5 (RfE.v (zl0 zs5 (RfE.v (zl0 znj (zc0 0) rvi)) rvi)) (RfE.v (zl0 zd6 (zc0 1) rvi)))))),?_⟩
 rintro ds Qd ⟨c,l,rfl,h0,q⟩;walk_at "ds";refine zpg ?_;walk_at "dd";refine two (λ _=>q _ h0 (wQ _)) λ _=>⟨.inr ⟨by decide,by decide⟩,by lia,q _ (xY _ (by lia)) ?_⟩
 have:=yE (c * 60013 % 100000000019) (b:=l+1) (by lia);lia
theorem zgb:FnScope ["cell", "large", "until", "wide", "late", "other"] ["cell", "large", "until"] (zi0 zg9):=by walk_at "sc"
theorem zth (M:Md K mg) (T:TopDef K "_law_gate" zg9) (qJ:mg "min"=none) (jV:Def P w K mg base "_law_great" 1 ["cell", "large"] (spD K zy8)):Def P w K mg base "_law_gate" 2 ["cell", "large", "until"] (spD K zif):=by
 refine zo3 M T zgb (by walk_at "h") (zjb (by walk_at "i")) (zc3 ?_);walk_at "g";have nd:=zgb.nd;refine ⟨_,_,(zd0 (pset 3 nd (za1 (zb1 (K:=K) rfl) zf0 (za1 zn1 (zo0 jV (rmn hr) rfl (za0 (za1 zn1 (za1 zw2 (za1 zv1 (pv 0) zf0) zf0) zf0) (za0 (pv 1) zg0))) (za1 zdx zf0 zf0))))
   (zd0 (pset 4 nd (za1 zn1 (za1 zw2 (za1 zv1 (pv 0) zf0) zf0) zf0))
   (zd0 (zh8 (zt0 (zl5 (K:=K) rfl (Room.units hr)) (za1 zn1 (pv 4) zf0) zf0 (zi1 _)) (zj0 (zc1 (zl1 (za0 zma (za0 (pv 3) zg0))))) zk1)
   (zd0 (zh8 (zt0 (zl5 (K:=K) rfl (Room.units hr)) (za1 zn1 (pv 4) zf0) zf0 (zi1 _)) (zj0 (zc1 (zl1 (za0 zma (za0 (pv 3) (za0 (za1 zn1 (za1 zv1 (pv 4) zf0) (zq0 (zid rfl) rfl qJ zkq (za0 (za1 (zb1 (K:=K) rfl) (pv 2) zf0) (za0 zf0 zg0)))) zg0)))))) zk1)
   (zd0 (pset 5 nd (za1 (zb1 (K:=K) rfl) zf0 (za1 zn1 (zo0 jV (rmn hr) rfl (za0 (za1 zn1 (za1 zw2 (za1 zv1 (pv 0) zf0) zf0) zf0) (za0 (pv 1) zg0))) (za1 zdx zf0 zf0))))
   (zj0 (zc1 (zl1 (za0 zma (za0 (pv 3) (za0 (pv 5) (za0 (za1 (zb1 (K:=K) rfl) zf0 (za1 zn1 (za1 zv1 (pv 4) zf0) zf0)) zg0)))))))))))),(zm0 (zh1 (zl0 zd6 rvi (RfE.v (zl0 zs5 (RfE.v (zw0 (zb0 (zl0 zs5 (RfE.v (zl0 znj (RfE.v (zl0 zxf (zc0 0) rvi)) rvi)) rvi) (zb0 (zh0 1) zk0)))) (RfE.v (zl0 zk61 rvi rvi))))) (rgn 3))
   (zm0 (zh1 (zl0 zs5 (RfE.v (zl0 znj (RfE.v (zl0 zxf (zc0 0) rvi)) rvi)) rvi) (rgn 4))
   (zm0 (zi8 (zs0 (zr2 q_eq (RfV.h (RfE.v (zl0 zs5 (zc0 4) rvi))) (RfV.h rvi))) (zg1 (RfE.c (zo1 (zb0 zxa (zb0 (zh0 3) zk0))))) zj1)
   (zm0 (zi8 (zs0 (zr2 q_eq (RfV.h (RfE.v (zl0 zs5 (zc0 4) rvi))) (RfV.h rvi))) (zg1 (RfE.c (zo1 (zb0 zxa (zb0 (zh0 3) (zb0 (zl0 zs5 (RfE.v (zl0 zxf (zc0 4) rvi)) (RfE.v (zn8 zby (zu0 (RfE.v (zl0 zd6 (zc0 2) rvi)) (zu0 rvi zm1))))) zk0)))))) zj1)
   (zm0 (zh1 (zl0 zd6 rvi (RfE.v (zl0 zs5 (RfE.v (zw0 (zb0 (zl0 zs5 (RfE.v (zl0 znj (RfE.v (zl0 zxf (zc0 0) rvi)) rvi)) rvi) (zb0 (zh0 1) zk0)))) (RfE.v (zl0 zk61 rvi rvi))))) (rgn 5))
   (zg1 (RfE.c (zo1 (zb0 zxa (zb0 (zh0 3) (zb0 (zh0 5) (zb0 (zl0 zd6 rvi (RfE.v (zl0 zs5 (RfE.v (zl0 zxf (zc0 4) rvi)) rvi))) zk0)))))))))))),?_⟩
 rintro ds Qd ⟨c,g,u,rfl,q⟩;walk_at "ds";walk_at "a";refine ⟨.inr ⟨by decide,by decide⟩,_,_,rfl,λ m m0 m1=>⟨by decide,?_⟩⟩;walk_at "dd";walk_at "b";refine ⟨.inr ⟨by decide,by decide⟩,hJ _ ?_⟩;clear hJ;generalize c / 5 * 60013 % 2147483579=la;have hx:0<=1+m % 100000000000:=by lia
 generalize 1+m % 100000000000=x at hx ⊢;walk_at "a";refine two (λ _=>q (.st x) ⟨trivial,λ _=>hx⟩) λ _=>hJ _ ?_;walk_at "c";refine two (λ _=>?_) λ _=>hJ _ ?_
 ·obtain ⟨y,hy⟩:∃ y:Int,y=if (61:Int) < (u:Int)+2 then 61 else (u:Int)+2:=⟨_,rfl⟩
  have y0:0 < y:=by rw [hy];split <;> lia
  rw [<- hy];refine ⟨y0,?_⟩;obtain ⟨f,hf⟩:=xZ (xY (la / 3) (b:=y) (by lia));rw [hf];refine q (.la x f) ⟨trivial,λ t=>?_⟩;show 0<=if f<=t then x else 0
  split <;> lia
 walk_at "c";refine ⟨.inr ⟨by decide,by decide⟩,_,_,rfl,λ m' m0' m1'=>⟨by decide,?_⟩⟩;walk_at "dd";walk_at "f";walk_at "dd";obtain ⟨f,hf⟩:=xZ (show 0<=2+la / 3 % 3 by lia);rw [hf];refine q (.ti x (1+m' % 100000000000) f) ⟨⟨by lia,by lia⟩,λ t=>?_⟩;show 0<=if t % f=0 then x else 1+m' % 100000000000
 split <;> lia
theorem zpa:FnScope ["cell", "many", "large", "until", "start", "goal", "length", "price"] ["cell", "many", "large", "until"] (zi0 zh9):=by walk_at "sc"
theorem zog (M:Md K mg) (T:TopDef K "_law_pipe" zh9) (qV:Def P w K mg base "_law_gate" 2 ["cell", "large", "until"] (spD K zif)):Def P w K mg base "_law_pipe" 3 ["cell", "many", "large", "until"] (spD K zkf):=by
 refine zo3 M T zpa (by walk_at "h") (zjb (by walk_at "i")) (zc3 ?_);walk_at "g";have nd:=zpa.nd;refine ⟨_,_,(zd0 (pset 4 nd (za1 zn1 (pv 0) (pv 1)))
   (zd0 (pset 5 nd (za1 zn1 (za1 (zb1 (K:=K) rfl) (za1 (zb1 (K:=K) rfl) (pv 4) zf0) (za1 zn1 (za1 zv1 (pv 0) (pv 1)) (za1 zod (pv 1) zf0))) (pv 1)))
   (zd0 (pset 6 nd (pix w K hr (zp1 (za0 zf0 (za0 zf0 (za0 zf0 (za0 (za1 (zb1 (K:=K) rfl) zf0 (za1 zn1 (za1 zv1 (pv 0) zf0) zf0)) zg0))))) (za1 zn1 (za1 zv1 (pv 0) zf0) zf0)))
   (zd0 (pset 7 nd (za1 zn1 (za1 zn1 (za1 zw2 (pv 0) zf0) zf0) zf0))
   (zj0 (zc1 (zl1 (za0 (pv 4) (za0 (pv 5) (za0 (pv 6) (za0 (pv 7) (za0 (zo0 qV (rmn hr) rfl (za0 (pv 0) (za0 (pv 2) (za0 (pv 3) zg0)))) zg0)))))))))))),(zm0 (zh1 (zl0 zs5 (zc0 0) (zc0 1)) (rgn 4))
   (zm0 (zh1 (zl0 zs5 (RfE.v (zl0 zd6 (RfE.v (zl0 zd6 (zc0 4) rvi)) (RfE.v (zl0 zs5 (RfE.v (zl0 zxf (zc0 0) (zc0 1))) (RfE.v (zl0 zcq (zc0 1) rvi)))))) (zc0 1)) (rgn 5))
   (zm0 (zh1 (zl0 r_ix (RfE.v (RfF.e (zn3 (zb0 zv0 (zb0 zv0 (zb0 zv0 (zb0 (zl0 zd6 rvi (RfE.v (zl0 zs5 (RfE.v (zl0 zxf (zc0 0) rvi)) rvi))) zk0))))))) (RfE.v (zl0 zs5 (RfE.v (zl0 zxf (zc0 0) rvi)) rvi))) (rgn 6))
   (zm0 (zh1 (zl0 zs5 (RfE.v (zl0 zs5 (RfE.v (zl0 znj (zc0 0) rvi)) rvi)) rvi) (rgn 7))
   (zg1 (RfE.c (zo1 (zb0 (zh0 4) (zb0 (zh0 5) (zb0 (zh0 6) (zb0 (zh0 7) (zb0 (zw0 (zb0 (zh0 0) (zb0 (zh0 2) (zb0 (zh0 3) zk0)))) zk0)))))))))))),?_⟩
 rintro ds Qd ⟨c,g,n,u,rfl,hn,hn2,q⟩;walk_at "ds";walk_at "a";have u0:=xY c (b:=(n:Int)) (by lia);have u1:=yE c (b:=(n:Int)) (by lia);refine ⟨by lia,hJ _ ?_⟩;walk_at "c";have v1:=yE (c % (n:Int)+1+c / (n:Int) % ((n:Int) - 1)) (b:=(n:Int)) (by lia);have v0:=xY (c % (n:Int)+1+c / (n:Int) % ((n:Int) - 1)) (b:=(n:Int)) (by lia);refine ⟨⟨by lia,by lia⟩,by lia,by lia,hJ _ ?_⟩;clear hJ;obtain ⟨a,ha⟩:=xZ u0;obtain ⟨v,hv⟩:=xZ v0;rw [hv,ha];rw [hv] at v1;rw [ha] at u1;clear hv ha v0 u0;walk_at "a";obtain ⟨l,l1,l2,hl⟩:∃ l:Nat,1<=l/\l<=20/\atI [u4 1,u4 1,u4 2,u4 (1+c / 800 % 20)] (c / 200 % 4)=some (.int (l:Int)):=by
  rcases (show c / 200 % 4=0 \/ c / 200 % 4=1 \/ c / 200 % 4=2 \/ c / 200 % 4=3 by lia) with h|h|h|h <;> rw [h]
  ·exact ⟨1,by lia,by lia,rfl⟩
  ·exact ⟨1,by lia,by lia,rfl⟩
  ·exact ⟨2,by lia,by lia,rfl⟩
  ·obtain ⟨l,hl⟩:=xZ (show 0<=1+c / 800 % 20 by lia);rw [hl];exact ⟨l,by lia,by lia,rfl⟩
 refine ⟨_,hl,hJ _ ?_⟩;clear hJ hl;walk_at "a";refine ⟨.inr ⟨by decide,by decide⟩,hJ _ ?_⟩;clear hJ;generalize c * 69621 % 2147483629 % 1000001=pr;walk_at "dd";refine ⟨c,g,u,rfl,λ x hx=>?_⟩;exact q ⟨a,v,l,pr,x⟩ ⟨by show a < n;lia,by show v < n;lia,l1,l2,hx⟩
theorem zt7:FnScope ["gate", "moment"] ["gate", "moment"] (zi0 zo5):=by walk_at "sc"
theorem zpb (M:Md K mg) (T:TopDef K "_law_wide_at" zo5) :Def P w K mg base "_law_wide_at" 1 ["gate", "moment"] (spD K za7):=by
 refine zo3 M T zt7 (by walk_at "h") (zjb (by walk_at "i")) (zc3 ?_);walk_at "g";have nd:=zt7.nd;refine ⟨_,_,(zd0 (zh8 (PW.pt (zkm (zt0 (zl5 (K:=K) rfl (Room.units hr)) (pix w K hr (pv 0) zf0) zma (zi1 _)) (zuf (zt0 ztt (pv 1) (pix w K hr (pv 0) zf0) (zi1 _))))) (zj0 (zc1 zf0)) zk1)
   (zd0 (zh8 (PW.pt (zkm (zt0 (zl5 (K:=K) rfl (Room.units hr)) (pix w K hr (pv 0) zf0) zma (zi1 _)) (zuf (zt0 (zik (K:=K) rfl (Room.units hr)) (za1 zn1 (pv 1) (pix w K hr (pv 0) zf0)) zf0 (zi1 _))))) (zj0 (zc1 (pix w K hr (pv 0) zf0))) zk1)
   (zj0 (zc1 (pix w K hr (pv 0) zf0))))),(zm0 (zi8 (zfl (zs0 (zr2 q_eq (RfV.h (RfE.v (zl0 r_ix (zc0 0) rvi))) (RfV.h (RfE.v zxa)))) (zs0 (zl0 r_lt (zc0 1) (RfE.v (zl0 r_ix (zc0 0) rvi))))) (zg1 (RfE.c zv0)) zj1)
   (zm0 (zi8 (zfl (zs0 (zr2 q_eq (RfV.h (RfE.v (zl0 r_ix (zc0 0) rvi))) (RfV.h (RfE.v zxa)))) (zs0 (zr2 q_ne (RfV.h (RfE.v (zl0 zs5 (zc0 1) (RfE.v (zl0 r_ix (zc0 0) rvi))))) (RfV.h rvi)))) (zg1 (RfE.c (zl0 r_ix (zc0 0) rvi))) zj1)
   (zg1 (RfE.c (zl0 r_ix (zc0 0) rvi))))),?_⟩
 rintro ds Qd ⟨g,m,rfl,ok,q⟩;walk_at "ds";cases g with
|st x =>
  unfold Gt.d;walk_at "a";walk_at "k";rw [if_neg (by decide +kernel)];walk_at "b";walk_at "k";rw [if_neg (by decide +kernel)];walk_at "f";walk_at "dd";exact ⟨_,rfl,q⟩
|la x f =>
  unfold Gt.d;walk_at "a";walk_at "k";walk_at "k";refine two (λ h=>?_) λ h=>hJ _ ?_
  ·have e:Gt.at (.la x f) m=0:=if_neg (by lia);rw [e] at q;exact q
  walk_at "c";walk_at "k";rw [if_neg (by decide +kernel)];walk_at "f";walk_at "dd";have e:Gt.at (.la x f) m=x:=if_pos (by lia);rw [e] at q;exact ⟨_,rfl,q⟩
|ti x y t =>
  obtain ⟨o1,o2⟩:=ok;unfold Gt.d;walk_at "a";walk_at "k";rw [if_neg (by decide +kernel)];walk_at "b";walk_at "k";walk_at "k";refine ⟨by lia,two (λ h=>⟨_,rfl,?_⟩) λ h=>hJ _ ?_⟩
  ·have e:Gt.at (.ti x y t) m=y:=if_neg (by lia);rw [e] at q;exact q
  clear hJ;walk_at "dd";have e:Gt.at (.ti x y t) m=x:=if_pos (by lia);rw [e] at q;exact ⟨_,rfl,q⟩
end
structure Frm (n u:Nat) (fl:List Int) (ps:List Pi) (cs:List Int):Prop where
 n0:1<=n
 n1:n<=12
 u1:u<=20
 nu:(u+1) * n<=42
 fn:fl.length=n
 f0:∀ f∈fl,0<=f/\f<=80000000000
 pn:ps.length<=12
 pk:∀ p∈ps,PiOk n p
 cn:cs.length<=61
noncomputable def zhc:DSp:=λ ds Q=>∃ (ns:List Int),ds=[.list (ns.map .int)]/\ns.length<=63/\∀ (n u:Nat) (fl:List Int) (ps:List Pi) (cs:List Int),Frm n u fl ps cs->Q (.tuple [.int (u:Int),.list (fl.map .int),.list (ps.map Pi.d),.list (cs.map .int)])
def shp:List (Nat×Nat×Nat):=[(2,1,5),(2,3,5),(3,2,5),(3,4,5),(4,3,5),(2,9,3),(12,1,12),(5,2,5),(3,0,2),(2,20,2),(1,2,0)]
def shD (x:Nat×Nat×Nat):D:=.tuple [.int (x.1:Int),.int (x.2.1:Int),.int (x.2.2:Int)]
theorem zea1:∀ x∈shp,1<=x.1/\x.1<=12/\x.2.1<=20/\(x.2.1+1) * x.1<=42/\x.2.2<=12/\(x.1=1->x.2.2=0):=by decide
section
variable {P:Program} {w:World} {K:Fg} {mg:Str->Option Value} {base:Heap}
theorem zn9:FnScope ["script", "first", "shapes", "many", "until", "ways", "large", "fills", "pipes", "k", "cells"] ["script"] (zi0 zd3):=by walk_at "sc"
theorem zxe (M:Md K mg) (T:TopDef K "_law_frame" zd3) (jM:mg "len"=none) (qW:mg "max"=none) (qJ:mg "min"=none) (jH:mg "range"=none) (jG:Def P w K mg base "_law_cell_at" 1 ["script", "k"] (spD K za4)) (jV:Def P w K mg base "_law_great" 1 ["cell", "large"] (spD K zy8)) (qX:Def P w K mg base "_law_pipe" 3 ["cell", "many", "large", "until"] (spD K zkf)):Def P w K mg base "_law_frame" 4 ["script"] (spD K zhc):=by
 refine zo3 M T zn9 (by walk_at "h") (zjb (by walk_at "i")) (zc3 ?_);walk_at "g";have nd:=zn9.nd;refine ⟨_,_,(zq21 (zd0 (pset 1 nd (zo0 jG (rmn hr) rfl (za0 (pv 0) (za0 zf0 zg0))))
   (zd0 (pset 2 nd (zns (zlb (zlb (zlb (zlb (zlb (zlb (zlb (zlb zcs))))))))))
   (zd0 (ztn (pix w K hr (za1 (zb1 (K:=K) rfl) (pv 2) (zns (zlb (zlb (zlb zcs))))) (za1 zn1 (pv 1) zf0)) (zb6 (K:=K) (n:=3) rfl rfl (zz0 (pgn 3 nd) (zz0 (pgn 4 nd) (zz0 (pgn 5 nd) zu5)))))
   (zd0 (pset 6 nd (za1 zn1 (za1 zv1 (pv 1) zf0) zf0))
   (zd0 (zy4 (i:=7) (sc:=zi0 zd3) (N:=["script", "first", "shapes", "many", "until", "ways", "large", "fills", "pipes", "k", "cells"]) (own:=["k"]) (ix:=[6,0]) rfl rfl rfl (by walk_at "csc") nd rfl rfl (zi2 rfl jH (za0 (pv 3) zg0)) (λ _ _ _ _=>⟨(pgn 0 (nds ["k", "large", "script"])),zv5,(zo0 jV (rmn hr) rfl (za0 (zo0 jG (rmn hr) rfl (za0 (pv 2) (za0 (za1 (zb1 (K:=K) rfl) zf0 (pv 0)) zg0))) (za0 (pv 1) zg0)))⟩))
   (zd0 (pset 8 nd (zp1 zg0))
   (zd0 (zs4 PassesOwn.never rfl (zi2 rfl jH (za0 (za1 zn1 (zo0 jG (rmn hr) rfl (za0 (pv 0) (za0 zf0 zg0))) (za1 (zb1 (K:=K) rfl) (pv 5) zf0)) zg0)) (pgn 9 nd) (zj0 (zd2 (zg6 (K:=K) rfl ğa ğb ğc zy1 (pv 8) (za0 (zo0 qX (rmn hr) rfl (za0 (zo0 jG (rmn hr) rfl (za0 (pv 0) (za0 (za1 (zb1 (K:=K) rfl) (za1 (zb1 (K:=K) rfl) zf0 (pv 3)) (pv 9)) zg0))) (za0 (pv 3) (za0 (pv 6) (za0 (pv 4) zg0))))) zg0)))))
   (zd0 (zy4 (i:=10) (sc:=zi0 zd3) (N:=["script", "first", "shapes", "many", "until", "ways", "large", "fills", "pipes", "k", "cells"]) (own:=["k"]) (ix:=[0]) rfl rfl rfl (by walk_at "csc") nd rfl rfl (zji rfl jH (za0 zf0 (za0 (zq0 (zyi rfl) rfl qW zru (za0 zf0 (za0 (zq0 (zid rfl) rfl qJ zkq (za0 zf0 (za0 (zq0 (ze1 (K:=K) rfl) rfl jM zh5 (za0 (pv 0) zg0)) zg0))) zg0))) zg0))) (λ _ _ _ _=>⟨(pgn 0 (nds ["k", "script"])),zv5,(zo0 jG (rmn hr) rfl (za0 (pv 1) (za0 (pv 0) zg0)))⟩))
   (zj0 (zc1 (zl1 (za0 (pv 4) (za0 (pv 7) (za0 (pv 8) (za0 (pv 10) zg0)))))))))))))))),(zm0 (zh1 (zw0 (zb0 (zh0 0) (zb0 zv0 zk0))) (rgn 1))
   (zm0 (zh1 (RfF.e (zn3 (zb0 (zo1 (zb0 zv0 (zb0 zv0 (zb0 zv0 zk0)))) (zb0 (zo1 (zb0 zv0 (zb0 zv0 (zb0 zv0 zk0)))) (zb0 (zo1 (zb0 zv0 (zb0 zv0 (zb0 zv0 zk0)))) (zb0 (zo1 (zb0 zv0 (zb0 zv0 (zb0 zv0 zk0)))) (zb0 (zo1 (zb0 zv0 (zb0 zv0 (zb0 zv0 zk0)))) (zb0 (zo1 (zb0 zv0 (zb0 zv0 (zb0 zv0 zk0)))) (zb0 (zo1 (zb0 zv0 (zb0 zv0 (zb0 zv0 zk0)))) (zb0 (zo1 (zb0 zv0 (zb0 zv0 (zb0 zv0 zk0)))) zk0)))))))))) (rgn 2))
   (zm0 (zh1 (zl0 r_ix (RfE.v (zl0 zd6 (zc0 2) (RfE.v (RfF.e (zn3 (zb0 (zo1 (zb0 zv0 (zb0 zv0 (zb0 zv0 zk0)))) (zb0 (zo1 (zb0 zv0 (zb0 zv0 (zb0 zv0 zk0)))) (zb0 (zo1 (zb0 zv0 (zb0 zv0 (zb0 zv0 zk0)))) zk0)))))))) (RfE.v (zl0 zs5 (zc0 1) rvi))) (zu9 (zy0 (rgn 3) (zy0 (rgn 4) (zy0 (rgn 5) zz5)))))
   (zm0 (zh1 (zl0 zs5 (RfE.v (zl0 zxf (zc0 1) rvi)) rvi) (rgn 6))
   (zm0 (zh1 (RfF.e (zx5 (RfI.j (zt6 (zb0 (zh0 3) zk0))) (zg2 (i:=0) (n:=1) (by decide)) zp7 (zw0 (zb0 (zw0 (zb0 (zh0 2) (zb0 (zl0 zd6 rvi (zc0 0)) zk0))) (zb0 (zh0 1) zk0))))) (rgn 7))
   (zm0 (ze3 (RfF.c (zn3 zk0)))
   (zm0 (zv4 (zt6 (zb0 (zl0 zs5 (RfE.v (zw0 (zb0 (zh0 0) (zb0 zv0 zk0)))) (RfE.v (zl0 zd6 (zc0 5) rvi))) zk0)) (rgn 9) (zc2 (zbg zia (zp0 8) (zb0 (zw0 (zb0 (zw0 (zb0 (zh0 0) (zb0 (zl0 zd6 (RfE.v (zl0 zd6 rvi (zc0 3))) (zc0 9)) zk0))) (zb0 (zh0 3) (zb0 (zh0 6) (zb0 (zh0 4) zk0))))) zk0))))
   (zm0 (zh1 (RfF.e (zx5 (RfI.j (zdr (zb0 zv0 (zb0 (zn8 zz31 (zu0 rvi (zu0 (RfE.v (zn8 zby (zu0 rvi (zu0 (RfE.v (zn8 zgd (zu0 (zc0 0) zm1))) zm1)))) zm1))) zk0)))) (zg2 (i:=0) (n:=1) (by decide)) zp7 (zw0 (zb0 (zh0 1) (zb0 (zh0 0) zk0))))) (rgn 10))
   (zmf 8 [] (zg1 (RfE.c (zo1 (zb0 (zh0 4) (zb0 (zh0 7) (zb0 (zh0 8) (zb0 (zh0 10) zk0)))))))))))))))),?_⟩
 rintro ds Qd ⟨ns,rfl,hl,q⟩;walk_at "ds";walk_at "a";refine ⟨ns,0,rfl,by lia,λ first=>hJ _ ?_⟩;walk_at "c";walk_at "b";obtain ⟨x,hx,ex⟩:∃ x,x∈shp/\atI (shp.map shD) (first % 11)=some (shD x):=by
  have h0:=xY first (b:=11) (by decide)
  have h1:=yE first (b:=11) (by decide)
  generalize first % 11=st at *
  obtain ⟨j,rfl⟩:=xZ h0;have hj:j < shp.length:=by show j < 11;lia
  exact ⟨shp[j],w6 hj,ze6 (by lia) (by rw [u8,vR,u7 hj];rfl)⟩
 obtain ⟨x1,x2,x3,x4,x5,x6⟩:=zea1 x hx;refine ⟨_,ex,?_⟩;unfold shD;walk_at "dd";walk_at "f";obtain ⟨L,hL⟩:∃ L,L=[wV [u4 2,u4 1,u4 5],wV [u4 2,u4 3,u4 5],wV [u4 3,u4 2,u4 5],wV [u4 3,u4 4,u4 5],wV [u4 4,u4 3,u4 5],wV [u4 2,u4 9,u4 3],wV [u4 12,u4 1,u4 12],wV [u4 5,u4 2,u4 5]]:=⟨_,rfl⟩
 rw [<- hL];clear hL;obtain ⟨n,u,ways⟩:=x;simp only at x1 x2 x3 x4 x5 x6 ⊢;walk_at "a";walk_at "f";generalize first / 11 % 2=large at *
 walk_at "a";unfold rngD;refine ⟨by lia,by lia,zs81 (λ f:Int=>0<=f/\f<=80000000000) u4 (by rw [sizeLine_eq,vV];lia) (λ k hk=>?_) λ fl hfl okf=>hJ _ ?_⟩
 ·have:=u9.mp hk;walk_at "cs";walk_at "dd";refine ⟨ns,2+k,by rw [show (2:Int)+(0+(k:Int))=((2+k:Nat):Int) by lia],by lia,λ m=>?_⟩;exact ⟨m,large,rfl,λ f f0 f1=>⟨f,⟨f0,f1⟩,rfl⟩⟩
 clear hJ;rw [vV] at hfl;walk_at "a";walk_at "f";refine ze0 λ J hJ=>?_;refine zi3 λ B hB=>?_;walk_at "dd";refine ⟨ns,1,rfl,by lia,λ m=>?_⟩;walk_at "dd";have w0:=xY m (b:=(ways:Int)+1) (by lia);have w1:=yE m (b:=(ways:Int)+1) (by lia);generalize m % ((ways:Int)+1)=cnt at *;obtain ⟨cnt,rfl⟩:=xZ w0;unfold rngD;refine ⟨by lia,by lia,by lia,?_⟩;refine zf2 (λ i U=>∃ (ps:List Pi) (s9:Sl),U=[Sl.sh (.list (ns.map .int)),.sh (.int first),.sh (.list L),.sh (.int (n:Int)),.sh (.int (u:Int)),.sh (.int (ways:Int)),.sh (.int large),.sh (.list (fl.map .int)),.ow (.li (ps.map Pi.d)),s9,.un]/\ps.length=i/\∀ p∈ps,PiOk n p) ⟨[],_,rfl,rfl,λ p hp=>by simp at hp⟩ (λ i k U hi hp=>?_) λ U hp=>?_
 ·obtain ⟨ps,s9,rfl,hpl,hpk⟩:=hp;obtain ⟨hi1,hi2⟩:=vZ.mp hi;rw [vV] at hi1;rw [xK] at hi2;subst hi2;walk_at "dd";refine hB _ _ ?_;walk_at "dd";refine ⟨ns,2+n+i,by rw [show (2:Int)+(n:Int)+(0+(i:Int))=((2+n+i:Nat):Int) by lia],by lia,λ m=>?_⟩;refine ⟨m,large,n,u,rfl,by lia,x2,λ p hp=>⟨by rw [u5];lia,ps++[p],_,by rw [vY];rfl,by rw [vK,hpl];rfl,λ p' hp'=>?_⟩⟩;rcases vJ.mp hp' with z|z
  ·exact hpk p' z
  ·simp at z;rw [z];exact hp
 ·obtain ⟨ps,s9,rfl,hpl,hpk⟩:=hp;rw [vV] at hpl;refine hJ _ ?_;clear hJ hB;walk_at "a";obtain ⟨z,ez,z0,z1⟩:∃ z:Int,(if (if ((v6 u4 ns).length:Int) < 63 then ((v6 u4 ns).length:Int) else 63) > 12 then (if ((v6 u4 ns).length:Int) < 63 then ((v6 u4 ns).length:Int) else 63) else 12)=z/\12<=z/\z<=63:=by
   refine ⟨_,rfl,?_,?_⟩ <;> (repeat' split) <;> lia
  rw [ez];unfold rngD;refine ⟨⟨by lia,by lia⟩,zs81 (λ _:Int=>True) u4 (by rw [sizeLine_eq,vV];lia) (λ k hk=>?_) λ cs hcs _=>hJ _ ?_⟩
  ·have:=u9.mp hk;walk_at "cs";walk_at "dd";exact ⟨ns,2+k,by rw [show (2:Int)+(k:Int)=((2+k:Nat):Int) by lia],by lia,λ m=>⟨m,rfl⟩⟩
  clear hJ;rw [vV] at hcs;walk_at "dd";refine ⟨_,_,rfl,rfl,?_⟩;exact q n u fl ps cs ⟨x1,x2,x3,x4,hfl,okf,by lia,hpk,by lia⟩
end
abbrev En:=Nat×Nat×Int
abbrev ky (m i:Nat):List Key:=[.inl (m:Int),.inl (i:Int)]
def kvE (e:En):List Key×D:=(ky e.1 e.2.1,.int e.2.2)
def gE (es:List En) (m i:Nat):Int:=su es λ e=>if e.1=m/\e.2.1=i then e.2.2 else 0
def ND (es:List En):Prop:=(es.map λ e=>(e.1,e.2.1)).Nodup
theorem zwq {m' i':Nat} (h:ky m i=ky m' i'):m=m'/\i=i':=by
 simp only [ky,List.cons.injEq,v7.injEq,and_true] at h;lia
theorem zdb (e:En) (r:List En) (m i:Nat):gE (e :: r) m i=(if e.1=m/\e.2.1=i then e.2.2 else 0)+gE r m i:=zd1 ..
theorem zc81 (l r:List En) (m i:Nat):gE (l++r) m i=gE l m i+gE r m i:=zf7 ..
theorem zbn {es:List En} (h:∀ e∈es,¬ (e.1=m/\e.2.1=i)):gE es m i=0:=su_zero' λ e he=>if_neg (h e he)
def hasE (es:List En) (m i:Nat):Bool:=es.any λ e=>decide (e.1=m/\e.2.1=i)
def upE (es:List En) (m i:Nat) (x:Int):List En:=if hasE es m i then es.map λ e=>if e.1=m/\e.2.1=i then (m,i,x) else e else es++[(m,i,x)]
theorem zpf {es:List En} (h:hasE es m i=false):∀ e∈es,¬ (e.1=m/\e.2.1=i):=λ e he=>by
 have:=zY.mp h e he
 simpa using this
theorem znl {e:En} {r:List En} (h:ND (e :: r)):ND r/\∀ e'∈r,¬ (e'.1=e.1/\e'.2.1=e.2.1):=by
 unfold ND at h;rw [vW,vX] at h;exact ⟨h.2,λ e' he' z=>h.1 (vQ.mpr ⟨e',he',by rw [z.1,z.2]⟩)⟩
theorem zkt:∀ {es:List En},ND es->∀ m i,(getA (es.map kvE) (ky m i)).getD (.int 0)=.int (gE es m i)
|[],_,m,i=>rfl
|e :: r,h,m,i=>by
  obtain ⟨h1,h2⟩:=znl h;rw [zdb];by_cases c:e.1=m/\e.2.1=i
  ·rw [if_pos c,zbn (es:=r) λ e' he' z=>h2 e' he' ⟨z.1.trans c.1.symm,z.2.trans c.2.symm⟩];obtain ⟨rfl,rfl⟩:=c;unfold getA;simp [kvE]
  ·rw [if_neg c];have ih:=zkt h1 m i;unfold getA at ih ⊢;rw [vW,ua1 (by
    intro z;exact c (zwq (of_decide_eq_true z))),yP]
   exact ih
theorem zt91 {es:List En} (m i:Nat) (x:Int):putD (es.map kvE) (ky m i) (.int x)=(upE es m i x).map kvE:=by
 have e1:((es.map kvE).any λ kv=>decide (kv.1=ky m i))=hasE es m i:=by
  rw [List.any_map];unfold hasE;congr 1;funext e;simp only [Function.comp,kvE];exact decide_eq_decide.mpr ⟨λ z=>zwq z,λ z=>by rw [z.1,z.2]⟩
 unfold putD upE;rw [e1];split
 ·rw [wL,wL];refine wZ λ e _=>?_;simp only [Function.comp];by_cases c:e.1=m/\e.2.1=i
  ·rw [if_pos (show (kvE e).1=ky m i by show ky e.1 e.2.1=_;rw [c.1,c.2]),if_pos c];show (ky e.1 e.2.1,_)=_;rw [c.1,c.2];rfl
  ·rw [if_neg (show ¬ (kvE e).1=ky m i from λ z=>c (zwq z)),if_neg c]
 ·rw [vY];rfl
theorem zdd1 {es:List En} (h:ND es) (m i:Nat) (x:Int) (m' i':Nat):gE (upE es m i x) m' i'=if m'=m/\i'=i then x else gE es m' i':=by
 unfold upE;by_cases hh:hasE es m i=true
 ·rw [if_pos hh]
  induction es with
 |nil=>simp [hasE] at hh
 |cons e r ih =>
   obtain ⟨h1,h2⟩:=znl h;rw [vW,zdb];by_cases c:e.1=m/\e.2.1=i
   ·have nr:∀ e'∈r,¬ (e'.1=m/\e'.2.1=i):=λ e' he' z=>h2 e' he' ⟨z.1.trans c.1.symm,z.2.trans c.2.symm⟩;have er:(r.map λ e=>if e.1=m/\e.2.1=i then (m,i,x) else e)=r:=by
     conv=>rhs;rw [<- j8 r]
     exact wZ λ e' he'=>if_neg (nr e' he')
    rw [er,if_pos c,zdb];by_cases d:m'=m/\i'=i
    ·rw [if_pos d,d.1,d.2,if_pos ⟨rfl,rfl⟩,zbn nr];exact yQ x
    ·rw [if_neg d,if_neg (λ z=>d ⟨z.1.symm,z.2.symm⟩),if_neg (λ z=>d ⟨z.1.symm.trans c.1,z.2.symm.trans c.2⟩)]
   ·have hr:hasE r m i=true:=by
     unfold hasE at hh ⊢;rw [xT,decide_eq_false c,Bool.false_or] at hh;exact hh
    rw [if_neg c,ih h1 hr,zdb];by_cases d:m'=m/\i'=i
    ·rw [if_pos d,if_pos d,if_neg (λ z=>c ⟨z.1.trans d.1,z.2.trans d.2⟩)];lia
    ·rw [if_neg d,if_neg d]
 ·rw [if_neg hh,zc81];have nr:=zpf (Bool.eq_false_iff.mpr hh);by_cases d:m'=m/\i'=i
  ·rw [if_pos d,d.1,d.2,zbn nr,zdb,if_pos ⟨rfl,rfl⟩];unfold gE;rw [zl6,yP];exact yQ x
  ·rw [if_neg d,zdb,if_neg (λ z=>d ⟨z.1.symm,z.2.symm⟩)];unfold gE;rw [zl6];lia
theorem zi31 {es:List En} :(upE es m i x).map (λ e=>(e.1,e.2.1))=if hasE es m i then es.map (λ e=>(e.1,e.2.1)) else es.map (λ e=>(e.1,e.2.1))++[(m,i)]:=by
 unfold upE;split
 ·rw [wL];refine wZ λ e _=>?_;simp only [Function.comp];split
  ·rename_i c;rw [c.1,c.2]
  ·rfl
 ·rw [vY];rfl
theorem zzd1 {es:List En} (h:ND es) (m i:Nat) (x:Int):ND (upE es m i x):=by
 unfold ND;rw [zi31];split
 ·exact h
 ·rename_i c
  refine wH.mpr ⟨h,by simp,λ a ha b hb e=>?_⟩;simp at hb;obtain ⟨e',he',rfl⟩:=vQ.mp ha;have:=zpf (Bool.eq_false_iff.mpr c) e' he';rw [hb] at e;exact this ⟨congrArg Prod.fst e,congrArg Prod.snd e⟩
theorem zc91 {es:List En} (m i:Nat) (x:Int):(upE es m i x).length<=es.length+1:=by
 unfold upE;split
 ·rw [u5];lia
 ·rw [vK];simp
theorem zs91 {es:List En} {e:En} (h:e∈upE es m i x):e∈es \/ e=(m,i,x):=by
 unfold upE at h;split at h
 ·obtain ⟨e',he',rfl⟩:=vQ.mp h;split
  ·exact .inr rfl
  ·exact .inl he'
 ·rcases vJ.mp h with z|z
  ·exact .inl z
  ·simp at z;exact .inr z
theorem ztb1 {M I:Nat} (c:Nat->Nat->Prop) [∀ m i,Decidable (c m i)]:∀ {es:List En},(∀ e∈es,e.1 < M/\e.2.1 < I)->(su es λ e=>if c e.1 e.2.1 then e.2.2 else 0)=su (u3 M) λ m=>su (u3 I) λ i=>if c m i then gE es m i else 0
|[],_=>by
  rw [zl6];refine (su_zero' λ m _=>su_zero' λ i _=>?_).symm;show (if c m i then gE [] m i else 0)=0;split
  ·rfl
  ·rfl
|e :: r,h=>by
  obtain ⟨hm,hi⟩:=h e (by simp);have ih:=ztb1 c (es:=r) λ e he=>h e (by simp [he]);have e1:(su (u3 M) λ m=>su (u3 I) λ i=>if c m i then gE (e :: r) m i else 0)=(su (u3 M) λ m=>su (u3 I) λ i=>if m=e.1 then (if i=e.2.1 then (if c e.1 e.2.1 then e.2.2 else 0) else 0) else 0)+su (u3 M) λ m=>su (u3 I) λ i=>if c m i then gE r m i else 0:=by
   rw [<- zfh];refine zx0 λ m _=>?_;rw [<- zfh];refine zx0 λ i _=>?_;rw [zdb];by_cases a:m=e.1
   ·by_cases b:i=e.2.1
    ·subst a;subst b;rw [if_pos rfl,if_pos rfl];by_cases hc:c e.1 e.2.1
     ·rw [if_pos hc,if_pos hc,if_pos hc,if_pos ⟨rfl,rfl⟩]
     ·rw [if_neg hc,if_neg hc,if_neg hc];rfl
    ·rw [if_pos a,if_neg b,show (if e.1=m/\e.2.1=i then e.2.2 else 0)=0 from if_neg (λ z=>b z.2.symm),yP,yP]
   ·rw [if_neg a,show (if e.1=m/\e.2.1=i then e.2.2 else 0)=0 from if_neg (λ z=>a z.1.symm),yP,yP]
  rw [zd1,ih,e1];congr 1;have e2:∀ m,(su (u3 I) λ i=>if m=e.1 then (if i=e.2.1 then (if c e.1 e.2.1 then e.2.2 else 0) else 0) else 0)=if m=e.1 then (if c e.1 e.2.1 then e.2.2 else 0) else 0:=λ m=>by
   by_cases a:m=e.1
   ·rw [if_pos a];rw [zx0 (g:=λ i=>if i=e.2.1 then (if c e.1 e.2.1 then e.2.2 else 0) else 0) λ i _=>if_pos a];exact zud (λ _=>if c e.1 e.2.1 then e.2.2 else 0) hi
   ·rw [if_neg a];exact su_zero' λ i _=>if_neg a
  rw [zx0 λ m _=>e2 m];exact (zud (λ _=>if c e.1 e.2.1 then e.2.2 else 0) hm).symm
def inG (ps:List Pi) (G:Nat->Nat->Int) (j k:Nat):Int:=su (u3 j) λ m=>su (u3 ps.length) λ i=>if m+pl ps i=j/\zv9 ps i=k then G m i else 0
def outG (ps:List Pi) (G:Nat->Nat->Int) (j k:Nat):Int:=su (u3 ps.length) λ i=>if zl2 ps i=k then G j i else 0
structure Pn (u:Nat) (fl:List Int) (ps:List Pi) (calm:Bool) (t:Nat) (G R:Nat->Nat->Int):Prop where
 g0:∀ m i,0<=G m i
 g:∀ m i,G m i≠0->m < t/\m < u/\i < ps.length/\G m i<=zqb ps i m/\(calm=true->m+pl ps i<=u)
 r:∀ j k,j < t->k < fl.length->R j k=(if j=0 then fl.getD k 0 else R (j - 1) k)+inG ps G j k - outG ps G j k
 r0:∀ j k,j < t->k < fl.length->0<=R j k
theorem zaj {ps:List Pi} {j:Nat} (h:∀ m i,m < j->G m i=G' m i) (k:Nat):inG ps G j k=inG ps G' j k:=zx0 λ m hm=>zx0 λ i _=>by rw [h m i (u9.mp hm)]
theorem zol {ps:List Pi} {j:Nat} (h:∀ i,G j i=G' j i) (k:Nat):outG ps G j k=outG ps G' j k:=zx0 λ i _=>by rw [h i]
def rowR (n:Nat) (R:Nat->Nat->Int) (j:Nat):D:=.list ((u3 n).map λ k=>.int (R j k))
noncomputable def zhf:DSp:=λ ds Q=>∃ (n u:Nat) (fl:List Int) (ps:List Pi) (cs:List Int) (calm:Bool),ds=[.list (fl.map .int),.list (ps.map Pi.d),.list (cs.map .int),.int (u:Int),.bool calm]/\Frm n u fl ps cs/\∀ (x:List D) (G R:Nat->Nat->Int),Pn u fl ps calm (u+1) G R->Q (.tuple [.list x,.list ((u3 (u+1)).map (rowR fl.length R))])
theorem zl91 (ps:List Pi):Fit 4 (.list (ps.map Pi.d)):=by
 have cn:∀ {n:Nat} {a:D} {r:List D},Fit n a->(∀ d∈r,Fit n d)->∀ d∈a :: r,Fit n d:=λ h k=>List.forall_mem_cons.mpr ⟨h,k⟩;have nn:∀ {n:Nat},∀ d∈([]:List D),Fit n d:=λ d h=>nomatch h;refine Fit.lst λ d hd=>?_;obtain ⟨p,_,rfl⟩:=vQ.mp hd;have fg:Fit 2 p.g.d:=by
  cases p.g with
 |st x=>exact Fit.tup (cn (Fit.str (by decide +kernel)) (cn (Fit.int _) nn))
 |la x f=>exact Fit.tup (cn (Fit.str (by decide +kernel)) (cn (Fit.int _) (cn (Fit.int _) nn)))
 |ti x y t=>exact Fit.tup (cn (Fit.str (by decide +kernel)) (cn (Fit.int _) (cn (Fit.int _) (cn (Fit.int _) nn))))
 exact Fit.tup (cn (Fit.int _) (cn (Fit.int _) (cn (Fit.int _) (cn (Fit.int _) (cn fg nn)))))
theorem zs3 {l:List Int} {k:Nat} (h:i < l.length):(l.set i x).getD k 0=if k=i then x else l.getD k 0:=by
 rw [vS,vS];by_cases e:k=i
 ·subst e;rw [w8 h,if_pos rfl];rfl
 ·rw [xC (λ z=>e z.symm),if_neg e]
theorem zlo (l:List Int) (i:Nat) (x:Int):(l.map u4).set i (.int x)=(l.set i x).map u4:=by rw [zT]
theorem zbj {l:List Int} (h:i < l.length):(l.map u4)[i]?=some (.int (l.getD i 0)):=by
 rw [u8,u7 h,vS,u7 h];rfl
theorem zc51 {α:Type} {l:List α} {f:α->Int} (h:∀ x∈l,0<=f x):0<=su l f:=by
 have:=zf51 (f:=λ _=>0) h;rw [zqc] at this;exact this
def cntL (cs:List Int) (u:Nat) (t:Nat):Nat:=cs.countP λ c=>decide (c % (u:Int) < (t:Int))
def cntA (cs:List Int) (u:Nat) (t:Nat):Nat:=cs.countP λ c=>decide (c % (u:Int)=(t:Int))
theorem zwx (cs:List Int) (u t:Nat):cntL cs u (t+1)=cntL cs u t+cntA cs u t:=by
 unfold cntL cntA
 induction cs with
|nil=>rfl
|cons c r ih =>
  rw [uaB,uaB,uaB,ih];by_cases h1:c % (u:Int) < (t:Int)
  ·rw [decide_eq_true h1,decide_eq_true (show c % (u:Int) < ((t+1:Nat):Int) by lia),decide_eq_false (show ¬ c % (u:Int)=(t:Int) by lia)];simp;lia
  ·by_cases h2:c % (u:Int)=(t:Int)
   ·rw [decide_eq_false h1,decide_eq_true h2,decide_eq_true (show c % (u:Int) < ((t+1:Nat):Int) by lia)];simp;lia
   ·rw [decide_eq_false h1,decide_eq_false h2,decide_eq_false (show ¬ c % (u:Int) < ((t+1:Nat):Int) by lia)];simp
theorem zan {t j:Nat} {c:Int} (h:cs[j]?=some c):cntA (cs.take (j+1)) u t=cntA (cs.take j) u t+if c % (u:Int)=(t:Int) then 1 else 0:=by
 unfold cntA;rw [uaC,h,List.countP_append];congr 1;show List.countP _ [c]=_;rw [List.countP_singleton];by_cases e:c % (u:Int)=(t:Int)
 ·rw [decide_eq_true e,if_pos e];rfl
 ·rw [decide_eq_false e,if_neg e];rfl
theorem zfr (cs:List Int) (u t:Nat):cntL cs u t<=cs.length:=ua2
theorem zu21 {ps:List Pi} {t:Nat} {a:Int} (hi:i < ps.length) (h:∀ i',G' t i'=G t i'+if i'=i then a else 0) (k:Nat):outG ps G' t k=outG ps G t k+if zl2 ps i=k then a else 0:=by
 have e:outG ps G' t k=outG ps G t k+su (u3 ps.length) λ i'=>if i'=i then (if zl2 ps i=k then a else 0) else 0:=by
  unfold outG;rw [<- zfh];refine zx0 λ i' _=>?_;rw [h i'];by_cases e1:i'=i
  ·subst e1;rw [if_pos rfl,if_pos rfl];split <;> lia
  ·rw [if_neg e1,if_neg e1];split <;> lia
 rw [e];congr 1;exact zud (λ _=>if zl2 ps i=k then a else 0) hi
theorem zjl:∀ {es:List En} {e:En},ND es->e∈es->getA (es.map kvE) (ky e.1 e.2.1)=some (.int e.2.2)
|a :: r,e,h,he=>by
  obtain ⟨h1,h2⟩:=znl h;unfold getA;rcases vL.mp he with z|z
  ·subst z;simp [kvE]
  ·rw [vW,ua1 (by
    intro y;have:=zwq (of_decide_eq_true y);exact h2 e z ⟨this.1.symm,this.2.symm⟩)]
   exact zjl h1 z
structure Cel (u:Nat) (fl:List Int) (ps:List Pi) (calm:Bool) (cs:List Int) (t:Nat) (es:List En) (h1:List Int) (j:Nat) (es':List En) (hl':List Int):Prop where
 nd:ND es'
 b:∀ e∈es',e.1<=t/\e.1 < u/\e.2.1 < ps.length
 c:es'.length<=es.length+cntA (cs.take j) u t
 m:∀ m i,m≠t->gE es' m i=gE es m i
 tt:∀ i,0<=gE es' t i/\(gE es' t i≠0->t < u/\i < ps.length/\gE es' t i<=zqb ps i t/\(calm=true->t+pl ps i<=u))
 l:hl'.length=fl.length
 v:∀ k,k < fl.length->hl'.getD k 0=h1.getD k 0 - outG ps (gE es') t k/\0<=hl'.getD k 0
theorem Cel.skip {fl:List Int} {ps:List Pi} {calm:Bool} {t:Nat} {es:List En} {h1:List Int} {j:Nat} {es':List En} {hl':List Int} {c:Int} (h:Cel u fl ps calm cs t es h1 j es' hl') (hi:cs[j]?=some c):Cel u fl ps calm cs t es h1 (j+1) es' hl':=⟨h.nd,h.b,by have:=h.c;rw [zan hi];lia,h.m,h.tt,h.l,h.v⟩
section
variable {P:Program} {w:World} {K:Fg} {mg:Str->Option Value} {base:Heap}
theorem zha:FnScope ["fills", "pipes", "cells", "until", "calm", "held", "let_in", "rows", "now", "key", "amount", "cell", "pipe", "left"] ["fills", "pipes", "cells", "until", "calm"] (zi0 zm7):=by walk_at "sc"
theorem zrg (M:Md K mg) (T:TopDef K "_law_plan" zm7) (jM:mg "len"=none) (jW:mg "list"=none) (qJ:mg "min"=none) (jH:mg "range"=none) (kW:mg "sorted"=none) (jS:Def P w K mg base "_law_wide_at" 1 ["gate", "moment"] (spD K za7)) (qM:Def P w K mg base "_law_amount" 1 ["cell", "left"] (spD K zob)):Def P w K mg base "_law_plan" 2 ["fills", "pipes", "cells", "until", "calm"] (spD K zhf):=by
 refine zo3 M T zha (by walk_at "h") (zjb (by walk_at "i")) (zc3 ?_);walk_at "g";have nd:=zha.nd;refine ⟨_,_,(zd0 (pset 5 nd (zm5 (zu4 (K:=K) rfl) rfl jW zna (za0 (pv 0) zg0)))
   (zd0 (pset 6 nd zbx)
   (zd0 (pset 7 nd (zp1 zg0))
   (zd0 (zs4 PassesOwn.never rfl (zi2 rfl jH (za0 (za1 (zb1 (K:=K) rfl) (pv 3) zf0) zg0)) (pgn 8 nd) (zd0 (zb21 (zs4 PassesOwn.never rfl (zgu (pv 6)) (zb6 (K:=K) (n:=2) rfl rfl (zz0 (pgn 9 nd) (zz0 (pgn 10 nd) zu5))) (zj0 (zh8 (zt0 (zl5 (K:=K) rfl (Room.units hr)) (za1 (zb1 (K:=K) rfl) (pix w K hr (pv 9) zf0) (pix w K hr (pix w K hr (pv 1) (pix w K hr (pv 9) zf0)) zf0)) (pv 8) (zi1 _)) (zj0 (zac (pv 5) (pix w K hr (pix w K hr (pv 1) (pix w K hr (pv 9) zf0)) zf0) (zky (K:=K) (Room.units hr) rfl) (pv 10) zwl (zas (Room.units hr)))) zk1))))
   (zd0 (zs4 PassesOwn.never rfl (pi_W (K:=K) rfl (pv 2)) (pgn 11 nd) (zd0 (zh8 (PW.pt (zwg (zt0 (zl5 (K:=K) rfl (Room.units hr)) (pv 1) (zp1 zg0) (zi1 _)) (zwg (zt0 (zl5 (K:=K) rfl (Room.units hr)) (pv 8) (pv 3) (zi1 _)) (zbe (zt0 (zik (K:=K) rfl (Room.units hr)) (za1 zn1 (pv 11) (pv 3)) (pv 8) (zi1 _)))))) (zj0 zxj) zk1)
   (zd0 (pset 9 nd (zl1 (za0 (pv 8) (za0 (za1 zn1 (za1 zv1 (pv 11) zf0) (zq0 (ze1 (K:=K) rfl) rfl jM zh5 (za0 (pv 1) zg0))) zg0))))
   (zd0 (pset 12 nd (pix w K hr (pv 1) (pix w K hr (pv 9) zf0)))
   (zd0 (pset 13 nd (zq0 (zid rfl) rfl qJ zkq (za0 (pix w K hr (pv 5) (pix w K hr (pv 12) zf0)) (za0 (za1 zod (zo0 jS (rmn hr) rfl (za0 (pix w K hr (pv 12) zf0) (za0 (pv 8) zg0))) (zg6 (K:=K) rfl ğg ğf ğq (zjs (Room.units hr)) (pv 6) (za0 (pv 9) (za0 zf0 zg0)))) zg0))))
   (zd0 (pset 10 nd (zo0 qM (rmn hr) rfl (za0 (pv 11) (za0 (pv 13) zg0))))
   (zj0 (zh8 (PW.pt (zkm (zt0 zcx (pv 10) zf0 (zi1 _)) (zuf (PW.pt (zwg (zjd (zw4 (K:=K) rfl (pv 4) (λ _=>rfl))) (zbe (zt0 zyb1 (za1 (zb1 (K:=K) rfl) (pv 8) (pix w K hr (pv 12) zf0)) (pv 3) (zi1 _)))))))) (zd0 (ztn (za1 (zb1 (K:=K) rfl) (zg6 (K:=K) rfl ğg ğf ğq (zjs (Room.units hr)) (pv 6) (za0 (pv 9) (za0 zf0 zg0))) (pv 10)) (zi11 (pv 6) (pv 9) (zas (Room.units hr))))
   (zj0 (zac (pv 5) (pix w K hr (pv 12) zf0) (zky (K:=K) (Room.units hr) rfl) (pv 10) zuw (zas (Room.units hr))))) zk1))))))))
   (zj0 (zd2 (zg6 (K:=K) rfl ğa ğb ğc zy1 (pv 7) (za0 (zm5 (zu4 (K:=K) rfl) rfl jW zna (za0 (pv 5) zg0)) zg0)))))))
   (zj0 (zc1 (zl1 (za0 (zl9 (sc:=zi0 zm7) (N:=["fills", "pipes", "cells", "until", "calm", "held", "let_in", "rows", "now", "key", "amount", "cell", "pipe", "left"]) (own:=["key"]) (ix:=[6]) rfl rfl rfl (by walk_at "csc") (pi_W (K:=K) rfl (zq0 (zno (K:=K) rfl rfl) rfl kW zli (za0 (pv 6) zg0))) (λ _ _ _ _=>⟨(pgn 0 (nds ["key", "let_in"])),zv5,(zl1 (za0 (pix w K hr (pv 0) zf0) (za0 (pix w K hr (pv 0) zf0) (za0 (pix w K hr (pv 1) (pv 0)) zg0))))⟩)) (za0 (pv 7) zg0))))))))),(zm0 (ze3 (RfF.c (zqy zdk (zu0 (zc0 0) zm1))))
   (zm0 (ze3 zed1)
   (zm0 (ze3 (RfF.c (zn3 zk0)))
   (zm0 (zv4 (zt6 (zb0 (zl0 zd6 (zc0 3) rvi) zk0)) (rgn 8) (zm0 (zs21 (i:=6) (zu9 (zy0 (rgn 9) (zy0 (rgn 10) zz5))) (zi8 (zs0 (zr2 q_eq (RfV.h (RfE.v (zl0 zd6 (RfE.v (zl0 r_ix (zc0 9) rvi)) (RfE.v (zl0 r_ix (RfE.v (zl0 r_ix (zc0 1) (RfE.v (zl0 r_ix (zc0 9) rvi)))) rvi))))) (RfV.h (zc0 8)))) (zbc (zp0 5) (zl0 r_ix (RfE.v (zl0 r_ix (zc0 1) (RfE.v (zl0 r_ix (zc0 9) rvi)))) rvi) (zh0 10)) zj1))
   (zm0 (zv4 (zeq (zh0 2)) (rgn 11) (zm0 (zi8 (zyg (zs0 (zr2 q_eq (RfV.h (zc0 1)) (zuy zr01))) (zyg (zs0 (zr2 q_eq (RfV.h (zc0 8)) (RfV.h (zc0 3)))) (zs0 (zr2 q_ne (RfV.h (RfE.v (zl0 zs5 (zc0 11) (zc0 3)))) (RfV.h (zc0 8)))))) zv31 zj1)
   (zm0 (zh1 (zo1 (zb0 (zh0 8) (zb0 (zl0 zs5 (RfE.v (zl0 zxf (zc0 11) rvi)) (RfE.v (zn8 zgd (zu0 (zc0 1) zm1)))) zk0))) (rgn 9))
   (zm0 (zh1 (zl0 r_ix (zc0 1) (RfE.v (zl0 r_ix (zc0 9) rvi))) (rgn 12))
   (zm0 (zh1 (zn8 zby (zu0 (RfE.v (zl0 r_ix (zc0 5) (RfE.v (zl0 r_ix (zc0 12) rvi)))) (zu0 (RfE.v (zl0 zcq (RfE.v (zw0 (zb0 (zl0 r_ix (zc0 12) rvi) (zb0 (zh0 8) zk0)))) (RfE.v (zrs (zp0 6) (zh0 9) zv0)))) zm1))) (rgn 13))
   (zm0 (zh1 (zw0 (zb0 (zh0 11) (zb0 (zh0 13) zk0))) (rgn 10))
   (zi8 (zfl (zs0 (zl0 r_gt (zc0 10) rvi)) (zyg (zde (ze9 (zc0 4))) (zs0 (zl0 r_le (RfE.v (zl0 zd6 (zc0 8) (RfE.v (zl0 r_ix (zc0 12) rvi)))) (zc0 3))))) (zm0 (zw21 (zl0 zd6 (RfE.v (zrs (zp0 6) (zh0 9) zv0)) (zc0 10)) (zp0 6) (zh0 9))
   (zbc (zp0 5) (zl0 r_ix (zc0 12) rvi) (zh0 10))) zj1)))))))
   (zc2 (zbg zia (zp0 7) (zb0 (RfF.e (zqy zdk (zu0 (zc0 5) zm1))) zk0))))))
   (zmf 7 [] (zg1 (RfE.c (zo1 (zb0 (RfF.e (zx5 (zoy (RfE.v (RfF.e (zeu (zp0 6))))) (zg2 (i:=0) (n:=1) (by decide)) zp7 (zo1 (zb0 (zl0 r_ix (zc0 0) rvi) (zb0 (zl0 r_ix (zc0 0) rvi) (zb0 (zhj (zp0 1) (zh0 0)) zk0)))))) (zb0 (zh0 7) zk0)))))))))),?_⟩
 rintro ds Qd ⟨n,u,fl,ps,cs,calm,rfl,fr,q⟩;have hu:=fr.u1;have hpn:=fr.pn;have hn12:=fr.n1;have hfn:=fr.fn;have hcn:=fr.cn;have pAtI:∀ i,i < ps.length->∃ p,ps[i]?=some p/\atI (ps.map Pi.d) (i:Int)=some p.d/\PiOk n p/\pl ps i=p.len/\zl2 ps i=p.u/\zv9 ps i=p.v/\∀ t,zqb ps i t=p.g.at t:=λ i hi=>by
  have e:ps[i]?=some ps[i]:=u7 hi;refine ⟨_,e,ztc (by rw [u8,e];rfl),fr.pk _ (wF e),?_,?_,?_,λ t=>?_⟩
  ·unfold pl;rw [e];rfl
  ·unfold zl2;rw [e];rfl
  ·unfold zv9;rw [e];rfl
  ·unfold zqb;rw [e];rfl
 have shp:=(zl91 ps).shaped (by decide);have eqp:(v5 (ps.map Pi.d)).eqv (.list [])=decide (ps.length=0):=by
  cases ps with
 |nil=>rfl
 |cons a r=>rfl
 have lenp:(ps.map Pi.d).length=ps.length:=u5 ..;generalize ps.map Pi.d=PD at *;walk_at "ds";walk_at "a";walk_at "b";walk_at "b";walk_at "f";refine ze0 λ J hJ=>?_;refine zi3 λ B hB=>?_;walk_at "dd";unfold rngD;refine ⟨by lia,by lia,?_⟩;refine zf2 (λ t U=>∃ (es:List En) (hl:List Int) (R:Nat->Nat->Int) (s8 s9 s10 s11 s12 s13:Sl),U=[Sl.sh (v5 (v6 u4 fl)),Sl.sh (v5 PD),Sl.sh (v5 (v6 u4 cs)),Sl.sh (u4 (u:Int)),Sl.sh (yC calm),Sl.ow (_4.T.li (hl.map .int)),Sl.ow (_4.T.dt (es.map kvE)),Sl.ow (_4.T.li ((u3 t).map (rowR fl.length R))),s8,s9,s10,s11,s12,s13]/\t<=u+1/\ND es/\(∀ e∈es,e.1 < t/\e.1 < u/\e.2.1 < ps.length)/\es.length<=cntL cs u t/\Pn u fl ps calm t (gE es) R/\hl.length=fl.length/\∀ k,k < fl.length->hl.getD k 0=if t=0 then fl.getD k 0 else R (t - 1) k) ⟨[],fl,λ _ _=>0,_,_,_,_,_,_,rfl,by lia,List.nodup_nil,(λ e he=>by simp at he),by simp,⟨λ m i=>wQ 0,λ m i h=>absurd rfl h,λ j k hj=>by lia,λ j k hj=>by lia⟩,rfl,λ k _=>rfl⟩ (λ t kk U hi hp=>?_) λ U hp=>?_
 ·obtain ⟨es,hl,R,s8,s9,s10,s11,s12,s13,rfl,ht,nd,heb,hec,pn,hll,hlv⟩:=hp;obtain ⟨hi1,hi2⟩:=vZ.mp hi;rw [vV] at hi1;rw [xK] at hi2;subst hi2;walk_at "dd";refine hB _ _ ?_;clear hB;rw [show (0:Int)+(t:Int)=(t:Int) by lia];have gt0:∀ i,gE es t i=0:=λ i=>Classical.byContradiction λ z=>by have:=(pn.g t i z).1;lia
  refine ze0 λ J2 hJ2=>?_;refine zgt (i:=6) rfl (λ a j U=>∃ (hl':List Int) (s9 s10:Sl),U=[Sl.sh (v5 (v6 u4 fl)),Sl.sh (v5 PD),Sl.sh (v5 (v6 u4 cs)),Sl.sh (u4 (u:Int)),Sl.sh (yC calm),Sl.ow (_4.T.li (hl'.map .int)),Sl.io a .wh,Sl.ow (_4.T.li ((u3 t).map (rowR fl.length R))),Sl.sh (.int (t:Int)),s9,s10,s11,s12,s13]/\hl'.length=fl.length/\∀ k,k < fl.length->hl'.getD k 0=hl.getD k 0+su (es.take j) λ e=>if e.1+pl ps e.2.1=t/\zv9 ps e.2.1=k then e.2.2 else 0) (λ a=>⟨hl,_,_,rfl,hll,λ k _=>by rw [y3,zl6,yQ]⟩) (λ a j U' hw=>by obtain ⟨hl',s9,s10,rfl,_⟩:=hw;rfl) (λ a j kv U' hkv hw=>?_) λ a U' hw=>?_
  ·obtain ⟨hl',s9,s10,rfl,hll',hlv'⟩:=hw;rw [u8] at hkv;obtain ⟨e,he,rfl⟩:=wO.mp hkv;obtain ⟨b1,b2,b3⟩:=heb e (wF he);obtain ⟨p,p1,p2,p3,p4,p5,p6,p7⟩:=pAtI e.2.1 b3;have tk:es.take (j+1)=es.take j++[e]:=by rw [uaC,he];rfl
   unfold itD kvE;walk_at "dd";refine ⟨.int (e.1:Int),rfl,.int (e.2.1:Int),rfl,?_⟩;walk_at "dd";refine ⟨_,p2,?_⟩;unfold Pi.d;walk_at "dd";walk_at "k";have sumj:∀ k,(su (es.take (j+1)) λ e=>if e.1+pl ps e.2.1=t/\zv9 ps e.2.1=k then e.2.2 else 0)=(su (es.take j) λ e=>if e.1+pl ps e.2.1=t/\zv9 ps e.2.1=k then e.2.2 else 0)+if e.1+p.len=t/\p.v=k then e.2.2 else 0:=λ k=>by
    rw [tk,zf7,zd1,zl6,p4,p6,yQ]
   have pv:p.v < hl'.length:=by rw [hll',hfn];exact p3.2.1
   refine two (λ hc=>⟨.int (e.2.1:Int),rfl,?_⟩) λ hc=>⟨hl',_,_,rfl,hll',λ k hk=>?_⟩
   ·walk_at "dd";refine ⟨_,p2,?_⟩;unfold Pi.d;walk_at "dd";walk_at "k";refine ⟨by lia,_,zbj pv,?_⟩;walk_at "dd";refine ⟨p.v,zlp (by rw [u5];exact pv),hl'.set p.v (hl'.getD p.v 0+e.2.2),_,_,by rw [zlo];rfl,by rw [wD];exact hll',λ k hk=>?_⟩;rw [zs3 pv,sumj k,hlv' k hk];by_cases hk2:k=p.v
    ·rw [if_pos hk2,if_pos ⟨by lia,hk2.symm⟩,<- hk2,hlv' k hk];lia
    ·rw [if_neg hk2,if_neg (λ z=>hk2 z.2.symm)];lia
   ·rw [sumj k,hlv' k hk,if_neg (λ z=>hc (by lia))];lia
  ·obtain ⟨h1,s9,s10,rfl,hl1,hv1⟩:=hw;rw [u5,xA] at hv1;have hin:∀ k,k < fl.length->h1.getD k 0=hl.getD k 0+inG ps (gE es) t k:=λ k hk=>by
    rw [hv1 k hk,ztb1 (M:=t) (I:=ps.length) (λ m i=>m+pl ps i=t/\zv9 ps i=k) λ e he=>⟨(heb e he).1,(heb e he).2.2⟩];rfl
   have h10:∀ k,k < fl.length->0<=h1.getD k 0:=λ k hk=>by
    have a1:0<=inG ps (gE es) t k:=zc51 λ m _=>zc51 λ i _=>by
     split
     ·exact pn.g0 m i
     ·exact wQ 0
    have a2:0<=hl.getD k 0:=by
     rw [hlv k hk];split
     ·have:fl.getD k 0∈fl:=by rw [vS,u7 hk];exact w6 hk
      exact (fr.f0 _ this).1
     ·exact pn.r0 (t - 1) k (by lia) hk
    rw [hin k hk];lia
   walk_at "dd";refine hJ2 _ ?_;clear hJ2;refine ze0 λ J2 hJ2=>?_;refine zi3 λ B hB=>?_;walk_at "dd";obtain ⟨I,hI⟩:∃ I:Nat->DSt->Prop,I=λ j U=>∃ (es':List En) (hl':List Int) (s9 s10 s11 s12 s13:Sl),U=[Sl.sh (v5 (v6 u4 fl)),Sl.sh (v5 PD),Sl.sh (v5 (v6 u4 cs)),Sl.sh (u4 (u:Int)),Sl.sh (yC calm),Sl.ow (_4.T.li (hl'.map .int)),Sl.ow (_4.T.dt (es'.map kvE)),Sl.ow (_4.T.li ((u3 t).map (rowR fl.length R))),Sl.sh (.int (t:Int)),s9,s10,s11,s12,s13]/\Cel u fl ps calm cs t es h1 j es' hl':=⟨_,rfl⟩
   refine zf2 I (by rw [hI];exact ⟨es,h1,_,_,_,_,_,rfl,nd,(λ e he=>by have:=heb e he;exact ⟨by lia,this.2.1,this.2.2⟩),by unfold cntA;simp,λ m i _=>rfl,λ i=>⟨by rw [gt0];exact wQ 0,λ z=>absurd (gt0 i) z⟩,hl1,λ k hk=>⟨by rw [show outG ps (gE es) t k=0 from su_zero' λ i _=>by rw [gt0];split <;> rfl];lia,h10 k hk⟩⟩) (λ j c U hi hp=>?_) λ U hp=>?_
   ·rw [hI] at hp;obtain ⟨es',hl',s9,s10,s11,s12,s13,rfl,ce⟩:=hp;have nd':=ce.nd;have hll':=ce.l;have hlv':=ce.v;have ht':=ce.tt;walk_at "dd";refine hB _ _ ?_;clear hB;have same:∀ s9 s10 s11 s12 s13:Sl,I (j+1) [Sl.sh (v5 (v6 u4 fl)),Sl.sh (v5 PD),Sl.sh (v5 (v6 u4 cs)),Sl.sh (u4 (u:Int)),Sl.sh (yC calm),Sl.ow (_4.T.li (hl'.map .int)),Sl.ow (_4.T.dt (es'.map kvE)),Sl.ow (_4.T.li ((u3 t).map (rowR fl.length R))),Sl.sh (.int (t:Int)),s9,s10,s11,s12,s13]:=λ s9 s10 s11 s12 s13=>by rw [hI];exact ⟨es',hl',s9,s10,s11,s12,s13,rfl,ce.skip hi⟩
    refine ze0 λ J3 hJ3=>?_;walk_at "dd";rw [eqp];refine ⟨shp,by decide,two (λ z=>?_) λ z1=>two (λ z=>?_) λ z2=>⟨by lia,two (λ z=>?_) λ z3=>hJ3 _ ?_⟩⟩
    ·exact same _ _ _ _ _
    ·exact same _ _ _ _ _
    ·exact same _ _ _ _ _
    clear hJ3;have hp0:ps.length≠0:=λ z=>z1 (decide_eq_true z);have htu:t < u:=by lia
    have hcu:c % (u:Int)=(t:Int):=Classical.not_not.mp z3;refine ze0 λ J3 hJ3=>?_;walk_at "dd";rw [lenp];refine ⟨by lia,hJ3 _ ?_⟩;clear hJ3;have i0:=xY (c / 9) (b:=(ps.length:Int)) (by lia);have i1:=yE (c / 9) (b:=(ps.length:Int)) (by lia);generalize c / 9 % (ps.length:Int)=ii at *;obtain ⟨i,rfl⟩:=xZ i0;have hil:i < ps.length:=by lia
    obtain ⟨p,p1,p2,p3,p4,p5,p6,p7⟩:=pAtI i hil;refine ze0 λ J3 hJ3=>?_;walk_at "dd";walk_at "k";refine ⟨_,p2,hJ3 _ ?_⟩;clear hJ3;have pu:p.u < hl'.length:=by rw [hll',hfn];exact p3.1
    refine ze0 λ J3 hJ3=>?_;unfold Pi.d;walk_at "dd";have ah:atI (hl'.map u4) (p.u:Int)=some (.int (hl'.getD p.u 0)):=ze6 (by lia) (zbj pu);walk_at "k";refine ⟨_,ah,_,rfl,p.g,t,rfl,p3.2.2.2.2.1,ky t i,rfl,?_⟩;rw [zkt nd'];walk_at "dd";have w0:=p3.2.2.2.2.2 t;have w1:gE es' t i<=p.g.at t:=by
     by_cases z:gE es' t i=0
     ·rw [z];exact w0
     ·have:=((ht' i).2 z).2.2.1;rw [p7] at this;exact this
    have hu0:=(hlv' p.u (by lia)).2;obtain ⟨L,eL,L0,L1,_2⟩:∃ L:Int,(if p.g.at t - gE es' t i < hl'.getD p.u 0 then p.g.at t - gE es' t i else hl'.getD p.u 0)=L/\0<=L/\L<=hl'.getD p.u 0/\L<=p.g.at t - gE es' t i:=by
     refine ⟨_,rfl,?_,?_,?_⟩ <;> split <;> lia
    rw [eL];refine hJ3 _ ?_;clear hJ3;refine ze0 λ J3 hJ3=>?_;walk_at "dd";refine ⟨c,L,rfl,L0,λ a a0 a1=>hJ3 _ ?_⟩;clear hJ3;refine zj21 λ A1 B1 hA1 hB1=>?_;have no:B1 { nx:=I (j+1),rt:=rD Qd,bk:=J2,ct:=I (j+1) } [Sl.sh (v5 (v6 u4 fl)),Sl.sh (v5 PD),Sl.sh (v5 (v6 u4 cs)),Sl.sh (u4 (u:Int)),Sl.sh (yC calm),Sl.ow (_4.T.li (hl'.map .int)),Sl.ow (_4.T.dt (es'.map kvE)),Sl.ow (_4.T.li ((u3 t).map (rowR fl.length R))),Sl.sh (.int (t:Int)),Sl.sh (wV [u4 (t:Int),u4 (i:Int)]),Sl.sh (u4 a),Sl.sh (u4 c),Sl.sh (wV [u4 (p.u:Int),u4 (p.v:Int),u4 (p.len:Int),u4 p.pr,p.g.d]),Sl.sh (u4 L)]:=hB1 _ _ (by
     walk_at "dd";exact same _ _ _ _ _)
    have go:0 < a->(calm=true->t+p.len<=u)->A1 { nx:=I (j+1),rt:=rD Qd,bk:=J2,ct:=I (j+1) } [Sl.sh (v5 (v6 u4 fl)),Sl.sh (v5 PD),Sl.sh (v5 (v6 u4 cs)),Sl.sh (u4 (u:Int)),Sl.sh (yC calm),Sl.ow (_4.T.li (hl'.map .int)),Sl.ow (_4.T.dt (es'.map kvE)),Sl.ow (_4.T.li ((u3 t).map (rowR fl.length R))),Sl.sh (.int (t:Int)),Sl.sh (wV [u4 (t:Int),u4 (i:Int)]),Sl.sh (u4 a),Sl.sh (u4 c),Sl.sh (wV [u4 (p.u:Int),u4 (p.v:Int),u4 (p.len:Int),u4 p.pr,p.g.d]),Sl.sh (u4 L)]:=λ ap hcal=>hA1 _ _ (by
     refine ze0 λ J3 hJ3=>?_;walk_at "dd";refine ⟨ky t i,rfl,?_⟩;rw [zkt nd'];walk_at "dd";have hes:es'.length<=122:=by
      have h1:=ce.c;have h2:=zfr cs u t;have h3:cntA (cs.take j) u t<=(cs.take j).length:=ua2;rw [wM] at h3;lia
     refine ⟨ky t i,rfl,by rw [u5];lia,hJ3 _ ?_⟩;clear hJ3;rw [zt91];walk_at "dd";walk_at "k";refine ⟨by lia,_,zbj pu,?_⟩;walk_at "dd";refine ⟨p.u,zlp (by rw [u5];exact pu),?_⟩;rw [hI];have gu:=zdd1 nd' t i (gE es' t i+a);refine ⟨upE es' t i (gE es' t i+a),hl'.set p.u (hl'.getD p.u 0 - a),_,_,_,_,_,by rw [zlo];rfl,zzd1 nd' _ _ _,λ e he=>?_,?_,λ m i' hm=>?_,λ i'=>?_,by rw [wD];exact hll',λ k hk=>?_⟩
     ·rcases zs91 he with z|z
      ·exact ce.b e z
      ·rw [z];exact ⟨u6 _,htu,hil⟩
     ·have:=zc91 (es:=es') t i (gE es' t i+a);have h2:=ce.c;rw [zan hi,if_pos hcu];lia
     ·rw [gu,if_neg (λ z=>hm z.1)];exact ce.m m i' hm
     ·rw [gu];by_cases e:i'=i
      ·subst e;rw [if_pos ⟨rfl,rfl⟩];have:=(ht' i').1;exact ⟨by lia,λ _=>⟨htu,hil,by rw [p7];lia,λ z=>by rw [p4];exact hcal z⟩⟩
      ·rw [if_neg (λ z=>e z.2)];exact ht' i'
     ·rw [zs3 pu,zu21 (G:=gE es') (a:=a) hil (λ i'=>by
       rw [gu];by_cases e:i'=i
       ·subst e;rw [if_pos ⟨rfl,rfl⟩,if_pos rfl]
       ·rw [if_neg (λ z=>e z.2),if_neg e,yQ]) k,p5]
      have:=hlv' k hk;by_cases e:k=p.u
      ·subst e;rw [if_pos rfl,if_pos rfl];exact ⟨by lia,by lia⟩
      ·rw [if_neg e,if_neg (λ z=>e z.symm)];exact ⟨by lia,this.2⟩)
    walk_at "dd";refine two (λ k1=>two (λ k2=>go k1 λ z=>by rw [z] at k2;cases k2) λ k2=>⟨_,rfl,?_⟩) λ k1=>no;walk_at "dd";refine two (λ k3=>go k1 λ _=>by lia) λ k3=>no
   ·rw [hI] at hp;obtain ⟨es',hl',s9,s10,s11,s12,s13,rfl,⟨nd',hb',hc',hm',ht',hll',hlv'⟩⟩:=hp;rw [xA] at hc';refine hJ2 _ ?_;clear hJ2 hB;walk_at "dd";refine ⟨by simp;lia,es',hl',λ j k=>if j < t then R j k else hl'.getD k 0,.sh (.int (t:Int)),s9,s10,s11,s12,s13,?_,by lia,nd',(λ e he=>by have:=hb' e he;exact ⟨by lia,this.2.1,this.2.2⟩),by rw [zwx];lia,?_,hll',λ k hk=>?_⟩
    ·have e1:(u3 (t+1)).map (rowR fl.length λ j k=>if j < t then R j k else hl'.getD k 0)=(u3 t).map (rowR fl.length R)++[v5 (hl'.map u4)]:=by
      rw [w9,vY];congr 1
      ·refine wZ λ j hj=>?_;unfold rowR;congr 1;exact wZ λ k _=>by
        show u4 (if j < t then R j k else hl'.getD k 0)=_;rw [if_pos (u9.mp hj)]
      ·show [rowR _ _ t]=_;unfold rowR;congr 2;refine y4 (by simp [hll']) λ i h1 h2=>?_;rw [y6,xK,y6];show u4 (if t < t then R t i else hl'.getD i 0)=_;rw [if_neg (by lia),vS,u7 (by simpa using h2)];rfl
     rw [e1]
    ·have gsame:∀ m i,m < t->gE es' m i=gE es m i:=λ m i hm=>hm' m i (by lia);refine ⟨λ m i=>?_,λ m i hg=>?_,λ j k hj hk=>?_,λ j k hj hk=>?_⟩
     ·by_cases e:m=t
      ·rw [e];exact (ht' i).1
      ·rw [hm' m i e];exact pn.g0 m i
     ·by_cases e:m=t
      ·rw [e] at hg ⊢;obtain ⟨a1,a2,a3,a4⟩:=(ht' i).2 hg;exact ⟨by lia,a1,a2,a3,a4⟩
      ·rw [hm' m i e] at hg ⊢;obtain ⟨a1,a2,a3,a4,a5⟩:=pn.g m i hg;exact ⟨by lia,a2,a3,a4,a5⟩
     ·by_cases e:j=t
      ·rw [e,if_neg (by lia),(hlv' k hk).1,hin k hk,hlv k hk,zaj (G':=gE es) (λ m i hm=>gsame m i hm) k];by_cases z:t=0
       ·rw [if_pos z,if_pos z]
       ·rw [if_neg z,if_neg z,if_pos (by lia)]
      ·have hjt:j < t:=by lia
       rw [if_pos hjt,pn.r j k hjt hk,zaj (G:=gE es') (G':=gE es) (λ m i hm=>gsame m i (by lia)) k,zol (G:=gE es') (G':=gE es) (λ i=>gsame j i hjt) k];by_cases z:j=0
       ·rw [if_pos z,if_pos z]
       ·rw [if_neg z,if_neg z,if_pos (by lia)]
     ·by_cases e:j=t
      ·rw [e,if_neg (by lia)];exact (hlv' k hk).2
      ·rw [if_pos (by lia)];exact pn.r0 j k (by lia) hk
    ·show _=if t+1 - 1 < t then R (t+1 - 1) k else hl'.getD k 0
     rw [if_neg (by lia)]
 ·obtain ⟨es,hl,R,s8,s9,s10,s11,s12,s13,rfl,ht,nd,heb,hec,pn,hll,hlv⟩:=hp;rw [vV,show ((u:Int)+1).toNat=u+1 by lia] at heb hec pn hlv ⊢;refine hJ _ ?_;clear hJ hB;have hes:=zfr cs u (u+1);walk_at "dd";refine ⟨_,_,rfl,rfl,es.map λ e=>[(e.1:Int),(e.2.1:Int)],?_,λ r hr=>?_,by rw [u5];lia,λ rows' hp hs=>?_⟩
  ·rw [wL,wL];rfl
  ·obtain ⟨e,_,rfl⟩:=vQ.mp hr;simp
  ·have hlen:=hp.length_eq;rw [u5] at hlen;refine zs81 (λ _:D=>True) id (by rw [sizeLine_eq];lia) (λ r hr=>?_) λ bs _ _=>?_
   ·obtain ⟨e,he,rfl⟩:=vQ.mp (hp.mem_iff.mp hr);unfold rowD;walk_at "cs";walk_at "dd";exact ⟨_,rfl,_,rfl,ky e.1 e.2.1,.int e.2.2,rfl,zjl nd he,_,rfl⟩
   ·rw [j8];exact q bs (gE es) R pn
end
theorem zc71 {ps:List Pi} (hi:i < ps.length) (h:m+pl ps i<=n):i∈pb ps m n:=by
 unfold pb;refine zA.mpr ⟨(i,ps[i]),?_,?_⟩
 ·exact wF (i:=i) (by rw [xP,u7 hi];rfl)
 ·have:pl ps i=ps[i].len:=by unfold pl;rw [u7 hi];rfl
  show (if m+ps[i].len<=n then some i else none)=some i;rw [if_pos (by lia)]
theorem ze21 {ps:List Pi} :(pb ps m n).Nodup/\∀ i∈pb ps m n,i < ps.length/\m+pl ps i<=n:=by
 rw [<- zo9];exact zzc ps m n _ (u6 _)
theorem zi81 (h:m<=n) (h0:∀ j,m<=j->j < n->f j=0):su (u3 n) f=su (u3 m) f:=by
 obtain ⟨d,rfl⟩:=Nat.exists_eq_add_of_le h
 induction d with
|zero=>rfl
|succ d ih =>
  rw [<- uaA,w9,zf7,zd1,zl6,h0 (m+d) (by lia) (by lia),ih (by lia) λ j h1 h2=>h0 j h1 (by lia)];lia
structure VOk (fl:List Int) (u:Nat) (R:Nat->Nat->Int) (vs:List Va):Prop where
 n:vs.length=fl.length
 f:∀ (k:Nat) v,vs[k]?=some v->v.fill=fl.getD k 0
 r:∀ (k:Nat) v,vs[k]?=some v->v.fill<=v.room/\∀ j,j<=u->R j k<=v.room
section
variable {n u:Nat} {fl:List Int} {ps:List Pi} {cs:List Int} {calm:Bool} {G R:Nat->Nat->Int} {vs:List Va}
theorem zb71 (hp:∀ i,i < ps.length->1<=pl ps i) {f:Fm} (hg:f.g=G) {k:Nat} (hm:m<=u):(ntOf vs ps u).inn f m k=inG ps G m k:=by
 have e1:∀ m',(su (pb ps m' u) λ i=>if m'+pl ps i=m/\zv9 ps i=k then G m' i else 0)=su (u3 ps.length) λ i=>if m'+pl ps i=m/\zv9 ps i=k then G m' i else 0:=λ m'=>by
  rw [<- zpt _ ze21.1 λ i hi=>(ze21.2 i hi).1];refine zx0 λ i hi=>?_;by_cases c:m'+pl ps i=m/\zv9 ps i=k
  ·rw [if_pos (zc71 (u9.mp hi) (by lia))]
  ·rw [if_neg c];split <;> rfl
 show (su (u3 u) λ m'=>su (pb ps m' u) λ i=>if m'+pl ps i=m/\zv9 ps i=k then f.g m' i else 0)=_;rw [hg,zx0 λ m' _=>e1 m'];unfold inG;exact zi81 hm λ j h1 h2=>su_zero' λ i hi=>if_neg λ z=>by have:=hp i (u9.mp hi);lia
theorem zu81 (g0:∀ m i,0<=G m i) {f:Fm} (hg:f.g=G) {k:Nat}:(ntOf vs ps u).out f m k<=outG ps G m k:=by
 show (if m < u then su (pb ps m u) λ i=>if zl2 ps i=k then f.g m i else 0 else 0)<=_;have nn:∀ i,0<=if zl2 ps i=k then G m i else 0:=λ i=>by split;exact g0 m i;exact wQ 0
 split
 ·rw [hg];exact su_sub' (λ i _=>nn i) ze21.1 λ i hi=>(ze21.2 i hi).1
 ·exact zc51 λ i _=>nn i
theorem zx21 (fr:Frm n u fl ps cs) (pn:Pn u fl ps calm (u+1) G R) (ok:VOk fl u R vs) {c w:Nat->Int} (hw:∀ k,k < fl.length->0<=w k/\w k<=R u k/\w k<=c k):(ntOf vs ps u).Lk [c] ⟨λ k=>fl.getD k 0,R,G,[w]⟩:=by
 have hp:∀ i,i < ps.length->1<=pl ps i:=λ i hi=>by
  unfold pl;rw [u7 hi];exact (fr.pk _ (w6 hi)).2.2.1
 have hN:(ntOf vs ps u).N=fl.length:=ok.n;have at_:∀ k,k < fl.length->∃ v,vs[k]?=some v/\(ntOf vs ps u).fl k=fl.getD k 0/\(ntOf vs ps u).rm k=v.room:=λ k hk=>by
  have hkv:k < vs.length:=by rw [ok.n];exact hk
  have e:vs[k]?=some vs[k]:=u7 hkv;refine ⟨_,e,?_,?_⟩
  ·show ((vs[k]?).map Va.fill).getD 0=_;rw [e];exact ok.f k _ e
  ·show ((vs[k]?).map Va.room).getD 0=_;rw [e];rfl
 have f0:∀ k,k < fl.length->0<=fl.getD k 0:=λ k hk=>by
  have:fl.getD k 0∈fl:=by rw [vS,u7 hk];exact w6 hk
  exact (fr.f0 _ this).1
 have out0:∀ j k,0<=outG ps G j k:=λ j k=>zc51 λ i _=>by split;exact pn.g0 j i;exact wQ 0
 refine ⟨rfl,λ k hk=>?_,λ m k hm hk=>?_,λ m i hm hi=>?_,λ x hx k hk=>?_,λ m k hm hk=>?_⟩
 ·rw [hN] at hk;obtain ⟨v,e,e1,e2⟩:=at_ k hk;rw [e1];exact ⟨f0 k hk,wQ _⟩
 ·rw [hN] at hk;obtain ⟨v,e,e1,e2⟩:=at_ k hk;have hm:m < u:=hm;rw [e2];exact ⟨pn.r0 m k (by lia) hk,(ok.r k v e).2 m (by lia)⟩
 ·have hil:=(ze21.2 i hi).1;refine ⟨pn.g0 m i,?_⟩;show G m i<=zqb ps i m;by_cases z:G m i=0
  ·rw [z];unfold zqb;rw [u7 hil];exact (fr.pk _ (w6 hil)).2.2.2.2.2 m
  ·exact (pn.g m i z).2.2.2.1
 ·rw [hN] at hk;have hx:x=(c,w):=by simpa using hx
  subst hx;exact ⟨(hw k hk).1,(hw k hk).2.2⟩
 ·rw [hN] at hk;have hm:m<=u:=hm;rw [zb71 (G:=G) hp rfl hm];have o1:=zu81 (vs:=vs) (u:=u) (ps:=ps) pn.g0 (f:=⟨λ k=>fl.getD k 0,R,G,[w]⟩) rfl (m:=m) (k:=k);have rr:=pn.r m k (by lia) hk;show _+(if m < u then R m k else su [w] λ t=>t k)<=(if m=0 then fl.getD k 0 else R (m - 1) k)+_;by_cases e:m < u
  ·rw [if_pos e];lia
  ·have em:m=u:=by lia
   subst em;have oz:(ntOf vs ps m).out ⟨λ k=>fl.getD k 0,R,G,[w]⟩ m k=0:=if_neg (wW _);rw [if_neg e,oz,zd1,zl6];have:=(hw k hk).2.1;have:=out0 m k;lia
end
noncomputable def zle:DSp:=λ ds Q=>∃ (ns fl:List Int) (u:Nat) (R:Nat->Nat->Int),ds=[.list (ns.map .int),.list (fl.map .int),.list ((u3 (u+1)).map (rowR fl.length R))]/\fl.length<=12/\u<=20/\∀ vs:List Va,VOk fl u R vs->Q (.list (vs.map Va.d))
def zyb:DSp:=λ ds Q=>∃ i:Int,ds=[.int i]/\Q (.bool true)
section
variable {P:Program} {w:World} {K:Fg} {mg:Str->Option Value} {base:Heap}
theorem zsa:FnScope ["script", "fills", "rows", "vats", "k", "cell", "slack", "room"] ["script", "fills", "rows"] (zi0 zn7):=by walk_at "sc"
theorem zmh (M:Md K mg) (T:TopDef K "_law_vats" zn7) (jM:mg "len"=none) (qW:mg "max"=none) (jH:mg "range"=none) (jG:Def P w K mg base "_law_cell_at" 1 ["script", "k"] (spD K za4)):Def P w K mg base "_law_vats" 2 ["script", "fills", "rows"] (spD K zle):=by
 refine zo3 M T zsa (by walk_at "h") (zjb (by walk_at "i")) (zc3 ?_);walk_at "g";have nd:=zsa.nd;refine ⟨_,_,(zd0 (pset 3 nd (zp1 zg0))
   (zd0 (zs4 PassesOwn.never rfl (zi2 rfl jH (za0 (zq0 (ze1 (K:=K) rfl) rfl jM zh5 (za0 (pv 1) zg0)) zg0)) (pgn 4 nd) (zd0 (pset 5 nd (zo0 jG (rmn hr) rfl (za0 (pv 0) (za0 (za1 (zb1 (K:=K) rfl) zf0 (pv 4)) zg0))))
   (zd0 (pset 6 nd (pix w K hr (zp1 (za0 zf0 (za0 zf0 (za0 (za1 zn1 (za1 zv1 (pv 5) zf0) zf0) (za0 (za1 zn1 (za1 zw2 (pv 5) zf0) zf0) zg0))))) (za1 zn1 (za1 zv1 (pv 5) zf0) zf0)))
   (zd0 (pset 7 nd (zq0 (ziq (K:=K) rfl rfl) rfl qW zru (za0 (za1 (zb1 (K:=K) rfl) (zl9 (sc:=zi0 zn7) (N:=["script", "fills", "rows", "vats", "k", "cell", "slack", "room"]) (own:=["row"]) (ix:=[4]) rfl rfl rfl (by walk_at "csc") (pi_W (K:=K) rfl (pv 2)) (λ _ _ _ _=>⟨(pgn 0 (nds ["row", "k"])),zv5,(pix w K hr (pv 0) (pv 1))⟩)) (zp1 (za0 (pix w K hr (pv 1) (pv 4)) zg0))) zg0)))
   (zj0 (zd2 (zg6 (K:=K) rfl ğa ğb ğc zy1 (pv 3) (za0 (zl1 (za0 (pix w K hr zma (pv 4)) (za0 (za1 (zb1 (K:=K) rfl) (pv 7) (pv 6)) (za0 (pix w K hr (pv 1) (pv 4)) zg0)))) zg0))))))))
   (zj0 (zc1 (pv 3))))),(zm0 (ze3 (RfF.c (zn3 zk0)))
   (zm0 (zv4 (zt6 (zb0 (zn8 zgd (zu0 (zc0 1) zm1)) zk0)) (rgn 4) (zm0 (zh1 (zw0 (zb0 (zh0 0) (zb0 (zl0 zd6 rvi (zc0 4)) zk0))) (rgn 5))
   (zm0 (zh1 (zl0 r_ix (RfE.v (RfF.e (zn3 (zb0 zv0 (zb0 zv0 (zb0 (zl0 zs5 (RfE.v (zl0 zxf (zc0 5) rvi)) rvi) (zb0 (zl0 zs5 (RfE.v (zl0 znj (zc0 5) rvi)) rvi) zk0))))))) (RfE.v (zl0 zs5 (RfE.v (zl0 zxf (zc0 5) rvi)) rvi))) (rgn 6))
   (zm0 (zh1 (zn8 zc61 (zu0 (RfE.v (zl0 zd6 (RfE.v (RfF.e (zx5 (zoy (zc0 2)) (zg2 (i:=0) (n:=1) (by decide)) zp7 (zl0 r_ix (zc0 0) (zc0 1))))) (RfE.v (RfF.e (zn3 (zb0 (zl0 r_ix (zc0 1) (zc0 4)) zk0)))))) zm1)) (rgn 7))
   (zc2 (zbg zia (zp0 3) (zb0 (zo1 (zb0 (zl0 r_ix (RfE.v zxa) (zc0 4)) (zb0 (zl0 zd6 (zc0 7) (zc0 6)) (zb0 (zl0 r_ix (zc0 1) (zc0 4)) zk0)))) zk0)))))))
   (zj9 (i:=3)))),?_⟩
 rintro ds Qd ⟨ns,fl,u,R,rfl,hn,hu,q⟩;walk_at "ds";walk_at "a";walk_at "f";refine ze0 λ J hJ=>?_;refine zi3 λ B hB=>?_;walk_at "dd";rw [u5];unfold rngD;refine ⟨by lia,by lia,?_⟩;rw [vR];refine zf2 (λ i U=>∃ (vs:List Va) (s4 s5 s6 s7:Sl),U=[Sl.sh (v5 (v6 u4 ns)),Sl.sh (v5 (v6 u4 fl)),Sl.sh (v5 (v6 (rowR fl.length R) (u3 (u+1)))),Sl.ow (_4.T.li (vs.map Va.d)),s4,s5,s6,s7]/\vs.length=i/\∀ (k:Nat) v,vs[k]?=some v->v.fill=fl.getD k 0/\v.fill<=v.room/\∀ j,j<=u->R j k<=v.room) ⟨[],_,_,_,_,rfl,rfl,λ k v h=>by simp at h⟩ (λ i kk U hi hp=>?_) λ U hp=>?_
 ·obtain ⟨vs,s4,s5,s6,s7,rfl,hl,hv⟩:=hp;obtain ⟨hi1,hi2⟩:=vZ.mp hi;rw [vV] at hi1;rw [xK] at hi2;subst hi2;walk_at "dd";refine hB _ _ ?_;clear hB;rw [show (0:Int)+(i:Int)=(i:Int) by lia];have af:atI (v6 u4 fl) (i:Int)=some (.int (fl.getD i 0)):=ze6 (by lia) (zbj hi1);refine ze0 λ J2 hJ2=>?_;walk_at "dd";refine ⟨ns,3+i,by rw [show (3:Int)+(i:Int)=((3+i:Nat):Int) by lia],by lia,λ m=>hJ2 _ ?_⟩;clear hJ2;refine ze0 λ J2 hJ2=>?_;walk_at "dd";obtain ⟨sk,hs,s0⟩:∃ sk:Int,atI [u4 0,u4 0,u4 (m / 20 % 5),u4 (m * 48271 % 39999999989)] (m / 5 % 4)=some (.int sk)/\0<=sk:=by
   have:m / 5 % 4=0 \/ m / 5 % 4=1 \/ m / 5 % 4=2 \/ m / 5 % 4=3:=by lia
   rcases this with h|h|h|h <;> rw [h]
   ·exact ⟨0,rfl,by lia⟩
   ·exact ⟨0,rfl,by lia⟩
   ·exact ⟨_,rfl,by lia⟩
   ·exact ⟨_,rfl,by lia⟩
  refine ⟨.inr ⟨by decide,by decide⟩,_,hs,hJ2 _ ?_⟩;clear hJ2;refine ze0 λ J2 hJ2=>?_;walk_at "dd";refine zix (λ j:Nat=>.int (R j i)) (by rw [sizeLine_eq,vV];lia) (λ j hj=>?_) ?_
  ·unfold rowR;walk_at "cs";walk_at "dd";exact ⟨_,ze6 (by lia) (by rw [vR,u8,xM hi1];rfl),rfl⟩
  refine ⟨_,af,by rw [u5,vV];lia,(u3 (u+1)).map (λ j=>R j i)++[fl.getD i 0],?_,by simp,λ M hM hx=>hJ2 _ ?_⟩
  ·rw [show (u3 (u+1)).map (λ j:Nat=>u4 (R j i))++[u4 (fl.getD i 0)]=((u3 (u+1)).map (λ j=>R j i)++[fl.getD i 0]).map u4 by rw [vY,wL];rfl];exact ints_map _
  clear hJ2;have mf:fl.getD i 0<=M:=hx _ (by simp);have mr:∀ j,j<=u->R j i<=M:=λ j hj=>hx _ (vJ.mpr (.inl (vQ.mpr ⟨j,u9.mpr (by lia),rfl⟩)));obtain ⟨ch,hch⟩:∃ ch,atI (xJ "kfcaljbdheig").cps.toList (i:Int)=some ch:=by
   have hl:(xJ "kfcaljbdheig").cps.toList.length=12:=by decide +kernel
   exact ⟨_,ze6 (by lia) (u7 (by rw [vR];lia))⟩
  walk_at "dd";refine ⟨by decide +kernel,ch,hch,_,af,by rw [u5];lia,vs++[⟨⟨#[ch]⟩,M+sk,fl.getD i 0⟩],_,_,_,_,by rw [vY];rfl,by rw [vK,hl];rfl,λ k v hk=>?_⟩;by_cases e:k < vs.length
  ·rw [wN e] at hk;exact hv k v hk
  ·rw [wK (by lia)] at hk;have hk0:k - vs.length=0:=by
    have:=(vZ.mp hk).1;simp at this;lia
   rw [hk0] at hk;have ek:k=i:=by lia
   simp at hk;subst hk;subst ek;exact ⟨rfl,by show fl.getD k 0<=M+sk;lia,λ j hj=>by have:=mr j hj;show R j k<=M+sk;lia⟩
 ·obtain ⟨vs,s4,s5,s6,s7,rfl,hl,hv⟩:=hp;rw [vV] at hl;refine hJ _ ?_;clear hJ hB;walk_at "dd";exact q vs ⟨hl,λ k v h=>(hv k v h).1,λ k v h=>(hv k v h).2⟩
theorem zk9:FnScope ["found"] ["found"] (zi0 zf8):=by walk_at "sc"
theorem zqe (M:Md K mg) (T:TopDef K "_law_whole" zf8) (kt:Kit K) (uU:mg "bool"=none) (vA:mg "int"=none) (jL:mg "isinstance"=none):Def P w K mg base "_law_whole" 1 ["found"] (spD K zyb):=by
 refine zo3 M T zk9 (by walk_at "h") (zjb (by walk_at "i")) (zc3 ?_);walk_at "g";have nd:=zk9.nd;refine ⟨_,_,(zj0 (zc1 (zd81 (zq0 (zz8 (K:=K) rfl) rfl jL zz1 (za0 (pv 0) (za0 (zkc (v:=.ty "int") rfl vA zn81 rfl) zg0))) (zu91 (zm61 (zq0 (zz8 (K:=K) rfl) rfl jL zz1 (za0 (pv 0) (za0 (zkc (v:=.ty "bool") rfl uU zr41 rfl) zg0)))))))),(zg1 (RfE.c (zn01 (zty kt (by simp) (zc0 0)) (zh01 (zty kt (by simp) (zc0 0)))))),?_⟩;rintro ds Qd ⟨i,rfl,q⟩;walk_at "ds";walk_at "dd";exact ⟨λ _=>trivial,λ _=>trivial,q⟩
end
def LeG (ps:List Pi) (n:Nat) (l:Le):Prop:=l.at_ < ps.length/\l.t+pl ps l.at_<=n/\1<=l.am/\l.am<=zqb ps l.at_ l.t
def lexN (a b:Le):Prop:=a.t < b.t \/ (a.t=b.t/\a.at_ < b.at_)
structure PlanOk (ps:List Pi) (n:Nat) (L:List Le):Prop where
 g:∀ l∈L,LeG ps n l
 so:L.Pairwise lexN
 len:L.length<=2000
noncomputable def zp9:DSp:=λ ds Q=>∃ (ps:List Pi) (n:Nat) (L:List Le),ds=[.list (L.map Le.d),.list (ps.map Pi.d),.int (n:Int)]/\ps.length<=24/\(∀ p∈ps,p.g.ok)/\PlanOk ps n L/\Q (.bool true)
section
variable {P:Program} {w:World} {K:Fg} {mg:Str->Option Value} {base:Heap}
theorem zv7:FnScope ["plan", "pipes", "until", "last", "letting", "moment", "pipe", "amount"] ["plan", "pipes", "until"] (zi0 zp5):=by walk_at "sc"
theorem zrb (M:Md K mg) (T:TopDef K "_law_is_plan" zp5) (kt:Kit K) (jL:mg "isinstance"=none) (jM:mg "len"=none) (jW:mg "list"=none) (qK:mg "tuple"=none) (jS:Def P w K mg base "_law_wide_at" 1 ["gate", "moment"] (spD K za7)) (kE:Def P w K mg base "_law_whole" 1 ["found"] (spD K zyb)):Def P w K mg base "_law_is_plan" 2 ["plan", "pipes", "until"] (spD K zp9):=by
 refine zo3 M T zv7 (by walk_at "h") (zjb (by walk_at "i")) (zc3 ?_);walk_at "g";have nd:=zv7.nd;refine ⟨_,_,(zd0 (zh8 (zjd (zw4 (K:=K) rfl (zq0 (zz8 (K:=K) rfl) rfl jL zz1 (za0 (pv 0) (za0 (zkc (v:=.ty "list") rfl jW zna rfl) zg0))) (λ _=>rfl))) (zj0 (zc1 zlk)) zk1)
   (zd0 (pset 3 nd (zl1 (za0 (zjd1 zv71 zf0) (za0 zf0 zg0))))
   (zd0 (zs4 PassesOwn.never rfl (pi_W (K:=K) rfl (pv 0)) (pgn 4 nd) (zd0 (zh8 (PW.pt (zwg (zjd (zw4 (K:=K) rfl (zq0 (zz8 (K:=K) rfl) rfl jL zz1 (za0 (pv 4) (za0 (zkc (v:=.ty "tuple") rfl qK zjn rfl) zg0))) (λ _=>rfl))) (zbe (zt0 (zik (K:=K) rfl (Room.units hr)) (zq0 (ze1 (K:=K) rfl) rfl jM zh5 (za0 (pv 4) zg0)) zf0 (zi1 _))))) (zj0 (zc1 zlk)) zk1)
   (zd0 (ztn (pv 4) (zb6 (K:=K) (n:=3) rfl rfl (zz0 (pgn 5 nd) (zz0 (pgn 6 nd) (zz0 (pgn 7 nd) zu5)))))
   (zd0 (zh8 (PW.pt (zwg (zjd (zw4 (K:=K) rfl (zo0 kE (rmn hr) rfl (za0 (pv 5) zg0)) (λ _=>rfl))) (zwg (zjd (zw4 (K:=K) rfl (zo0 kE (rmn hr) rfl (za0 (pv 6) zg0)) (λ _=>rfl))) (zbe (zjd (zw4 (K:=K) rfl (zo0 kE (rmn hr) rfl (za0 (pv 7) zg0)) (λ _=>rfl))))))) (zj0 (zc1 zlk)) zk1)
   (zd0 (zh8 (PW.pt (zwg (zt0 ztt (pv 6) zf0 (zi1 _)) (zwg (zt0 zuc1 (pv 6) (zq0 (ze1 (K:=K) rfl) rfl jM zh5 (za0 (pv 1) zg0)) (zi1 _)) (zwg (zt0 ztt (pv 5) zf0 (zi1 _)) (zbe (zt0 (zp61 (Room.units hr)) (zl1 (za0 (pv 5) (za0 (pv 6) zg0))) (pv 3) (zi1 _))))))) (zj0 (zc1 zlk)) zk1)
   (zd0 (zh8 (PW.pt (zwg (zt0 zcx (za1 (zb1 (K:=K) rfl) (pv 5) (pix w K hr (pix w K hr (pv 1) (pv 6)) zf0)) (pv 2) (zi1 _)) (zbe (zt0 ztt (pv 7) zf0 (zi1 _))))) (zj0 (zc1 zlk)) zk1)
   (zd0 (zh8 (zt0 zcx (pv 7) (zo0 jS (rmn hr) rfl (za0 (pix w K hr (pix w K hr (pv 1) (pv 6)) zf0) (za0 (pv 5) zg0))) (zi1 _)) (zj0 (zc1 zlk)) zk1)
   (zj0 (pset 3 nd (zl1 (za0 (pv 5) (za0 (pv 6) zg0))))))))))))
   (zj0 (zc1 zlk))))),(zm0 (zi8 (zde (ze9 (RfE.v (zty kt (by simp) (zc0 0))))) (zg1 (RfE.c zkk)) zj1)
   (zm0 (zh1 (zo1 (zb0 (zo91 zv0) (zb0 zv0 zk0))) (rgn 3))
   (zm0 (zv4 (zeq (zh0 0)) (rgn 4) (zm0 (zi8 (zyg (zde (ze9 (RfE.v (zty kt (by simp) (zc0 4))))) (zs0 (zr2 q_ne (RfV.h (RfE.v (zn8 zgd (zu0 (zc0 4) zm1)))) (RfV.h rvi)))) (zg1 (RfE.c zkk)) zj1)
   (zm0 (zh1 (zh0 4) (zu9 (zy0 (rgn 5) (zy0 (rgn 6) (zy0 (rgn 7) zz5)))))
   (zm0 (zi8 (zyg (zde (ze9 (RfE.v (zw0 (zb0 (zh0 5) zk0))))) (zyg (zde (ze9 (RfE.v (zw0 (zb0 (zh0 6) zk0))))) (zde (ze9 (RfE.v (zw0 (zb0 (zh0 7) zk0))))))) (zg1 (RfE.c zkk)) zj1)
   (zm0 (zi8 (zyg (zs0 (zl0 r_lt (zc0 6) rvi)) (zyg (zs0 (zl0 r_ge (zc0 6) (RfE.v (zn8 zgd (zu0 (zc0 1) zm1))))) (zyg (zs0 (zl0 r_lt (zc0 5) rvi)) (zs0 (zl0 zfd1 (RfE.v (zo1 (zb0 (zh0 5) (zb0 (zh0 6) zk0)))) (zc0 3)))))) (zg1 (RfE.c zkk)) zj1)
   (zm0 (zi8 (zyg (zs0 (zl0 r_gt (RfE.v (zl0 zd6 (zc0 5) (RfE.v (zl0 r_ix (RfE.v (zl0 r_ix (zc0 1) (zc0 6))) rvi)))) (zc0 2))) (zs0 (zl0 r_lt (zc0 7) rvi))) (zg1 (RfE.c zkk)) zj1)
   (zm0 (zi8 (zs0 (zl0 r_gt (zc0 7) (RfE.v (zw0 (zb0 (zl0 r_ix (RfE.v (zl0 r_ix (zc0 1) (zc0 6))) rvi) (zb0 (zh0 5) zk0)))))) (zg1 (RfE.c zkk)) zj1)
   (zh1 (zo1 (zb0 (zh0 5) (zb0 (zh0 6) zk0))) (rgn 3)))))))))
   (zg1 (RfE.c zkk))))),?_⟩
 rintro ds Qd ⟨ps,n,L,rfl,hp,hg,ok,q⟩;walk_at "ds";walk_at "a";refine ⟨λ _=>trivial,hJ _ ?_⟩;walk_at "c";walk_at "f";refine ze0 λ J hJ=>?_;refine zi3 λ B hB=>?_;walk_at "dd";refine zf2 (λ i U=>∃ (a b:Int) (s4 s5 s6 s7:Sl),U=[.sh (.list (L.map Le.d)),.sh (.list (ps.map Pi.d)),.sh (.int (n:Int)),.sh (.tuple [.int a,.int b]),s4,s5,s6,s7]/\∀ l∈L.drop i,a < (l.t:Int) \/ (a=(l.t:Int)/\b < (l.at_:Int))) ⟨-1,0,.un,.un,.un,.un,rfl,λ l _=>.inl (by lia)⟩ ?_ ?_
 ·rintro i l U hl ⟨a,b,s4,s5,s6,s7,rfl,hd⟩;obtain ⟨g1,g2,g3,g4⟩:=ok.g l (wF hl);have hi:=(vZ.mp hl).1;have ep:ps[l.at_]?=some ps[l.at_]:=u7 g1;have gp:atI (ps.map Pi.d) (l.at_:Int)=some (.tuple [.int (ps[l.at_].u:Int),.int (ps[l.at_].v:Int),.int (ps[l.at_].len:Int),.int ps[l.at_].pr,ps[l.at_].g.d]):=ze6 (by lia) (by rw [vR,u8,ep];rfl);have e1:pl ps l.at_=ps[l.at_].len:=by unfold pl;rw [ep];rfl
  have e2:zqb ps l.at_ l.t=ps[l.at_].g.at l.t:=by unfold zqb;rw [ep];rfl
  have hx:=hd l (by rw [ua3 hi];have:=(vZ.mp hl).2;rw [this];simp);rw [e1] at g2;rw [e2] at g4;rw [show Le.d l=wV [.int (l.t:Int),.int (l.at_:Int),.int l.am] from rfl];walk_at "dd";refine hB _ _ ?_;clear hB hJ;walk_at "a";refine ⟨λ _=>trivial,?_⟩;rw [if_neg (by decide)];walk_at "b";walk_at "b";refine ⟨_,rfl,_,rfl,_,rfl,hJ _ ?_⟩;walk_at "c";rw [if_neg (by lia),if_neg (by rw [u5];lia),if_neg (by lia),if_neg (by lia)];walk_at "b";refine ⟨_,gp,?_⟩;walk_at "dd";walk_at "k";rw [if_neg (by lia),if_neg (by lia)];walk_at "b";refine ⟨_,gp,?_⟩;walk_at "dd";refine ⟨_,rfl,_,l.t,rfl,hg _ (w6 g1),?_⟩;walk_at "dd";rw [if_neg (by lia)];walk_at "f";walk_at "dd";refine ⟨_,_,_,_,_,_,rfl,λ l' hl'=>?_⟩;have so:=ok.so;rw [<- yM i L] at so;have so:=(uaD.mp so).2.1;rw [ua3 hi,(vZ.mp hl).2] at so;rcases (j6.mp so).1 l' hl' with z|z
  ·exact .inl (by lia)
  ·exact .inr (by lia)
 ·rintro U ⟨a,b,s4,s5,s6,s7,rfl,_⟩;walk_at "f";walk_at "dd";exact q
end
theorem zkc1 (G:Nat->Nat->Int) (m:Nat) (φ:Le->Int):∀ is:List Nat,su (pmL G m is) φ=su is λ i=>if 0 < G m i then φ ⟨m,i,G m i⟩ else 0
|[]=>rfl
|i :: r=>by
  have ih:=zkc1 G m φ r;unfold pmL at ih ⊢;rw [xF,zd1];by_cases h:0 < G m i
  ·simp only [if_pos h];rw [zd1,ih]
  ·simp only [if_neg h];rw [ih];lia
theorem zrh (ps:List Pi) (n:Nat) (G:Nat->Nat->Int) (φ:Le->Int):∀ k,su (zdc ps n G k) φ=su (u3 k) λ m=>su (pb ps m n) λ i=>if 0 < G m i then φ ⟨m,i,G m i⟩ else 0
|0=>rfl
|k+1=>by rw [zt8,zf7,zrh ps n G φ k,w9,zf7,zd1,zl6,zkc1];lia
def inL (ps:List Pi) (L:List Le) (m k:Nat):Int:=su L λ l=>if l.t+pl ps l.at_=m/\zv9 ps l.at_=k then l.am else 0
def outL (ps:List Pi) (L:List Le) (m k:Nat):Int:=su L λ l=>if l.t=m/\zl2 ps l.at_=k then l.am else 0
section
variable {vs:List Va} {ps:List Pi} {ws:List Int} {n:Nat} {f:Fm} {M:Int}
theorem zqw (g0:∀ m i,m < n->i∈pb ps m n->0<=f.g m i) (m k:Nat):inL ps (zdc ps n f.g n) m k=(ntOf vs ps n).inn f m k:=by
 unfold inL;rw [zrh];show _=su (u3 n) λ m'=>su (pb ps m' n) λ i=>if m'+pl ps i=m/\zv9 ps i=k then f.g m' i else 0
 refine zx0 λ m' hm=>zx0 λ i hi=>?_;by_cases h:0 < f.g m' i
 ·rw [if_pos h]
 ·have:=g0 m' i (u9.mp hm) hi;rw [if_neg h];split <;> lia
theorem zuq (g0:∀ m i,m < n->i∈pb ps m n->0<=f.g m i) (m k:Nat):outL ps (zdc ps n f.g n) m k=(ntOf vs ps n).out f m k:=by
 unfold outL;rw [zrh];have e:∀ m'∈u3 n,(su (pb ps m' n) λ i=>if 0 < f.g m' i then (if m'=m/\zl2 ps i=k then f.g m' i else 0) else 0)=if m'=m then su (pb ps m' n) (λ i=>if zl2 ps i=k then f.g m' i else 0) else 0:=λ m' hm=>by
  by_cases z:m'=m
  ·rw [if_pos z];refine zx0 λ i hi=>?_;have:=g0 m' i (u9.mp hm) hi;by_cases h:0 < f.g m' i
   ·rw [if_pos h];by_cases w:zl2 ps i=k
    ·rw [if_pos ⟨z,w⟩,if_pos w]
    ·rw [if_neg (λ q=>w q.2),if_neg w]
   ·rw [if_neg h];split <;> lia
  ·rw [if_neg z];exact su_zero' λ i _=>by rw [if_neg (λ q:m'=m/\_=>z q.1)];split <;> rfl
 rw [show (su (u3 n) λ m'=>su (pb ps m' n) λ i=>if 0 < f.g m' i then (if (⟨m',i,f.g m' i⟩:Le).t=m/\zl2 ps (⟨m',i,f.g m' i⟩:Le).at_=k then (⟨m',i,f.g m' i⟩:Le).am else 0) else 0)=_ from zx0 e];show _=if m < n then su (pb ps m n) (λ i=>if zl2 ps i=k then f.g m i else 0) else 0
 by_cases h:m < n
 ·rw [if_pos h];exact zud (λ m'=>su (pb ps m' n) λ i=>if zl2 ps i=k then f.g m' i else 0) h
 ·rw [if_neg h];exact su_zero' λ m' hm=>if_neg (by have:=u9.mp hm;lia)
theorem zfs (ps:List Pi) (m n:Nat):∀ j,j<=ps.length->(pbJ ps m n j).Pairwise (· < ·)
|0,_=>by simp [pbJ]
|j+1,h=>by
  have e:ps[j]?=some ps[j]:=u7 (by lia);rw [zpl e];refine uaD.mpr ⟨zfs ps m n j (by lia),by split <;> simp,λ a ha b hb=>?_⟩;have:=((zzc ps m n j (by lia)).2 a ha).1;split at hb
  ·have:=yZ.mp hb;lia
  ·simp at hb
theorem ztz {is:List Nat} {l:Le} (h:l∈pmL G m is):∃ i∈is,0 < G m i/\l=⟨m,i,G m i⟩:=by
 obtain ⟨i,hi,e⟩:=zA.mp h;by_cases z:0 < G m i
 ·rw [if_pos z] at e;exact ⟨i,hi,z,(wI.inj e).symm⟩
 ·rw [if_neg z] at e;cases e
theorem zwn {k:Nat} {l:Le} (h:l∈zdc ps n G k):∃ m i,m < k/\i∈pb ps m n/\0 < G m i/\l=⟨m,i,G m i⟩:=by
 obtain ⟨x,hx,hl⟩:=List.mem_flatten.mp h;obtain ⟨m,hm,rfl⟩:=vQ.mp hx;obtain ⟨i,hi,z,e⟩:=ztz hl;exact ⟨m,i,u9.mp hm,hi,z,e⟩
theorem zdt (G:Nat->Nat->Int):∀ k,(zdc ps n G k).Pairwise lexN
|0=>by simp [zdc]
|k+1=>by
  rw [zt8];refine uaD.mpr ⟨zdt G k,?_,λ a ha b hb=>?_⟩
  ·have:=zfs ps k n _ (u6 _);rw [zo9] at this;unfold pmL;refine List.Pairwise.filterMap _ (λ a b hab x hx y hy=>?_) this;by_cases z:0 < G k a
   ·by_cases w:0 < G k b
    ·rw [if_pos z] at hx;rw [if_pos w] at hy;cases hx;cases hy;exact .inr ⟨rfl,hab⟩
    ·rw [if_neg w] at hy;cases hy
   ·rw [if_neg z] at hx;cases hx
  ·obtain ⟨m,i,hm,_,_,rfl⟩:=zwn ha;obtain ⟨i',_,_,rfl⟩:=ztz hb;exact .inl hm
structure Lies (vs:List Va) (ps:List Pi) (n:Nat) (L:List Le) (h:Nat->Nat->Int):Prop where
 st:∀ m k,m<=n->k < vs.length->h m k=(if m=0 then (ntOf vs ps n).fl k else h (m - 1) k)+inL ps L m k - outL ps L m k
 bd:∀ m k,m<=n->k < vs.length->0<=h m k/\h m k<=(ntOf vs ps n).rm k
theorem Met.lies (h24:ps.length<=24) (hn:n<=60) (mt:Met vs ps ws n M f) (e:M=ws.sum):∃ h,PlanOk ps n (zdc ps n f.g n)/\Lies vs ps n (zdc ps n f.g n) h/\∀ k,k < vs.length->cW ws k<=h n k:=by
 obtain ⟨t,s,ht,hw⟩:=mt.wn e;have g0:∀ m i,m < n->i∈pb ps m n->0<=f.g m i/\f.g m i<=zqb ps i m:=λ m i hm hi=>mt.fl.g m i hm hi;have sb:∀ k,k < vs.length->(0<=t k/\t k<=cW ws k)/\0<=s k/\s k<=cR vs ws k:=λ k hk=>⟨mt.fl.s (cW ws,t) (by rw [ht];simp) k hk,mt.fl.s (cR vs ws,s) (by rw [ht];simp) k hk⟩
 have st:∀ k,(su f.t λ t=>t k)=t k+s k:=λ k=>by rw [ht,zd1,zd1,zl6];lia
 refine ⟨λ m k=>if m < n then f.r m k else t k+s k,⟨λ l hl=>?_,zdt _ _,?_⟩,⟨λ m k hm hk=>?_,λ m k hm hk=>?_⟩,λ k hk=>?_⟩
 ·obtain ⟨m,i,hm,hi,z,rfl⟩:=zwn hl;have hb:i < ps.length/\m+pl ps i<=n:=by rw [<- zo9] at hi;exact (zzc ps m n _ (u6 _)).2 i hi
  exact ⟨hb.1,hb.2,by show 1<=f.g m i;lia,(g0 m i hm hi).2⟩
 ·have:=zrd ps n f.g h24 n;lia
 ·rw [zqw (vs:=vs) λ m i hm hi=>(g0 m i hm hi).1,zuq (vs:=vs) λ m i hm hi=>(g0 m i hm hi).1];have b:=mt.fl.b m k hm hk;rw [st] at b;have b:(if m=0 then f.a k else f.r (m - 1) k)+(ntOf vs ps n).inn f m k=(ntOf vs ps n).out f m k+(if m < n then f.r m k else t k+s k):=b;by_cases z:m=0
  ·rw [if_pos z] at b ⊢;rw [mt.src k hk] at b;lia
  ·rw [if_neg z] at b ⊢;rw [if_pos (show m - 1 < n by lia)];lia
 ·by_cases z:m < n
  ·simp only [if_pos z];exact mt.fl.r m k z hk
  ·simp only [if_neg z];have:=sb k hk;have er:cR vs ws k=(ntOf vs ps n).rm k - cW ws k:=rfl;lia
 ·simp only [wW,if_false];have:=sb k hk;have:=hw k hk;lia
end
def hvD (N:Nat) (f:Nat->Int):List D:=(u3 N).map λ k=>u4 (f k)
theorem zbf (N:Nat) (f:Nat->Int):(hvD N f).length=N:=by simp [hvD]
theorem zgh (f:Nat->Int) (h:g < N):(hvD N f)[g]?=some (.int (f g)):=by
 unfold hvD;rw [u8,xM h];rfl
theorem zx71 (f:Nat->Int) (h:g < N):atI (hvD N f) (g:Int)=some (.int (f g)):=ze6 (by lia) (by rw [vR];exact zgh f h)
theorem zua {g:Nat->Int} (h:∀ k,k < N->f k=g k):hvD N f=hvD N g:=wZ λ k hk=>by rw [h k (u9.mp hk)]
theorem zm11 (f:Nat->Int) (x:Int) (h:g < N):(hvD N f).set g (.int x)=hvD N λ k=>if k=g then x else f k:=by
 apply xV;intro j;rw [xE,zbf];by_cases e:g=j
 ·subst e;rw [if_pos rfl,if_pos h,zgh _ h,if_pos rfl]
 ·rw [if_neg e];by_cases hj:j < N
  ·rw [zgh _ hj,zgh _ hj,if_neg (λ z=>e z.symm)]
  ·rw [v9 (by rw [zbf];lia),v9 (by rw [zbf];lia)]
theorem zfu (vs:List Va) (ps:List Pi) (n:Nat):vs.map (λ v=>u4 v.fill)=hvD vs.length (ntOf vs ps n).fl:=by
 apply xV;intro j;rw [u8];by_cases hj:j < vs.length
 ·rw [zgh _ hj];show _=some (u4 (((vs[j]?).map Va.fill).getD 0));rw [u7 hj];rfl
 ·rw [v9 (by lia),v9 (by rw [zbf];lia)];rfl
def inT (ps:List Pi) (m k:Nat) (l:Le):Int:=if l.t+pl ps l.at_=m/\zv9 ps l.at_=k then l.am else 0
def outT (ps:List Pi) (m k:Nat) (l:Le):Int:=if l.t=m/\zl2 ps l.at_=k then l.am else 0
theorem zfj {L:List Le} {l:Le} (φ:Le->Int) (h:L[i]?=some l):su (L.take (i+1)) φ=su (L.take i) φ+φ l:=by
 rw [uaC,h,zf7];show _+su [l] φ=_;rw [zd1,zl6];lia
noncomputable def zwe:DSp:=λ ds Q=>∃ (vs:List Va) (ps:List Pi) (n:Nat) (L:List Le) (h:Nat->Nat->Int),ds=[dY vs ps,.list (L.map Le.d),.int (n:Int)]/\vs.length<=12/\ps.length<=24/\n<=60/\(∀ p∈ps,PiOk vs.length p)/\PlanOk ps n L/\Lies vs ps n L h/\Q (.list (hvD vs.length (h n)))
section
variable {P:Program} {w:World} {K:Fg} {mg:Str->Option Value} {base:Heap}
theorem zkb:FnScope ["yard", "plan", "until", "held", "now", "moment", "pipe", "amount", "k"] ["yard", "plan", "until"] (zi0 zo7):=by walk_at "sc"
theorem zbh (M:Md K mg) (T:TopDef K "_law_lies" zo7) (jM:mg "len"=none) (jH:mg "range"=none) (qE:Def P w K mg base "_law_is_plan" 2 ["plan", "pipes", "until"] (spD K zp9)):Def P w K mg base "_law_lies" 3 ["yard", "plan", "until"] (spD K zwe):=by
 refine zo3 M T zkb (by walk_at "h") (zjb (by walk_at "i")) (zc3 ?_);walk_at "g";have nd:=zkb.nd;refine ⟨_,_,(zd0 (zh8 (zjd (zw4 (K:=K) rfl (zo0 qE (rmn hr) rfl (za0 (pv 1) (za0 (pix w K hr (pv 0) zf0) (za0 (pv 2) zg0)))) (λ _=>rfl))) (zj0 (zc1 (zp1 zg0))) zk1)
   (zd0 (zy4 (i:=3) (sc:=zi0 zo7) (N:=["yard", "plan", "until", "held", "now", "moment", "pipe", "amount", "k"]) (own:=["vat"]) (ix:=[]) rfl rfl rfl (by walk_at "csc") nd rfl rfl (pi_W (K:=K) rfl (pix w K hr (pv 0) zf0)) (λ _ _ _ _=>⟨(pgn 0 (nds ["vat"])),zv5,(pix w K hr (pv 0) zf0)⟩))
   (zd0 (zs4 PassesOwn.never rfl (zi2 rfl jH (za0 (za1 (zb1 (K:=K) rfl) (pv 2) zf0) zg0)) (pgn 4 nd) (zd0 (zs4 PassesOwn.never rfl (pi_W (K:=K) rfl (pv 1)) (zb6 (K:=K) (n:=3) rfl rfl (zz0 (pgn 5 nd) (zz0 (pgn 6 nd) (zz0 (pgn 7 nd) zu5)))) (zj0 (zh8 (zt0 (zl5 (K:=K) rfl (Room.units hr)) (za1 (zb1 (K:=K) rfl) (pv 5) (pix w K hr (pix w K hr (pix w K hr (pv 0) zf0) (pv 6)) zf0)) (pv 4) (zi1 _)) (zj0 (zac (pv 3) (pix w K hr (pix w K hr (pix w K hr (pv 0) zf0) (pv 6)) zf0) (zky (K:=K) (Room.units hr) rfl) (pv 7) zwl (zas (Room.units hr)))) zk1)))
   (zd0 (zs4 PassesOwn.never rfl (pi_W (K:=K) rfl (pv 1)) (zb6 (K:=K) (n:=3) rfl rfl (zz0 (pgn 5 nd) (zz0 (pgn 6 nd) (zz0 (pgn 7 nd) zu5)))) (zj0 (zh8 (zt0 (zl5 (K:=K) rfl (Room.units hr)) (pv 5) (pv 4) (zi1 _)) (zj0 (zac (pv 3) (pix w K hr (pix w K hr (pix w K hr (pv 0) zf0) (pv 6)) zf0) (zky (K:=K) (Room.units hr) rfl) (pv 7) zuw (zas (Room.units hr)))) zk1)))
   (zj0 (zs4 PassesOwn.never rfl (zi2 rfl jH (za0 (zq0 (ze1 (K:=K) rfl) rfl jM zh5 (za0 (pv 3) zg0)) zg0)) (pgn 8 nd) (zj0 (zh8 (PW.pt (zwg (zt0 ztt (pix w K hr (pv 3) (pv 8)) zf0 (zi1 _)) (zbe (zt0 zcx (pix w K hr (pv 3) (pv 8)) (pix w K hr (pix w K hr (pix w K hr (pv 0) zf0) (pv 8)) zf0) (zi1 _))))) (zj0 (zc1 (zp1 zg0))) zk1)))))))
   (zj0 (zc1 (pv 3)))))),(zm0 (zi8 (zde (ze9 (RfE.v (zw0 (zb0 (zh0 1) (zb0 (zl0 r_ix (zc0 0) rvi) (zb0 (zh0 2) zk0))))))) (zg1 (RfF.c (zn3 zk0))) zj1)
   (zm0 (ze3 (RfF.c (zx5 (zoy (RfE.v (zl0 r_ix (zc0 0) rvi))) (zg2 (i:=0) (n:=1) (by decide)) zp7 (zl0 r_ix (zc0 0) rvi))))
   (zm0 (zv4 (zt6 (zb0 (zl0 zd6 (zc0 2) rvi) zk0)) (rgn 4) (zm0 (zv4 (zeq (zh0 1)) (zu9 (zy0 (rgn 5) (zy0 (rgn 6) (zy0 (rgn 7) zz5)))) (zi8 (zs0 (zr2 q_eq (RfV.h (RfE.v (zl0 zd6 (zc0 5) (RfE.v (zl0 r_ix (RfE.v (zl0 r_ix (RfE.v (zl0 r_ix (zc0 0) rvi)) (zc0 6))) rvi))))) (RfV.h (zc0 4)))) (zbc (zp0 3) (zl0 r_ix (RfE.v (zl0 r_ix (RfE.v (zl0 r_ix (zc0 0) rvi)) (zc0 6))) rvi) (zh0 7)) zj1))
   (zm0 (zv4 (zeq (zh0 1)) (zu9 (zy0 (rgn 5) (zy0 (rgn 6) (zy0 (rgn 7) zz5)))) (zi8 (zs0 (zr2 q_eq (RfV.h (zc0 5)) (RfV.h (zc0 4)))) (zbc (zp0 3) (zl0 r_ix (RfE.v (zl0 r_ix (RfE.v (zl0 r_ix (zc0 0) rvi)) (zc0 6))) rvi) (zh0 7)) zj1))
   (zv4 (zt6 (zb0 (zn8 zgd (zu0 (zc0 3) zm1)) zk0)) (rgn 8) (zi8 (zyg (zs0 (zl0 r_lt (RfE.v (zl0 r_ix (zc0 3) (zc0 8))) rvi)) (zs0 (zl0 r_gt (RfE.v (zl0 r_ix (zc0 3) (zc0 8))) (RfE.v (zl0 r_ix (RfE.v (zl0 r_ix (RfE.v (zl0 r_ix (zc0 0) rvi)) (zc0 8))) rvi))))) (zg1 (RfF.c (zn3 zk0))) zj1)))))
   (zj9 (i:=3))))),?_⟩
 rintro ds Qd ⟨vs,ps,n,L,h,rfl,h12,h24,hn,po,ok,li,q⟩;have pgp:∀ l∈L,∃ p,ps[l.at_]?=some p/\p.u < vs.length/\p.v < vs.length/\atI (ps.map Pi.d) (l.at_:Int)=some (.tuple [.int (p.u:Int),.int (p.v:Int),.int (p.len:Int),.int p.pr,p.g.d])/\pl ps l.at_=p.len/\zv9 ps l.at_=p.v/\zl2 ps l.at_=p.u:=λ l hl=>by
  have g1:=(ok.g l hl).1;have ep:ps[l.at_]?=some ps[l.at_]:=u7 g1;obtain ⟨o1,o2,_⟩:=po _ (w6 g1);exact ⟨_,ep,o1,o2,ze6 (by lia) (by rw [vR,u8,ep];rfl),by unfold pl;rw [ep];rfl,by unfold zv9;rw [ep];rfl,by unfold zl2;rw [ep];rfl⟩
 have lenL:=ok.len;unfold dY;walk_at "ds";walk_at "a";refine ⟨_,rfl,ps,n,L,rfl,h24,λ p hp=>(po p hp).2.2.2.2.1,ok,?_⟩;walk_at "dd";walk_at "b";walk_at "k";refine zix (λ v:Va=>.int v.fill) (by rw [sizeLine_eq];lia) (λ v hv=>?_) (hJ _ ?_)
 ·unfold Va.d;walk_at "cs";walk_at "dd";exact ⟨_,rfl,rfl⟩
 clear hJ;rw [zfu vs ps n];refine ze0 λ J hJ=>?_;refine zi3 λ B hB=>?_;walk_at "dd";unfold rngD;refine ⟨by lia,by lia,?_⟩;let pre:Nat->Nat->Int:=λ t k=>if t=0 then (ntOf vs ps n).fl k else h (t - 1) k
 let st:Nat->(Nat->Int)->Sl->Sl->Sl->Sl->DSt:=λ t f s5 s6 s7 s8=>[.sh (.tuple [.list (vs.map Va.d),.list (ps.map Pi.d)]),.sh (.list (L.map Le.d)),.sh (.int (n:Int)),.ow (.li (hvD vs.length f)),.sh (.int (t:Int)),s5,s6,s7,s8]
 refine zf2 (λ t U=>∃ s4 s5 s6 s7 s8:Sl,U=[.sh (.tuple [.list (vs.map Va.d),.list (ps.map Pi.d)]),.sh (.list (L.map Le.d)),.sh (.int (n:Int)),.ow (.li (hvD vs.length (pre t))),s4,s5,s6,s7,s8]) ⟨_,_,_,_,_,rfl⟩ ?_ ?_
 ·rintro t t' U ht ⟨s4,s5,s6,s7,s8,rfl⟩;obtain ⟨ht1,ht2⟩:=vZ.mp ht;rw [vV] at ht1;rw [xK] at ht2;subst ht2;have htn:t<=n:=by lia
  walk_at "dd";refine hB _ _ ?_;clear hB hJ;rw [show (0:Int)+(t:Int)=(t:Int) by lia];refine ze0 λ J hJ=>?_;refine zi3 λ B hB=>?_;walk_at "dd";refine zf2 (λ i U=>∃ s5 s6 s7:Sl,U=st t (λ k=>pre t k+su (L.take i) (inT ps t k)) s5 s6 s7 s8) ⟨s5,s6,s7,?_⟩ ?_ ?_
  ·simp only [st,y3,zl6,yQ]
  ·rintro i l U hl ⟨s5,s6,s7,rfl⟩;obtain ⟨p,ep,pu,pv',gp,e1,e2,e3⟩:=pgp l (wF hl);rw [show Le.d l=wV [.int (l.t:Int),.int (l.at_:Int),.int l.am] from rfl];simp only [st];walk_at "dd";refine hB _ _ ?_;clear hB hJ;walk_at "dd";walk_at "k";refine ⟨_,gp,?_⟩;walk_at "dd";walk_at "k";refine two (λ z=>?_) λ z=>?_
   ·walk_at "k";refine ⟨_,gp,?_⟩;walk_at "dd";walk_at "k";refine ⟨by lia,.int _,by rw [vR];exact zgh _ pv',p.v,zlp (by rw [zbf];exact pv'),?_⟩;rw [zm11 _ _ pv'];have e:hvD vs.length (λ k=>pre t k+su (L.take (i+1)) (inT ps t k))=hvD vs.length λ k=>if k=p.v then (pre t p.v+su (L.take i) (inT ps t p.v))+l.am else pre t k+su (L.take i) (inT ps t k):=zua λ k hk=>by
     rw [zfj _ hl];unfold inT;by_cases w:k=p.v
     ·subst w;rw [if_pos ⟨by lia,e2⟩,if_pos rfl];lia
     ·rw [if_neg (λ q=>w (by rw [<- q.2,e2])),if_neg w];lia
    rw [e];exact ⟨_,_,_,rfl⟩
   ·have e:hvD vs.length (λ k=>pre t k+su (L.take (i+1)) (inT ps t k))=hvD vs.length λ k=>pre t k+su (L.take i) (inT ps t k):=zua λ k hk=>by
     rw [zfj _ hl];unfold inT;rw [if_neg (λ q=>z (by rw [e1] at q;lia))];lia
    rw [e];exact ⟨_,_,_,rfl⟩
  rintro U ⟨s5,s6,s7,rfl⟩;refine hJ _ ?_;clear hJ hB;simp only [st,xA];refine ze0 λ J hJ=>?_;refine zi3 λ B hB=>?_;walk_at "dd";refine zf2 (λ i U=>∃ s5 s6 s7:Sl,U=st t (λ k=>pre t k+inL ps L t k - su (L.take i) (outT ps t k)) s5 s6 s7 s8) ⟨s5,s6,s7,?_⟩ ?_ ?_
  ·simp only [st,y3,zl6,Int.sub_zero];rfl
  ·rintro i l U hl ⟨s5,s6,s7,rfl⟩;obtain ⟨p,ep,pu,pv',gp,e1,e2,e3⟩:=pgp l (wF hl);rw [show Le.d l=wV [.int (l.t:Int),.int (l.at_:Int),.int l.am] from rfl];simp only [st];walk_at "dd";refine hB _ _ ?_;clear hB hJ;walk_at "dd";refine two (λ z=>?_) λ z=>?_
   ·walk_at "k";refine ⟨_,gp,?_⟩;walk_at "dd";walk_at "k";refine ⟨by lia,.int _,by rw [vR];exact zgh _ pu,p.u,zlp (by rw [zbf];exact pu),?_⟩;rw [zm11 _ _ pu];have e:hvD vs.length (λ k=>pre t k+inL ps L t k - su (L.take (i+1)) (outT ps t k))=hvD vs.length λ k=>if k=p.u then (pre t p.u+inL ps L t p.u - su (L.take i) (outT ps t p.u)) - l.am else pre t k+inL ps L t k - su (L.take i) (outT ps t k):=zua λ k hk=>by
     rw [zfj _ hl];unfold outT;by_cases w:k=p.u
     ·subst w;rw [if_pos ⟨by lia,e3⟩,if_pos rfl];lia
     ·rw [if_neg (λ q=>w (by rw [<- q.2,e3])),if_neg w];lia
    rw [e];exact ⟨_,_,_,rfl⟩
   ·have e:hvD vs.length (λ k=>pre t k+inL ps L t k - su (L.take (i+1)) (outT ps t k))=hvD vs.length λ k=>pre t k+inL ps L t k - su (L.take i) (outT ps t k):=zua λ k hk=>by
     rw [zfj _ hl];unfold outT;rw [if_neg (λ q=>z (by lia))];lia
    rw [e];exact ⟨_,_,_,rfl⟩
  rintro U ⟨s5,s6,s7,rfl⟩;refine hJ _ ?_;clear hJ hB;have eh:(hvD vs.length λ k=>pre t k+inL ps L t k - su (L.take L.length) (outT ps t k))=hvD vs.length (h t):=zua λ k hk=>by
   rw [xA];exact (li.st t k htn hk).symm
  simp only [st];rw [eh];refine zi3 λ B hB=>?_;walk_at "dd";rw [zbf];unfold rngD;refine ⟨by lia,by lia,?_⟩;rw [vR];refine zf2 (λ _ U=>∃ s8:Sl,U=st t (h t) s5 s6 s7 s8) ⟨s8,rfl⟩ ?_ ?_
  ·rintro j k U hk ⟨s8,rfl⟩;obtain ⟨hk1,hk2⟩:=vZ.mp hk;rw [vV] at hk1;rw [xK] at hk2;subst hk2;have gv:atI (vs.map Va.d) (j:Int)=some (.tuple [.str vs[j].nm,.int vs[j].room,.int vs[j].fill]):=ze6 (by lia) (by rw [vR,u8,u7 hk1];rfl);have er:(ntOf vs ps n).rm j=vs[j].room:=by show ((vs[j]?).map Va.room).getD 0=_;rw [u7 hk1];rfl
   have hb:=li.bd t j htn hk1;rw [er] at hb;simp only [st];walk_at "dd";refine hB _ _ ?_;clear hB;rw [show (0:Int)+(j:Int)=(j:Int) by lia];walk_at "dd";refine ⟨_,zx71 _ hk1,?_⟩;walk_at "dd";rw [if_neg (by lia)];refine ⟨_,zx71 _ hk1,_,rfl,?_⟩;walk_at "dd";refine ⟨_,gv,?_⟩;walk_at "dd";walk_at "k";rw [if_neg (by lia)];exact ⟨_,rfl⟩
  ·rintro U ⟨s8,rfl⟩;have e:pre (t+1)=h t:=by funext k;simp only [pre,ua4,k6,and_false,if_false,yD]
   rw [e];exact ⟨_,_,_,_,_,rfl⟩
 ·rintro U ⟨s4,s5,s6,s7,s8,rfl⟩;walk_at "f";rw [vV,show ((n:Int)+1).toNat=n+1 by lia];have e:pre (n+1)=h n:=by funext k;simp only [pre,ua4,k6,and_false,if_false,yD]
  rw [e];walk_at "dd";exact q
theorem zm41:FnScope ["script", "until", "fills", "pipes", "cells", "calm", "rows", "vats", "wants", "k", "cell", "some", "found", "lies"] ["script"] (zi0 zk01):=by walk_at "sc"
theorem zqt (kt:Kit K) (jL:mg "isinstance"=none) (jM:mg "len"=none) (jW:mg "list"=none) (qW:mg "max"=none) (jH:mg "range"=none) (vB:mg "str"=none) (qK:mg "tuple"=none) (uV:Def P w K mg base "met_at" 8 ["yard", "wants", "until"] (spD K zmm)) (jG:Def P w K mg base "_law_cell_at" 1 ["script", "k"] (spD K za4)) (qQ:Def P w K mg base "_law_frame" 4 ["script"] (spD K zhc)) (qY:Def P w K mg base "_law_plan" 2 ["fills", "pipes", "cells", "until", "calm"] (spD K zhf)) (qZ:Def P w K mg base "_law_vats" 2 ["script", "fills", "rows"] (spD K zle)) (uA:Def P w K mg base "_law_lies" 3 ["yard", "plan", "until"] (spD K zwe)) :
  ∀ (f:Addr) (cdv:Value) (A:Around) (outer:List Env) (s:Shared) (H:Hp) (E:XK),Room 8 (A.deeper (envOfC "law" (zi0 zk01) s.heap.objs.size f cdv)) ->
   ∃ t d,PSs (cxOf CX0 P w K mg base ["script", "until", "fills", "pipes", "cells", "calm", "rows", "vats", "wants", "k", "cell", "some", "found", "lies"] "law" (zi0 zk01) f cdv A outer s H E).nox (zx2 zk01) t/\RfS K t d/\∀ (ns:List Int) (Qd:D->Prop),ns.length<=63->Qd (.bool true)->d { nx:=λ _=>Qd .none,rt:=rD Qd } (zyc ["script", "until", "fills", "pipes", "cells", "calm", "rows", "vats", "wants", "k", "cell", "some", "found", "lies"] [.list (ns.map .int)]):=by
 walk_at "g";have nd:=zm41.nd;refine ⟨_,_,(zd0 (ztn (zo0 qQ (rmn hr) rfl (za0 (pv 0) zg0)) (zb6 (K:=K) (n:=4) rfl rfl (zz0 (pgn 1 nd) (zz0 (pgn 2 nd) (zz0 (pgn 3 nd) (zz0 (pgn 4 nd) zu5))))))
   (zd0 (pset 5 nd (zs01 (zl5 (K:=K) rfl (Room.units hr)) (za1 zn1 (za1 zv1 (zo0 jG (rmn hr) rfl (za0 (pv 0) (za0 zf0 zg0))) zf0) zf0) zf0 (zi1 _)))
   (zd0 (pset 6 nd (pix w K hr (zo0 qY (rmn hr) rfl (za0 (pv 2) (za0 (pv 3) (za0 (pv 4) (za0 (pv 1) (za0 (pv 5) zg0)))))) zf0))
   (zd0 (pset 7 nd (zo0 qZ (rmn hr) rfl (za0 (pv 0) (za0 (pv 2) (za0 (pv 6) zg0)))))
   (zd0 (pset 8 nd (zp1 zg0))
   (zd0 (zs4 PassesOwn.never rfl (zi2 rfl jH (za0 (zq0 (ze1 (K:=K) rfl) rfl jM zh5 (za0 (pv 7) zg0)) zg0)) (pgn 9 nd) (zd0 (pset 10 nd (zo0 jG (rmn hr) rfl (za0 (pv 0) (za0 (za1 (zb1 (K:=K) rfl) zf0 (pv 9)) zg0))))
   (zd0 (pset 11 nd (za1 zn1 (za1 zn1 (za1 zw2 (pv 10) zf0) zf0) (za1 (zb1 (K:=K) rfl) (pix w K hr (pix w K hr (pv 6) (pv 1)) (pv 9)) zf0)))
   (zj0 (zd2 (zg6 (K:=K) rfl ğa ğb ğc zy1 (pv 8) (za0 (pix w K hr (zp1 (za0 (pix w K hr (pix w K hr (pv 6) (pv 1)) (pv 9)) (za0 zf0 (za0 (zq0 (zyi rfl) rfl qW zru (za0 (pv 11) (za0 (za1 zod (pix w K hr (pix w K hr (pv 6) (pv 1)) (pv 9)) (za1 zn1 (pv 10) zf0)) zg0))) zg0)))) (za1 zn1 (za1 zv1 (pv 10) zf0) zf0)) zg0)))))))
   (zd0 (pset 12 nd (zo0 uV (rmn hr) rfl (za0 (zl1 (za0 (zm5 (zu4 (K:=K) rfl) rfl jW zna (za0 (pv 7) zg0)) (za0 (zm5 (zu4 (K:=K) rfl) rfl jW zna (za0 (pv 3) zg0)) zg0))) (za0 (zm5 (zu4 (K:=K) rfl) rfl jW zna (za0 (pv 8) zg0)) (za0 (pv 1) zg0)))))
   (zd0 (zh8 (PW.pt (zwg (zjd (zw4 (K:=K) rfl (zq0 (zz8 (K:=K) rfl) rfl jL zz1 (za0 (pv 12) (za0 (zkc (v:=.ty "tuple") rfl qK zjn rfl) zg0))) (λ _=>rfl))) (zwg (zt0 (zik (K:=K) rfl (Room.units hr)) (zq0 (ze1 (K:=K) rfl) rfl jM zh5 (za0 (pv 12) zg0)) zf0 (zi1 _)) (zwg (zjd (zw4 (K:=K) rfl (zq0 (zz8 (K:=K) rfl) rfl jL zz1 (za0 (pix w K hr (pv 12) zf0) (za0 (zkc (v:=.ty "str") rfl vB zb81 rfl) zg0))) (λ _=>rfl))) (zbe (zt0 (zik (K:=K) rfl (Room.units hr)) (pix w K hr (pv 12) zf0) zma (zi1 _))))))) (zj0 (zc1 zlk)) zk1)
   (zd0 (pset 13 nd (zo0 uA (rmn hr) rfl (za0 (zl1 (za0 (pv 7) (za0 (pv 3) zg0))) (za0 (pix w K hr (pv 12) zf0) (za0 (pv 1) zg0)))))
   (zd0 (zh8 (zt0 (zl5 (K:=K) rfl (Room.units hr)) (pv 13) (zp1 zg0) (zi1 _)) (zj0 (zc1 zlk)) zk1)
   (zd0 (zs4 PassesOwn.never rfl (zi2 rfl jH (za0 (zq0 (ze1 (K:=K) rfl) rfl jM zh5 (za0 (pv 7) zg0)) zg0)) (pgn 9 nd) (zj0 (zh8 (zt0 ztt (pix w K hr (pv 13) (pv 9)) (pix w K hr (pv 8) (pv 9)) (zi1 _)) (zj0 (zc1 zlk)) zk1)))
   (zj0 (zc1 zlk))))))))))))),(zm0 (zh1 (zw0 (zb0 (zh0 0) zk0)) (zu9 (zy0 (rgn 1) (zy0 (rgn 2) (zy0 (rgn 3) (zy0 (rgn 4) zz5))))))
   (zm0 (zh1 (zr2 q_eq (RfV.h (RfE.v (zl0 zs5 (RfE.v (zl0 zxf (RfE.v (zw0 (zb0 (zh0 0) (zb0 zv0 zk0)))) rvi)) rvi))) (RfV.h rvi)) (rgn 5))
   (zm0 (zh1 (zl0 r_ix (RfE.v (zw0 (zb0 (zh0 2) (zb0 (zh0 3) (zb0 (zh0 4) (zb0 (zh0 1) (zb0 (zh0 5) zk0))))))) rvi) (rgn 6))
   (zm0 (zh1 (zw0 (zb0 (zh0 0) (zb0 (zh0 2) (zb0 (zh0 6) zk0)))) (rgn 7))
   (zm0 (ze3 (RfF.c (zn3 zk0)))
   (zm0 (zv4 (zt6 (zb0 (zn8 zgd (zu0 (zc0 7) zm1)) zk0)) (rgn 9) (zm0 (zh1 (zw0 (zb0 (zh0 0) (zb0 (zl0 zd6 rvi (zc0 9)) zk0))) (rgn 10))
   (zm0 (zh1 (zl0 zs5 (RfE.v (zl0 zs5 (RfE.v (zl0 znj (zc0 10) rvi)) rvi)) (RfE.v (zl0 zd6 (RfE.v (zl0 r_ix (RfE.v (zl0 r_ix (zc0 6) (zc0 1))) (zc0 9))) rvi))) (rgn 11))
   (zc2 (zbg zia (zp0 8) (zb0 (zl0 r_ix (RfE.v (RfF.e (zn3 (zb0 (zl0 r_ix (RfE.v (zl0 r_ix (zc0 6) (zc0 1))) (zc0 9)) (zb0 zv0 (zb0 (zn8 zz31 (zu0 (zc0 11) (zu0 (RfE.v (zl0 zcq (RfE.v (zl0 r_ix (RfE.v (zl0 r_ix (zc0 6) (zc0 1))) (zc0 9))) (RfE.v (zl0 zs5 (zc0 10) rvi)))) zm1))) zk0)))))) (RfE.v (zl0 zs5 (RfE.v (zl0 zxf (zc0 10) rvi)) rvi))) zk0))))))
   (zm0 (zh1 (zw0 (zb0 (zo1 (zb0 (RfF.e (zqy zdk (zu0 (zc0 7) zm1))) (zb0 (RfF.e (zqy zdk (zu0 (zc0 3) zm1))) zk0))) (zb0 (RfF.e (zqy zdk (zu0 (zc0 8) zm1))) (zb0 (zh0 1) zk0)))) (rgn 12))
   (zm0 (zi8 (zyg (zde (ze9 (RfE.v (zty kt (by simp) (zc0 12))))) (zyg (zs0 (zr2 q_ne (RfV.h (RfE.v (zn8 zgd (zu0 (zc0 12) zm1)))) (RfV.h rvi))) (zyg (zde (ze9 (RfE.v (zty kt (by simp) (RfE.v (zl0 r_ix (zc0 12) rvi)))))) (zs0 (zr2 q_ne (RfV.h (RfE.v (zl0 r_ix (zc0 12) rvi))) (RfV.h (RfE.v zxa))))))) (zg1 (RfE.c zkk)) zj1)
   (zm0 (zh1 (zw0 (zb0 (zo1 (zb0 (zh0 7) (zb0 (zh0 3) zk0))) (zb0 (zl0 r_ix (zc0 12) rvi) (zb0 (zh0 1) zk0)))) (rgn 13))
   (zm0 (zi8 (zs0 (zr2 q_eq (RfV.h (zc0 13)) (zuy zr01))) (zg1 (RfE.c zkk)) zj1)
   (zm0 (zv4 (zt6 (zb0 (zn8 zgd (zu0 (zc0 7) zm1)) zk0)) (rgn 9) (zi8 (zs0 (zl0 r_lt (RfE.v (zl0 r_ix (zc0 13) (zc0 9))) (RfE.v (zl0 r_ix (zc0 8) (zc0 9))))) (zg1 (RfE.c zkk)) zj1))
   (zg1 (RfE.c zkk))))))))))))),?_⟩
 intro ns Qd hns q;walk_at "ds";walk_at "a";refine ⟨ns,rfl,hns,λ n u fl ps cs fr=>?_⟩;walk_at "dd";walk_at "f";have hfn:=fr.fn;have n0:=fr.n0;have n1:=fr.n1;have u1:=fr.u1;have nu:=fr.nu;walk_at "a";refine ⟨ns,1,rfl,by lia,λ m=>?_⟩;walk_at "dd";walk_at "f";generalize decide (m / 6 % 2=0)=calm;walk_at "a";refine ⟨n,u,fl,ps,cs,calm,rfl,fr,λ x G R pn=>?_⟩;walk_at "dd";refine ⟨_,rfl,hJ _ ?_⟩;walk_at "c";refine ⟨ns,fl,u,R,rfl,by lia,u1,λ vs ok=>hJ _ ?_⟩;clear hJ;have hvl:=ok.n;have r0:∀ k,k < vs.length->0<=R u k:=λ k hk=>pn.r0 u k (by lia) (by lia);have hun:(u+1) * vs.length<=61:=by rw [hvl,hfn];lia
 have rAt:atI ((u3 (u+1)).map (rowR fl.length R)) (u:Int)=some (.list ((u3 fl.length).map λ k=>u4 (R u k))):=ztc (by rw [u8,xM (by lia)];rfl);have rkAt:∀ k,k < vs.length->atI ((u3 fl.length).map λ k=>u4 (R u k)) (k:Int)=some (.int (R u k)):=λ k hk=>ztc (by rw [u8,xM (by lia)];rfl);walk_at "a";walk_at "f";refine ze0 λ J hJ=>?_;refine zi3 λ B hB=>?_;walk_at "dd";rw [u5];unfold rngD;refine ⟨by lia,by lia,?_⟩;rw [vR];refine zf2 (λ i U=>∃ (ws:List Int) (s9 s10 s11:Sl),U=[.sh (.list (ns.map .int)),.sh (.int (u:Int)),.sh (.list (fl.map .int)),.sh (.list (ps.map Pi.d)),.sh (.list (cs.map .int)),.sh (.bool calm),.sh (.list ((u3 (u+1)).map (rowR fl.length R))),.sh (.list (vs.map Va.d)),.ow (.li (ws.map .int)),s9,s10,s11,.un,.un]/\ws.length=i/\∀ (j:Nat) x,ws[j]?=some x->0<=x/\x<=R u j) ⟨[],_,_,_,rfl,rfl,λ j x h=>by simp at h⟩ ?_ ?_
 ·rintro i k U hk ⟨ws,s9,s10,s11,rfl,hl,hw⟩;obtain ⟨hk1,hk2⟩:=vZ.mp hk;rw [vV] at hk1;rw [xK] at hk2;subst hk2;walk_at "dd";refine hB _ _ ?_;clear hB hJ;rw [show (0:Int)+(i:Int)=(i:Int) by lia];walk_at "a";refine ⟨ns,4+i,by rw [show (4:Int)+(i:Int)=((4+i:Nat):Int) by lia],by lia,λ c=>hJ _ ?_⟩;walk_at "c";refine ⟨.inr ⟨by decide,by decide⟩,_,rAt,_,rkAt i hk1,?_⟩;have ri:=r0 i hk1;walk_at "dd";refine ⟨by lia,hJ _ ?_⟩;clear hJ;have s0:=xY (c * 48271 % 100000000003) (b:=R u i+1) (by lia);have s1:=yE (c * 48271 % 100000000003) (b:=R u i+1) (by lia);generalize c * 48271 % 100000000003 % (R u i+1)=sm at s0 s1 ⊢;walk_at "dd";refine ⟨_,rAt,_,rkAt i hk1,_,rAt,_,rkAt i hk1,?_⟩;walk_at "dd";have mx:0<=(if R u i - c % 4 > sm then R u i - c % 4 else sm)/\(if R u i - c % 4 > sm then R u i - c % 4 else sm)<=R u i:=by split <;> lia
  generalize (if R u i - c % 4 > sm then R u i - c % 4 else sm)=mv at mx ⊢;obtain ⟨x,hx,x0,x1⟩:∃ x:Int,atI [u4 (R u i),u4 0,u4 mv] (c / 11 % 3)=some (.int x)/\0<=x/\x<=R u i:=by
   have:c / 11 % 3=0 \/ c / 11 % 3=1 \/ c / 11 % 3=2:=by lia
   rcases this with h|h|h <;> rw [h]
   ·exact ⟨_,rfl,by lia⟩
   ·exact ⟨_,rfl,by lia⟩
   ·exact ⟨_,rfl,by lia⟩
  refine ⟨_,hx,by rw [u5];lia,ws++[x],_,_,_,by rw [vY];rfl,by rw [vK,hl];rfl,λ j y hy=>?_⟩;by_cases e:j < ws.length
  ·rw [wN e] at hy;exact hw j y hy
  ·rw [wK (by lia)] at hy;have hj0:j - ws.length=0:=by
    have:=(vZ.mp hy).1;simp at this;lia
   rw [hj0] at hy;have ej:j=i:=by lia
   simp at hy;subst hy;subst ej;exact ⟨x0,x1⟩
 ·rintro U ⟨ws,s9,s10,s11,rfl,hl,hw⟩;rw [vV] at hl;refine hJ _ ?_;clear hJ hB;have wg:∀ k,k < vs.length->0<=cW ws k/\cW ws k<=R u k:=λ k hk=>by
   have e:ws[k]?=some (ws[k]'(by lia)):=u7 _;have:=hw k _ e;unfold cW;rw [vS,e];exact this
  have yok:YOk vs ps ws:=⟨by lia,by lia,by have:=fr.pn;lia,hl,λ v hv=>by
   obtain ⟨k,hk⟩:=List.getElem?_of_mem hv;have hkl:k < fl.length:=by have:=(vZ.mp hk).1;lia
   have:fl.getD k 0∈fl:=by rw [vS,u7 hkl];exact w6 hkl
   have:=(fr.f0 _ this).1;have h2:=(ok.r k v hk).1;rw [ok.f k v hk] at h2 ⊢;exact ⟨this,h2⟩,λ k v z hv hz=>by
   have h1:=hw k z hz;have h2:=(ok.r k v hv).2 u (u6 _);lia,λ p hp=>by rw [hvl,hfn];exact fr.pk p hp⟩
  walk_at "a";refine ⟨vs,ps,ws,u,rfl,yok,by lia,hun,λ M f pt met=>hJ _ ?_⟩;clear hJ;have hM:M=ws.sum:=by
   have le:=met.val.le;have ge:=met.val.mx _ _ (zx21 fr pn ok (c:=cW ws) (w:=cW ws) λ j hj=>⟨(wg j (by lia)).1,(wg j (by lia)).2,wQ _⟩) rfl;have e:ws.sum=su (u3 (ntOf vs ps u).N) (cW ws):=by rw [zp41,hl];rfl
   lia
  obtain ⟨h,po,li,fin⟩:=met.lies yok.m2 (by lia) hM;rw [if_pos hM,if_pos hM];clear met;walk_at "a";refine ⟨λ _=>trivial,?_⟩;rw [if_neg (by decide)];refine ⟨_,rfl,(λ kvs e=>by cases e),?_⟩;rw [show isT "str" (PyData.str (xJ "plan"))=true from rfl,if_neg (by decide)];walk_at "k";walk_at "b";refine ⟨_,rfl,vs,ps,u,_,h,rfl,yok.n2,yok.m2,by lia,yok.pb,po,li,hJ _ ?_⟩;clear hJ;have sh:SeqAt.shaped (.list (hvD vs.length (h u)))=true:=by
   refine Fit.shaped (n:=1) (Fit.lst λ d hd=>?_) (by decide);obtain ⟨k,_,rfl⟩:=vQ.mp hd;exact Fit.int _
  have ne:PyData.eqv (.list (hvD vs.length (h u))) (.list [])=false:=by
   cases e:hvD vs.length (h u) with
  |nil=>have:=zbf vs.length (h u);rw [e] at this;simp at this;lia
  |cons a r=>rfl
  walk_at "a";refine ⟨sh,rfl,?_⟩;rw [ne,if_neg (by decide)];walk_at "f";refine ze0 λ J hJ=>?_;refine zi3 λ B hB=>?_;walk_at "dd";rw [u5];unfold rngD;refine ⟨by lia,by lia,?_⟩;rw [vR];refine zf2 (λ _ U=>∃ s9:Sl,U=[.sh (.list (ns.map .int)),.sh (.int (u:Int)),.sh (.list (fl.map .int)),.sh (.list (ps.map Pi.d)),.sh (.list (cs.map .int)),.sh (.bool calm),.sh (.list ((u3 (u+1)).map (rowR fl.length R))),.sh (.list (vs.map Va.d)),.ow (.li (ws.map .int)),s9,s10,s11,.sh (.tuple [.str (xJ "plan"),.list ((zdc ps u f.g u).map Le.d)]),.sh (.list (hvD vs.length (h u)))]) ⟨_,rfl⟩ ?_ ?_
  ·rintro i k U hk ⟨s9,rfl⟩;obtain ⟨hk1,hk2⟩:=vZ.mp hk;rw [vV] at hk1;rw [xK] at hk2;subst hk2;have fi:=fin i hk1;have gw:atI (ws.map u4) (i:Int)=some (.int (cW ws i)):=by
    refine ztc ?_;have e:ws[i]?=some (ws[i]'(by lia)):=u7 _;unfold cW;rw [u8,vS,e];rfl
   walk_at "dd";refine hB _ _ ?_;clear hB hJ;rw [show (0:Int)+(i:Int)=(i:Int) by lia];walk_at "dd";refine ⟨_,zx71 _ hk1,_,gw,?_⟩;walk_at "dd";rw [if_neg (by lia)];exact ⟨_,rfl⟩
  ·rintro U ⟨s9,rfl⟩;refine hJ _ ?_;clear hJ hB;walk_at "dd";exact q
end
theorem all_mk {l:PySem.W.OpenLaw} {w:World} {K:Fg} {h:Heap} {mg:Str->Option Value} {fa:Addr} {jA jD jE jJ:Addr} (X:K.In h) (G:h.Ns mainGlobals mg) (hfa:mg "law"=some (.ref fa))
  (jB:TopCls K "Stream" jA)
  (jU:TopCls K "Tidal" jD)
  (jX:TopCls K "Steady" jE)
  (kL:TopCls K "Late" jJ)
  (jI:PySem.W.findIn K (.ref jA) "steps"=some none)
  (jF:PySem.W.findIn K (.ref jA) "ends"=some none)
  (jC:PySem.W.findIn K (.ref jA) "left"=some none)
  (jQ:PySem.W.findIn K (.ref jD) "wide"=some none)
  (jO:PySem.W.findIn K (.ref jD) "other"=some none)
  (jR:PySem.W.findIn K (.ref jD) "turn"=some none)
  (jN:PySem.W.findIn K (.ref jE) "wide"=some none)
  (jT:PySem.W.findIn K (.ref jJ) "wide"=some none)
  (jP:PySem.W.findIn K (.ref jJ) "since"=some none)
  (jZ:TopMeth K jA "row_behind" "Stream.row_behind" ze2)
  (kZ:TopMeth K jA "levels" "Stream.levels" zl4)
  (kQ:TopMeth K jA "step_up" "Stream.step_up" zp3)
  (qA:TopMeth K jA "way_up" "Stream.way_up" zm4)
  (qF:TopMeth K jA "carry" "Stream.carry" zy2)
  (kR:TopMeth K jA "push_up" "Stream.push_up" zh2)
  (kS:TopMeth K jA "amounts" "Stream.amounts" zf3)
  (kF:TopMeth K jA "__init__" "Stream.__init__" zx1)
  (uH:TopDefN K "greatest" zwa)
  (vE:TopDef K "node" zjx)
  (kT:TopMeth K jD "__init__" "Tidal.__init__" zh3)
  (kG:TopMeth K jE "__init__" "Steady.__init__" zt2)
  (qB:TopMeth K jJ "__init__" "Late.__init__" zp4)
  (uN:TopDef K "gate_of" zmd)
  (kH:TopMeth K jE "width_at" "Steady.width_at" zs2)
  (qC:TopMeth K jJ "width_at" "Late.width_at" zi4)
  (kU:TopMeth K jD "width_at" "Tidal.width_at" zl3)
  (uZ:TopDef K "width" zul)
  (uI:TopDef K "pipes_by" zx8)
  (uO:TopDef K "arcs_at" zba)
  (vH:TopDef K "net" zb31)
  (uP:TopDef K "plan_of" zhe)
  (vF:TopDef K "spot" zqv)
  (qN:TopDef K "part_beyond" zp2)
  (uJ:TopDef K "met_most" zib)
  (uW:TopDef K "met_at" zci)
  (qG:TopDef K "_law_cell_at" ze5)
  (qR:TopDef K "_law_great" zb8)
  (uB:TopDef K "_law_gate" zg9)
  (uC:TopDef K "_law_pipe" zh9)
  (qS:TopDef K "_law_frame" zd3)
  (qH:TopDef K "_law_wide_at" zo5)
  (qO:TopDef K "_law_amount" zb7)
  (uD:TopDef K "_law_plan" zm7)
  (uE:TopDef K "_law_vats" zn7)
  (qT:TopDef K "_law_whole" zf8)
  (qI:TopDef K "_law_is_plan" zp5)
  (uF:TopDef K "_law_lies" zo7)
  (vI:TopDef K "law" zk01)
  {t_SOURCE:Tok} (g_SOURCE:PySem.W.nsIn K mainGlobals "SOURCE"=some (some (.int 0 t_SOURCE)))
  {t_SINK:Tok} (g_SINK:PySem.W.nsIn K mainGlobals "SINK"=some (some (.int 1 t_SINK)))
  (uU:PySem.W.nsIn K mainGlobals "bool"=some none)
  (uT:PySem.W.nsIn K mainGlobals "dict"=some none)
  (qU:PySem.W.nsIn K mainGlobals "divmod"=some none)
  (jK:PySem.W.nsIn K mainGlobals "enumerate"=some none)
  (vA:PySem.W.nsIn K mainGlobals "int"=some none)
  (jL:PySem.W.nsIn K mainGlobals "isinstance"=some none)
  (jM:PySem.W.nsIn K mainGlobals "len"=some none)
  (jW:PySem.W.nsIn K mainGlobals "list"=some none)
  (qW:PySem.W.nsIn K mainGlobals "max"=some none)
  (qJ:PySem.W.nsIn K mainGlobals "min"=some none)
  (jH:PySem.W.nsIn K mainGlobals "range"=some none)
  (kW:PySem.W.nsIn K mainGlobals "sorted"=some none)
  (vB:PySem.W.nsIn K mainGlobals "str"=some none)
  (uQ:PySem.W.nsIn K mainGlobals "sum"=some none)
  (qK:PySem.W.nsIn K mainGlobals "tuple"=some none) (kt:Kit K)
 :∃ fd:FuncData,(∀ (s:Shared) (v:Value),BindsTo s fd ⟨[v],[]⟩ [("script",v)])/\∀ base:Heap,K.In base->base.Ns mainGlobals mg->FnOk l.prog w K mg base CX0 9 fa fd ["script"] (zp51 K):=by
 have M:Md K mg:=⟨⟨h,X,G⟩⟩
 refine zzc1 M vI hfa zm41 (by walk_at "h") λ base kb nb=>?_;have jY:=zy7 (P:=l.prog) (w:=w) (K:=K) (mg:=mg) (base:=base) jB.cls jZ jI jF jC;have kB:=zeb (P:=l.prog) (w:=w) (K:=K) (mg:=mg) (base:=base) jB.cls kZ jY;have kI:=zy9 (P:=l.prog) (w:=w) (K:=K) (mg:=mg) (base:=base) jB.cls kQ (M.not jM) jC jF;have kA:=zcb (P:=l.prog) (w:=w) (K:=K) (mg:=mg) (base:=base) jB.cls qA jF kI;have qD:=zsb (P:=l.prog) (w:=w) (K:=K) (mg:=mg) (base:=base) jB.cls qF (M.not qJ) jC;have kJ:=zw9 (P:=l.prog) (w:=w) (K:=K) (mg:=mg) (base:=base) jB.cls kR (M.not jW) jI kA qD;have kK:=zaa (P:=l.prog) (w:=w) (K:=K) (mg:=mg) (base:=base) jB.cls kS jC;have uR:=za9 (P:=l.prog) (w:=w) (K:=K) (mg:=mg) (base:=base) M jB kF (M.not jK) (M.not jH) jF jC jI;have qP:=zfk (P:=l.prog) (w:=w) (K:=K) (mg:=mg) (base:=base) M uH (M.not jM) (M.not kW) jB.cls kB kJ kK uR;have kY:=zc31 (P:=l.prog) (w:=w) (K:=K) (mg:=mg) (base:=base) M vE (M.not jM);have uX:=zx9 (P:=l.prog) (w:=w) (K:=K) (mg:=mg) (base:=base) M jU kT jQ jO jR;have uS:=zb9 (P:=l.prog) (w:=w) (K:=K) (mg:=mg) (base:=base) M jX kG jN;have vC:=zka (P:=l.prog) (w:=w) (K:=K) (mg:=mg) (base:=base) M kL qB jT jP;have uK:=zrk (P:=l.prog) (w:=w) (K:=K) (mg:=mg) (base:=base) (jJ:=jJ) (jE:=jE) (jD:=jD) M uN uX uS vC;have kC:=zd9 (P:=l.prog) (w:=w) (K:=K) (mg:=mg) (base:=base) jX.cls kH jN;have kX:=zza (P:=l.prog) (w:=w) (K:=K) (mg:=mg) (base:=base) kL.cls qC jT jP;have kM:=zz9 (P:=l.prog) (w:=w) (K:=K) (mg:=mg) (base:=base) jU.cls kU jQ jO jR;have uY:=zyx (P:=l.prog) (w:=w) (K:=K) (mg:=mg) (base:=base) M uZ uK kL.cls jX.cls jU.cls kC kX kM;have kO:=zjk (P:=l.prog) (w:=w) (K:=K) (mg:=mg) (base:=base) M uI (M.not jK);have uL:=zzl (P:=l.prog) (w:=w) (K:=K) (mg:=mg) (base:=base) M uO (M.not jK) uY kY kO;have vG:=zz91 (P:=l.prog) (w:=w) (K:=K) (mg:=mg) (base:=base) M vH (M.not jK) (M.not jH) kY uL (M.got g_SOURCE) ⟨_,rfl⟩ (M.got g_SINK) ⟨_,rfl⟩;have uM:=zpk (P:=l.prog) (w:=w) (K:=K) (mg:=mg) (base:=base) M uP (M.not jM) (M.not jH) kO;have vD:=zz11 (P:=l.prog) (w:=w) (K:=K) (mg:=mg) (base:=base) M vF (M.not qU) (M.not jM);have qL:=zwd (P:=l.prog) (w:=w) (K:=K) (mg:=mg) (base:=base) M qN (M.not uT) (M.not jH) vD;have uG:=zek (P:=l.prog) (w:=w) (K:=K) (mg:=mg) (base:=base) M uJ (M.not jM) (M.not uQ) qP vG uM qL (M.got g_SOURCE) ⟨_,rfl⟩ (M.got g_SINK) ⟨_,rfl⟩;have uV:=zdp (P:=l.prog) (w:=w) (K:=K) (mg:=mg) (base:=base) M uW (M.not uQ) uG;have jG:=ztb (P:=l.prog) (w:=w) (K:=K) (mg:=mg) (base:=base) M qG (M.not jM);have jV:=zdf (P:=l.prog) (w:=w) (K:=K) (mg:=mg) (base:=base) M qR;have qV:=zth (P:=l.prog) (w:=w) (K:=K) (mg:=mg) (base:=base) M uB (M.not qJ) jV;have qX:=zog (P:=l.prog) (w:=w) (K:=K) (mg:=mg) (base:=base) M uC qV;have qQ:=zxe (P:=l.prog) (w:=w) (K:=K) (mg:=mg) (base:=base) M qS (M.not jM) (M.not qW) (M.not qJ) (M.not jH) jG jV qX;have jS:=zpb (P:=l.prog) (w:=w) (K:=K) (mg:=mg) (base:=base) M qH;have qM:=zxd (P:=l.prog) (w:=w) (K:=K) (mg:=mg) (base:=base) M qO;have qY:=zrg (P:=l.prog) (w:=w) (K:=K) (mg:=mg) (base:=base) M uD (M.not jM) (M.not jW) (M.not qJ) (M.not jH) (M.not kW) jS qM;have qZ:=zmh (P:=l.prog) (w:=w) (K:=K) (mg:=mg) (base:=base) M uE (M.not jM) (M.not qW) (M.not jH) jG;have kE:=zqe (P:=l.prog) (w:=w) (K:=K) (mg:=mg) (base:=base) M qT kt (M.not uU) (M.not vA) (M.not jL);have qE:=zrb (P:=l.prog) (w:=w) (K:=K) (mg:=mg) (base:=base) M qI kt (M.not jL) (M.not jM) (M.not jW) (M.not qK) jS kE;have uA:=zbh (P:=l.prog) (w:=w) (K:=K) (mg:=mg) (base:=base) M uF (M.not jM) (M.not jH) qE;exact zqt kt (M.not jL) (M.not jM) (M.not jW) (M.not qW) (M.not jH) (M.not vB) (M.not qK) uV jG qQ qY qZ uA
end _29
local macro_rules|`(tactic| walk_at "top")=>`(tactic| (refine' zop ?a ?l ?c ?k;(case a=>k_is);(case l=>k_is);(case c=>k_is);(case k=>k_is)))
local macro_rules|`(tactic| walk_at "topn")=>`(tactic| (refine' zml ?a ?l ?c ?k ?t ?d;(case a=>k_is);(case l=>k_is);(case c=>k_is);(case k=>k_is);(case t=>k_is);(case d=>rfl)))
local macro_rules|`(tactic| walk_at "meth")=>`(tactic| (refine' zko ?a ?i ?l ?c ?k;(case a=>k_is);(case i=>k_is);(case l=>k_is);(case c=>k_is);(case k=>k_is)))
local macro_rules|`(tactic| walk_at "cls")=>`(tactic| (refine' zbq ?a ?pg ?hd ?po ?sa ?mk ?kc;(case a=>k_is);(case pg=>k_is);(case hd=>k_is);(case po=>k_is);(case sa=>k_is);(case mk=>k_is);(case kc=>k_is)))
namespace PySem.W.Fast
def tw15639979744379170557:=0
def tw16145692894307276643:=0
def tw8187871972803121439:=0
def tw10048034599386422808:=0
def tw8587717217009947678:=0
def tw3824223795728745476:=0
def tw11920270931377903023:=0
def tw17228801725673066507:=0
def tw17865949906943352362:=0
def tw12579919161855980287:=0
def tw5861508177228613148:=0
def tw6822128939468657896:=0
def tw3744600614803161888:=0
def tw579506600160188096:=0
def tw17482397174419867517:=0
def tw5087734852314138448:=0
def tw16664828219954201079:=0
def tw1673227969610467813:=0
def tw7338503903047755834:=0
def tw9587712041063407287:=0
def tw12672311800372893673:=0
def tw9318436855963695072:=0
def tw15480999396474304878:=0
def tw14808383134020409184:=0
def tw8618245529897085952:=0
def tw4742173891474295499:=0
def tw18131250619930720183:=0
def tw4732117260423185673:=0
def tw8128239882525291196:=0
def tw17747407880260600804:=0
def tw4935388910300694891:=0
def tw11954138719813117586:=0
def tw13642932507852345114:=0
def tw6242450086246407289:=0
def tw863983594541864168:=0
def tw901777654548094400:=0
def tw16877727466487392449:=0
def tw16062282924616300725:=0
def tw9695276673078840422:=0
def tw17334206640664052895:=0
def tw14204699665918618368:=0
def tw18156963555993670720:=0
def tw17291483334574218112:=0
def tw1496078765945858615:=0
def tw6230990179210331724:=0
def tw12897238110407632717:=0
def tw8152831792294035567:=0
def tw11535680649785935914:=0
def tw15609494522321057318:=0
def tw15414157188774700046:=0
def tw12451784625210260479:=0
def tw3607983401914693621:=0
def tw11803022156811364794:=0
def tw14372271514354955129:=0
def tw2347921457263875889:=0
def tw10342099490306322376:=0
def tw15658083633438374615:=0
def tw15282903729540684540:=0
def tw5448531227255832359:=0
def tw6083184859085326215:=0
def tw16244612162752968533:=0
def tw17149677657606121779:=0
def tw764089980409284060:=0
def tw3543213125159934567:=0
def tw4328815860908898565:=0
def tw11692850894967803066:=0
def tw50740421870492039:=0
def tw18132463050312978413:=0
def tw12884345680040209483:=0
def tw15967306294575076420:=0
def tw2161224187634452316:=0
def tw5401363840855690378:=0
def tw15191720331793844195:=0
def tw14166980431715535167:=0
def tw6547436719095926190:=0
def tw7170275254022470827:=0
def tw4021131651573166633:=0
def tw3548079851833564499:=0
def tw17186307899643551190:=0
def tw12088058848813462248:=0
def tw6294260205905858942:=0
def tw9683692391623413703:=0
def tw14125257415154505615:=0
def tw8367405352019807018:=0
def tw13632291930303905731:=0
def tw13984939136273110638:=0
def tw7468073760265866446:=0
def tw8905881560205975249:=0
def tw11201343789206412506:=0
def tw3117480744787585960:=0
def tw11929685686583867924:=0
def tw6324649696303286328:=0
def tw11188225895964347843:=0
def tw11975235319373679164:=0
def tw6210595052065151912:=0
def tw4583601157620340231:=0
def tw1332280914998722237:=0
def tw11787300525421344495:=0
def tw11113945495460970405:=0
def tw11649892292403495632:=0
def tw6933786019451345030:=0
def tw13755283399528834315:=0
def tw9378038548204781085:=0
def tw16382168535755015683:=0
def tw14289577843526606615:=0
def tw5002182078789493285:=0
def tw2049981895830913221:=0
def tw5830592524998058630:=0
def tw3500630095782934092:=0
def tw7795072986942422838:=0
def tw13767193960378673102:=0
def tw11761491704574409786:=0
def tw17706415563932229870:=0
def tw15718296697635798498:=0
def tw14557005708934078738:=0
def tw17152714575044769189:=0
def tw5240192908138765274:=0
def tw1716743955164183933:=0
def tw6354419110246106318:=0
def tw7707791201391528662:=0
def tw8225714223482616444:=0
def tw17600473524410228288:=0
def tw4148115264223610659:=0
def tw5386743177265928474:=0
def tw17493457298389560304:=0
def tw2305261639768962981:=0
def tw5641269959343933947:=0
def tw12982265134448244653:=0
def tw13817163434696648410:=0
def tw13862892857489456561:=0
def tw11483158585012831068:=0
def tw17288510885159193845:=0
def tw8472899844950864260:=0
def tw16466949302446805192:=0
def tw8315414816839286068:=0
def tw14181612122061054504:=0
def tw18332493920568254484:=0
def tw16976215702293979520:=0
def tw6890373996690116008:=0
def tw11404602007900321396:=0
def tw4296945984309100143:=0
def tw13287088057408946850:=0
def tw3528140590549887169:=0
def tw15363223719979191145:=0
def tw13346744635155386140:=0
def tw12770343513150469835:=0
def tw18239626903450430633:=0
def tw5845452376533074951:=0
def tw10962194719266102278:=0
def tw6749428960629478878:=0
def tw4414557185742429744:=0
def tw4719294640790873137:=0
def tw5717643773959759111:=0
def tw11167508331613148425:=0
def tw10275220897306604251:=0
def tw2038127313663298901:=0
def tw2586541223078930087:=0
def tw4031815668946266552:=0
def tw16447253928399583719:=0
def tw4712207043270343228:=0
def tw16237928678704226539:=0
def tw797835693586242367:=0
def tw16408042037271372031:=0
def tw9197893404075354097:=0
def tw3778467874821243269:=0
def tw2782133334783957216:=0
def tw13737651775702186216:=0
def tw17252147620394873643:=0
def tw11926850037461740108:=0
def tw16113677849873956036:=0
def tw16834671952258143470:=0
def tw1409854964586217495:=0
def tw12421322831258667949:=0
def tw16771913904114181907:=0
def tw7063605320445296004:=0
def tw15655831148158896421:=0
def tw12011501105909800107:=0
def tw997027706855372645:=0
def tw3237031704077695892:=0
def tw13025547631551249713:=0
def tw17456132412062876145:=0
def tw13894652862203610201:=0
def tw5113874578096342023:=0
def tw15768333478069646727:=0
def tw14360563674423044323:=0
def tw2998505059602451398:=0
def tw1770175089629521264:=0
def tw10062290837289241359:=0
def tw2973845678130627379:=0
def tw12317767230625818806:=0
def tw15337652485497232308:=0
def tw10198387871787443164:=0
def tw2636481029127452590:=0
def tw11540700046019499071:=0
def tw1622460455610898227:=0
def tw13731292307725788248:=0
def tw12324935926142760230:=0
def tw8647679415096895023:=0
def tw1937937742291693230:=0
def tw2319772376530055408:=0
def tw1531395669191433938:=0
def tw4976445893063279961:=0
def tw5102841556303091107:=0
def tw8000731890200028984:=0
def tw14893825426535923245:=0
def tw17146125795534035729:=0
def tw14138305579129648223:=0
def tw7043185474846302925:=0
def tw6796277838579263266:=0
def tw6148110401886720355:=0
def tw8396023503476815482:=0
def tw520309901732872857:=0
def tw10790972110923750063:=0
def tw6306455331939994730:=0
def tw11314646194356817718:=0
def tw17398507462866319757:=0
def tw3420548216478214718:=0
def tw11096260749125021295:=0
def tw4585092317564657706:=0
def tw11052529944338726797:=0
def tw12461188477332291321:=0
def tw13103037943891252572:=0
def tw6083991659723984749:=0
def tw7099451301972168155:=0
def tw9701338586644615877:=0
def tw16833610418108641300:=0
def tw12074297505030224247:=0
def tw4218576972012877760:=0
def tw2679920824985759564:=0
def tw7156279296451820566:=0
def tw10508006614439004223:=0
def tw17116825515205031520:=0
def tw12842570440099674795:=0
def tw9261633006074332979:=0
def tw16192808251512168752:=0
def tw10721743570224650557:=0
def tw12499704714190883551:=0
def tw3449178713815555446:=0
def tw11675716435809075278:=0
def tw15461756975796987820:=0
def tw670864140810809575:=0
def tw3535406247495983941:=0
def tw4853622489703200391:=0
def tw571792600850978459:=0
def tw818997688453488797:=0
def tw6696748058358754496:=0
def tw1411142577865386226:=0
def tw17816180944450751971:=0
def tw4976063203816576191:=0
def tw1774076949441097299:=0
def tw9429551084666452412:=0
def tw14887919651150247717:=0
def tw17761610796553783565:=0
def tw14770396158494975960:=0
def tw9829141291530130225:=0
def tw17175615494223983662:=0
def tw7512600165927052014:=0
def tw2876548249505996718:=0
def tw16046312746298968860:=0
def tw8626018338901992195:=0
def tw2847673305883456823:=0
def tw2213331543527589306:=0
def tw5323889753533197888:=0
def tw18231075183238298671:=0
def tw16837109666536971127:=0
def tw16325155904878026689:=0
def tw2333683081264547131:=0
def tw14926122332587558793:=0
def tw14724630259790254881:=0
def tw13887619736655343759:=0
def tw9818352209908547254:=0
def tw17578979119542629837:=0
def tw8659450232119066196:=0
def tw11005370265600831472:=0
def tw16062597401462784040:=0
def tw10095827703257461750:=0
def tw8510727526854662862:=0
def tw6521655493011162292:=0
def tw14474776078860437363:=0
def tw6181913845863938863:=0
def tw1235872000650990010:=0
def tw9050592515785178231:=0
def tw6770124056134240594:=0
def tw17122040546017112743:=0
def tw17176986321438835004:=0
def tw358395574328993461:=0
def tw15924377891958886421:=0
def tw14713483555439152128:=0
def tw12079649228764241225:=0
def tw5454480931499374544:=0
def tw14841512107499452446:=0
def tw16653805516620127465:=0
def tw6000582999888340800:=0
def tw14868944402758272223:=0
def tw16069779019554052810:=0
def tw6091538984403074682:=0
def tw16577077355644155478:=0
def tw16366996992653116911:=0
def tw10752202572400417742:=0
def tw6605675524749523663:=0
def tw911093201156197881:=0
def tw9099523285312516567:=0
def tw156913493754642066:=0
def tw776177713499107387:=0
def tw11725926719636926162:=0
def tw4906236620565112699:=0
def tw12909384866738882192:=0
def tw18256110385939104469:=0
def tw12740345113429704694:=0
def tw14228828790744050766:=0
def tw15526201865789809316:=0
def tw14420791442206917617:=0
def tw5404354380643760768:=0
def tw92778074556496812:=0
def tw16586169685704195817:=0
def tw4818130433252705608:=0
end PySem.W.Fast
open PySem PySem.W PyProof.Rows _3 _4
set_option maxRecDepth 100000 in
set_option maxHeartbeats 0 in
theorem PySem.Challenge.cw_vatyard_k29_met_where_a_plan_meets_holds : PySem.Challenge.rw_vatyard_k29_met_where_a_plan_meets.Holds := by
  w_on; o_law; k_head; (case hw => w_witness2)
  k_fill
  refine _3.law_walk (k := 9) (l := PySem.Challenge.rw_vatyard_k29_met_where_a_plan_meets) ⟨rfl, by decide, rfl, by decide⟩ rfl rfl (fun w h Yv => PySem.W.kIn_of Yv) ?F
  case F =>
    intro w mg fa h KX G hmg
    refine' _29.all_mk KX G hmg ?jB ?jU ?jX ?kL ?jI ?jF ?jC ?jQ ?jO ?jR ?jN ?jT ?jP ?jZ ?kZ ?kQ ?qA ?qF ?kR ?kS ?kF ?uH ?vE ?kT ?kG ?qB ?uN ?kH ?qC ?kU ?uZ ?uI ?uO ?vH ?uP ?vF ?qN ?uJ ?uW ?qG ?qR ?uB ?uC ?qS ?qH ?qO ?uD ?uE ?qT ?qI ?uF ?vI ?g_SOURCE ?g_SINK ?uU ?uT ?qU ?jK ?vA ?jL ?jM ?jW ?qW ?qJ ?jH ?kW ?vB ?uQ ?qK ?kt
    (case jB => walk_at "cls")
    (case jU => walk_at "cls")
    (case jX => walk_at "cls")
    (case kL => walk_at "cls")
    (case jI => k_is)
    (case jF => k_is)
    (case jC => k_is)
    (case jQ => k_is)
    (case jO => k_is)
    (case jR => k_is)
    (case jN => k_is)
    (case jT => k_is)
    (case jP => k_is)
    (case jZ => walk_at "meth")
    (case kZ => walk_at "meth")
    (case kQ => walk_at "meth")
    (case qA => walk_at "meth")
    (case qF => walk_at "meth")
    (case kR => walk_at "meth")
    (case kS => walk_at "meth")
    (case kF => walk_at "meth")
    (case uH => walk_at "topn")
    (case vE => walk_at "top")
    (case kT => walk_at "meth")
    (case kG => walk_at "meth")
    (case qB => walk_at "meth")
    (case uN => walk_at "top")
    (case kH => walk_at "meth")
    (case qC => walk_at "meth")
    (case kU => walk_at "meth")
    (case uZ => walk_at "top")
    (case uI => walk_at "top")
    (case uO => walk_at "top")
    (case vH => walk_at "top")
    (case uP => walk_at "top")
    (case vF => walk_at "top")
    (case qN => walk_at "top")
    (case uJ => walk_at "top")
    (case uW => walk_at "top")
    (case qG => walk_at "top")
    (case qR => walk_at "top")
    (case uB => walk_at "top")
    (case uC => walk_at "top")
    (case qS => walk_at "top")
    (case qH => walk_at "top")
    (case qO => walk_at "top")
    (case uD => walk_at "top")
    (case uE => walk_at "top")
    (case qT => walk_at "top")
    (case qI => walk_at "top")
    (case uF => walk_at "top")
    (case vI => walk_at "top")
    (case g_SOURCE => k_is)
    (case g_SINK => k_is)
    (case uU => k_is)
    (case uT => k_is)
    (case qU => k_is)
    (case jK => k_is)
    (case vA => k_is)
    (case jL => k_is)
    (case jM => k_is)
    (case jW => k_is)
    (case qW => k_is)
    (case qJ => k_is)
    (case jH => k_is)
    (case kW => k_is)
    (case vB => k_is)
    (case uQ => k_is)
    (case qK => k_is)
    (case kt => exact ⟨fun t ht T hT => by simp only [List.mem_cons, List.not_mem_nil, or_false] at ht hT; rcases ht with rfl | rfl | rfl | rfl | rfl | rfl <;> rcases hT with rfl | rfl | rfl | rfl | rfl <;> rfl⟩)
